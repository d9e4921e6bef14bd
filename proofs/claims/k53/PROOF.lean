import PyProof.Rows.All
import Wide.All
import OpenK.AllK
import Wide.FinOn
import Lean
import PyProof.EqAt
import PyProof.EqKinds
import PyProof.TupleCall
import PyProof.NeKinds
import PyProof.TupleKey
import PyProof.DictRoadsH
import PySem.SetTable
import PyProof.SetRoads
import PyProof.DictKeyH
import PyProof.IsRules
import PyProof.Rows.SetFrom
import PyProof.WalksMore
import PyProof.ListMulRoad
import PyProof.FactsAll.subtypes_4
import PyProof.Rows.ListMulArg
import PyProof.ZipIter
import PyProof.DictItems
import PyProof.DictValues
import PyProof.DictWalks
import PyProof.FactsAll.dict_itemiterator
import PyProof.Rows.SortRuns
import PyProof.Rows.SortKey
import PyProof.Rows.SortShell
import PyProof.Rows.SortWalk
import KE.KSortTup
import KE.KDictList
import PyProof.AutoListH
import PyProof.SumWalk
import PyProof.WalkInts
import PySem.Challenge.RW_hushcards_k53_all_of_two
abbrev hG:=@decide_eq_true
abbrev hJ:=@decide_eq_false
abbrev hU.{u}:=@if_neg.{u}
abbrev hV.{u}:=@if_pos.{u}
set_option Elab.async false
set_option linter.all false
set_option maxRecDepth 100000
set_option maxHeartbeats 4000000
open PySem renaming wpAny_bind->U3,wpAny_pure->U6,Value->Va,sizeLine->Vf,Shared->Vo,Addr->Vr,wpAny->Vs,starEach->Vx,model->VE,Around->VR,wpAny_newObj_type->VX,wpAny_call_entry->VY,mainGlobals->V0,wpAny_callSpecial?_slot->V1,bootBuiltins->We,mem_of_lookup->Wf,wpAny_mono->Wm,wpAny_setState_of->Wr,wpAny_holding->WA,foldedSetIterable->WB,compareOp->WO,wpAny_field->WR,Expr->W5,sizeLine_eq->W8,cLine->W9,wpAny_askSetting->Xi,wpAny_typeNameOfWhole_keyiter->Xj,wpAny_seqItems->Xn,sysModules->Xp,wpAny_rule->Xq,wpAny_setField_rec->XF,Heap->XI,Program->XJ,backTo->XR,wpAny_truthy_bool->XU,assignEach->XW,wpAny_passesOwn->XX,wpAny_typeNameOf_keyiter->X4,wpAny_attempt->X9,World->Ya,wpAny_setField->Yd,wpAny_specialOf->Yj,codeAny_builtin->Yn,behindInMarks->Ys,binaryOp->Yu,wpAny_collect_seq->Yx,IsPair->YB,eval->YD,firstArgMember->YG,SetTable->YI,wpAny_isInstance->YL,start->Y1,wpAny_pyIter_tuple->Y2,attributeBase->Y5,HeapKind->Y9,Stmt->Zf,sliceBounds->Zj,unsupported->Zn,wpAny_of_eq->Zo,wpAny_dictEntries->Zr,swapsWith->Zx,Keyword->Zz,wpAny_forIn_list->ZA,pyNext->ZD,wpAny_updateSeq_pair->ZE,FuncData->ZF,swapsWithSole->ZG,swappedStores->ZH,wpAny_execs_nil->ZO,letOwnedTupleGo->ZP,getItem->ZQ,keywordEach->ZR,wpAny_setEntries_of->ZW,Paired->Z3,rawInt->Z5,codeAny_mono->Z8,wpAny_Call_Name_kw->Z9,wpAny_typeOf->aab,Scope->aai,intKind->aaj,wpAny_fieldsOf->aan,wpAny_pyIter_list->aar,seqIndex?->aat,call_meets->aau,atKey->aav,wpAny_pyIter_slot->aaA,NameKind->aaB,PassesOwn->aaD,pickOrder->aaE
open List renaming getElem?_eq_getElem->U4,mem_cons_self->U8,size_toArray->U_,mem_cons_of_mem->Vc,length_map->Vd,length_append->Ve,getElem?_eq_some_iff->Vg,length_cons->Vi,mem_cons->Vk,mem_append_right->Vm,map_cons->Vp,mem_singleton->Vu,mem_append->Vv,append_assoc->VC,mem_append_left->VF,getElem?_set_ne->VH,mem_range->VJ,getElem?_map->VL,range->VN,flatten_cons->VP,getElem_mem->VS,append_nil->VU,all_eq_true->VZ,replicate->V2,mem_map->V3,length_take->V5,pairwise_cons->V6,getElem?_append_right->V9,pairwise_singleton->Wb,mem_of_getElem?->Wc,getElem?_cons_succ->Wg,nodup_cons->Wj,length_set->Wl,getElem?_append_left->Wn,drop_eq_getElem_cons->Wq,take_append_drop->Ww,length_drop->Wy,length_range->WC,find?_cons->WE,getElem?_eq_none_iff->WH,map_append->WI,eq_nil_of_length_eq_zero->WL,replicate_succ->WM,nil_append->WS,set_cons_zero->WW,mem_of_mem_take->WX,lookup_cons->WZ,map_map->W0,not_mem_nil->W2,take_succ_eq_append_getElem->W4,getD_eq_getElem?_getD->W6,pairwise_map->Xb,nodup_append->Xc,map_nil->Xg,mem_iff_getElem->Xk,mem_of_mem_drop->Xl,length_nil->Xt,flatten_append->Xu,mem_map_of_mem->Xv,getElem?_set_self->Xw,take_of_length_le->Xx,zipWith_cons_cons->Xy,cons_append->XA,set_cons_succ->XH,pairwise_iff_getElem->XO,extract_eq_take_drop->XQ,ext_getElem?->X2,map_congr_left->X_,drop_eq_nil_of_le->Ye,length_replicate->Yh,length_singleton->Yi,perm_append_comm->Yq,getElem?_eq_none->Yr,getD->YF,drop_length->YM,nodup_range->YN,mem_nil_iff->YO,take_length->YS,getElem?_range->YT,reverse_append->YU,replicate_zero->YV,zipWith->YX,zip_cons_cons->Y3,forIn_cons->Y7,all_cons->Y8,getElem?_drop->Za,find?_eq_none->Zb,getElem?_take->Zd,getElem_take->Zs,nodup_nil->Zv,drop_zero->Zw,filterMap_cons->ZN,length_zipWith->ZV,mem_filterMap->Z6,getElem?_take_of_lt->aas,filterMap_cons_some->aay
open PySem.Heap renaming get?_push_of_some->U5,get?_push_size->Vj,lt_size->Vl,size_push->Wo,get?_update_self->WQ,SameBut->Xe
open PySem.W renaming Frag->U7,mg_none_of->Wd,fnOf->WY,nsIn->W3,keepIn->Yc,findIn->Zt,codeIn->aak,methodObj->aaq
open Array renaming length_toList->U9,getElem?_toList->Vq,getElem?_eq_getElem->VD,toList_append->V7,getElem?_eq_some_iff->V_,toList_push->Xs,toList_extract->XS,toList_reverse->YC,getElem?_eq_none->Zh,getD->Zl,toList_setIfInBounds->Z1,perm_iff_toList_perm->Z2,forIn_toList->aae
open Bool renaming false_ne_true->Vb,and_eq_true->Vw,false_eq_true->VG,or_eq_false_iff->Ws,eq_iff_iff->X1,eq_false_iff->Yw,not_true->Yy,or_eq_true->Y_,and_false->Zu,not_false->aam
open Nat renaming le_refl->Vh,ne_of_lt->VB,lt_of_lt_of_le->VO,le_trans->Wa,zero_le->Wt,le_add_right->WK,mul_assoc->WT,add_sub_cancel_left->WV,lt_succ_of_lt->Xa,lt_irrefl->Xd,mul_comm->Xo,le_of_lt_succ->Xr,zero_add->XB,pow_succ->XC,add_assoc->X8,ne_of_gt->Yf,succ_pos->Yk,lt_or_ge->Yl,min_eq_left->Yp,mod_lt->Yz,lt_succ_self->YK,lt_of_le_of_lt->Y6,mul_left_comm->Zk,lt_trichotomy->Zm,sub_self->aaf,add_zero->aag
open PyProof.Rows renaming wpS_bind->Vn,wpS_pure->Vt,SortSt->Vz,Keyed->VA,pendingOf->VM,arrOf->VQ,kindOf->Wu,wpS_forRange->Wx,slot_tuple_getitem->W_,IntsAre->Xh,wpS_mono->XG,callWith_type1->Yg,SortKind->YQ,failedOf->YR,wpS_modify->YY,reverseSlice'->ZL,assignInOrder_cons->Z4,envOfC->Z_,seqObj->aad,gallopOf->aah,elem'->aao,wpS_get->aap,KeyOrd->aaC
open Option.some renaming inj->Vy
open PyProof.Rows.KeyOrd renaming kle_trans->VI,kle_of_klt->V4,kle_refl->WJ
open PySem.Builtin.SmallTypes renaming nextOf->VT,ownedTupleIsFree->WN,ownedTupleHandOut->YH
open PySem.PassesOwn renaming never->V8
open PySem.Heap.SameBut renaming update->Wh
open PySem.F renaming plainAttrs_list->Wi,slot_dict_keyiterator_next->Xm,slot_tuple_iterator_next->Xz,slot_list_extend->X5,type_list_extend->X6,args_tuple_add_2->YW,slot_list_append->YZ,type_list_append->Y0,entry_tuple_add->Y4,slot_tuple_add->Zg,args_dict_keyiterator_next_1->Zy,entry_dict_keyiterator_next->ZC,args_tuple_iterator_next_1->ZJ,slot_dict_setdefault->ZM,entry_tuple_iterator_next->ZT,slot_zip_next->ZU
open List.Perm renaming append_left->Wv,refl->Wz,append_right->W7
open Int renaming toNat_natCast->WD,emod_lt_of_pos->XD,emod_nonneg->Ym
open PySem.Builtin.Tuple renaming tupleHashOf->WG,tupleExact->XZ,tupleItemsOf->YA,tupleIsExact->Z0
open PySem.Obj renaming data_mapFields->WU,isFreed_of_fields->Yo,mapSeq->Yv,cls_mapFields->Zq,putSet->aaz
open PySem.Str renaming ofString->Xf
open PySem.Builtin.Slice renaming slicePlaces->XM,sliceAdjust->YE,sliceApplied->ZZ
open Classical renaming byContradiction->XN
open PySem.Around renaming under_plainId->XT
open PySem.SeqAt renaming EqAt->XY
open PySem.Builtin.List renaming listTooLong->X0,listLengthHint->ZX
open List.Pairwise renaming imp_of_mem->X3
open List.Nodup renaming length_le_of_subset->X7
open Option renaming getD_some->Yb,getD_none->YJ,map_eq_none_iff->Zi
open False renaming elim->Yt
open PyProof.Rows.F renaming plain_set_update_loop->Zc
open Nat.Coprime renaming dvd_of_dvd_mul_right->Ze
open PySem.Builtin.Frozenset renaming updateFrom->ZI
open PySem.Builtin.Dict_items renaming ownsTuple->ZK
open PySem.SeqAt.EqAt renaming same->ZS,int_int->aaa,of_refs->aac
open PySem.Calls renaming Name_function_global->ZY,spliced_cons->Z7,call_function_entry->aal
open PySem.SeqAt.RcAt renaming tuples->aaw,lists_lengths->aax
open PySem PySem.Spec PyProof.Rows
variable {a b it f p z i1 i2 a1 a2:Vr}{o l T ra rb S:List VA}{P prog:XJ}{w:Ya}{h h':XI}{t' i j k n g base m mask ep bc:Nat}{ch fp L L':List Vr}{x qual:Str}{N ps loose:List Str}{M:Model}{A:Vr->Prop}{E Q:Va->Vo->Prop}{t:YI}{s:Vo}{pins:List (Vr×Obj)}{pos:Pos}{op:CmpOp}{c tg iter elt:W5}{K:U7}{st:Zf}{body:List Zf}{hi:Option Int}{C:Nat->Option (Int×Va)}{its:List Va}{mg:Str->Option Va}{fd:ZF}{scope:aai}{items ys:Array Va}{ns d:List Int}{q:Va}{XP:(Str->Option Va)->XI->Prop}{YP:Ya->XI->Prop}{env:Env}{js:List (Option Nat)}{pz:List W5}{l1 l2:Bool}{ds:Array DictEntry}{arr:Array VA}{cS:List (List Int)}{d0 d1 d2 d3 d4 d5 e0 e1 e2 e3 e4 e5 d6 e6:Int}
namespace L2
noncomputable abbrev jI:=Sum Int Str
noncomputable def ug:jI->Va->Bool
 | .inl k,v=>Value.isInt k v
 | .inr x,v=>Value.isStrOf x v
noncomputable def Qd (w:Ya):jI->Int
 | .inl k=>hashInt k
 | .inr x=>hashStr w x
theorem cw:∀{k:jI} {v:Va},ug k v=true->(∃i t,k=Sum.inl i/\v=Value.int i t)\/(∃x t,k=Sum.inr x/\v=Value.str x t)
 | .inl i,v,h=>by
  obtain⟨t,e⟩:=Value.isInt_shape (k:=i) (v:=v) h;exact .inl ⟨i,t,rfl,e⟩
 | .inr x,v,h=>by
  obtain⟨t,e⟩:=Value.isStrOf_shape (x:=x) (v:=v) h;exact .inr ⟨x,t,rfl,e⟩
theorem B1 (i:Int)(t:Tok):ug (.inl i) (.int i t)=true:=by simp[ug,Value.isInt]
theorem B2 (x:Str)(t:Tok):ug (.inr x) (.str x t)=true:=by simp[ug,Value.isStrOf]
theorem Kv (a b:Int):decide ((Sum.inl a:jI)=Sum.inl b)=(a==b):=by
 by_cases e:a=b
 ·subst e;simp
 ·have h:¬(Sum.inl a:jI)=Sum.inl b:=λq=>e (Sum.inl.inj q);rw[hJ h];exact (beq_eq_false_iff_ne.mpr e).symm
theorem Kw (a b:Str):decide ((Sum.inr a:jI)=Sum.inr b)=decide (a=b):=by
 by_cases e:a=b
 ·subst e;simp
 ·have h:¬(Sum.inr a:jI)=Sum.inr b:=λq=>e (Sum.inr.inj q);rw[hJ h,hJ e]
theorem Kx (a:Int)(b:Str):decide ((Sum.inl a:jI)=Sum.inr b)=false:=hJ (λq=>nomatch q)
theorem Ky (a:Str)(b:Int):decide ((Sum.inr a:jI)=Sum.inl b)=false:=hJ (λq=>nomatch q)
noncomputable def ff (prog:XJ)(w:Ya):PySem.KeyKind prog w jI where
 is:=ug
 hash:=Qd w
 inj:=λv a b ha hb=>by
  rcases cw ha with⟨i,t,rfl,rfl⟩|⟨x,t,rfl,rfl⟩
  ·rcases cw hb with⟨j,u,rfl,e⟩|⟨y,u,rfl,e⟩
   ·injection e with e1 _;rw[e1]
   ·exact nomatch e
  ·rcases cw hb with⟨j,u,rfl,e⟩|⟨y,u,rfl,e⟩
   ·exact nomatch e
   ·injection e with e1 _;rw[e1]
 byValue:=λk v h=>by
  rcases cw h with⟨i,t,rfl,rfl⟩|⟨x,t,rfl,rfl⟩<;>rfl
 pyHash:=λhv h=>by
  rcases cw hv with⟨i,t,rfl,rfl⟩|⟨x,t,rfl,rfl⟩
  ·exact wpAny_pyHash_int h
  ·exact wpAny_pyHash_str h
 eqBool:=λhu hv h=>by
  rcases cw hu with⟨i,t,rfl,rfl⟩|⟨x,t,rfl,rfl⟩
  ·rcases cw hv with⟨j,u,rfl,rfl⟩|⟨y,u,rfl,rfl⟩
   ·rw[Kv] at h;exact wpAny_eqBool_int h
   ·rw[Kx] at h;exact SeqAt.EqAt.int_str i t y u _ _ _ _ h
  ·rcases cw hv with⟨j,u,rfl,rfl⟩|⟨y,u,rfl,rfl⟩
   ·rw[Ky] at h;exact SeqAt.EqAt.str_int x t j u _ _ _ _ h
   ·rw[Kw] at h;exact wpAny_eqBool_str h
 «strs»:=λk x t v h=>by
  rcases cw h with⟨i,u,rfl,e⟩|⟨y,u,rfl,e⟩
  ·exact nomatch e
  ·injection e with e1 _
   subst e1;cases v<;>rfl
theorem wX (prog:XJ)(w:Ya)(i:Int)(t:Tok):(ff prog w).is (.inl i) (.int i t)=true:=B1 i t
theorem wY (prog:XJ)(w:Ya)(x:Str)(t:Tok):(ff prog w).is (.inr x) (.str x t)=true:=B2 x t
end L2
namespace L2
inductive V where
 |non|bl (b:Bool)|int (i:Int)|str (x:Str)|byt (b:Array UInt8)|flt (b:UInt64)|ref (a:Vr)|ty (n:String)
 deriving DecidableEq
def bq:V->Va->Prop
 | .non,u=>u=Value.none
 | .bl b,u=>u=Value.bool b
 | .int i,u=>∃t,u=Value.int i t
 | .str x,u=>∃t,u=Value.str x t
 | .byt b,u=>∃t,u=Value.bytes b t
 | .flt b,u=>∃t,u=Value.float b t
 | .ref a,u=>u=Value.ref a
 | .ty n,u=>u=Value.type n
abbrev a_:List V->List Va->Prop:=Z3 bq
theorem a_.length {xs:List V}{us:List Va}(r:a_ xs us):xs.length=us.length:=Paired.length r
theorem a_.get:∀{xs:List V} {us:List Va} {i:Nat} {x:V},a_ xs us->xs[i]? = some x->∃u,us[i]? = some u/\bq x u
 |_,_,_,_,.nil,e=>by simp at e
 |_,_,0,_,.cons r _,e=>by simp at e;subst e;exact⟨_,rfl,r⟩
 |_,_,i+1,x,.cons _ t,e=>by
  obtain⟨u,h1,h2⟩:=a_.get (i:=i) (x:=x) t (by simpa using e);exact⟨u,by simpa using h1,h2⟩
theorem a_.set {x:V}{u:Va}(r:bq x u):∀{xs:List V} {us:List Va} (i:Nat),a_ xs us->a_ (xs.set i x) (us.set i u)
 |_,_,_,.nil=>.nil
 |_,_,0,.cons _ t=>.cons r t
 |_,_,i+1,.cons q t=>.cons q (a_.set r i t)
theorem a_.append:∀{xs ys:List V} {us ws:List Va},a_ xs us->a_ ys ws->a_ (xs++ys) (us++ws)
 |_,_,_,_,.nil,s=>s
 |_,_,_,_,.cons r t,s=>.cons r (a_.append t s)
theorem a_.take:∀{xs:List V} {us:List Va} (n:Nat),a_ xs us->a_ (xs.take n) (us.take n)
 |_,_,0,_=>.nil
 |_,_,_+1,.nil=>.nil
 |_,_,n+1,.cons r t=>.cons r (a_.take n t)
theorem a_.drop:∀{xs:List V} {us:List Va} (n:Nat),a_ xs us->a_ (xs.drop n) (us.drop n)
 |_,_,0,r=>r
 |_,_,_+1,.nil=>.nil
 |_,_,n+1,.cons _ t=>a_.drop n t
def pA:Option V->Option Va->Prop
 |some v,some u=>bq v u
 |none,none=>True
 |_,_=>False
def KV {κ:Type}:List (κ×V)->List (κ×Va)->Prop:=Z3 λ(p:κ×V) (q:κ×Va)=>p.1=q.1/\bq p.2 q.2
noncomputable def kV:jI->V
 | .inl i=>.int i
 | .inr x=>.str x
inductive HO where
 |lst (xs:List V)
 |tup (xs:List V)
 |dK (cn:List (jI×V))|dT (cn:List (List jI×V))
 |set (S:Int->Bool) (n:Nat)
 |ins (C dx:Vr) (fs:List (Str×V))
 |own (x:Vr)
 |xd (fs:List (Str×V))
 |met (f x:Vr)
 |rng (lo hi:Int)
 |frz (o:Obj) (u:HO)
 |tbl (ps:Array Va)
 |ext (φ:XI->Prop)
noncomputable abbrev Hp:=Vr->Option HO
noncomputable def cQ (H:Hp)(a:Vr)(o:HO):Hp:=λb=>if b=a then some o else H b
theorem bI {H:Hp}{o:HO}:cQ H a o a=some o:=by unfold cQ;rw[hV rfl]
theorem bg {H:Hp}{o:HO}(h:b≠a):cQ H a o b=H b:=by unfold cQ;rw[hU h]
theorem bM {H:Hp}{o:HO}(h:H a=some o)(h':H b=none):a≠b:=by
 intro e;subst e;rw[h] at h';cases h'
section
variable (P:XJ)(w:Ya)
def dG (H:Hp)(h:XI)(a:Vr):HO->Prop
 | .lst xs=>xs.length<=Vf/\∃(its:List Va) (n:Nat),a_ xs its/\h.get? a=some {cls:=.type "list",data:=.seq its.toArray n}
 | .tup xs=>xs.length<=Vf/\∃its:List Va,a_ xs its/\IsTup h a its.toArray/\∃n,h.get? a=some {cls:=.type "tuple",data:=.seq its.toArray n}
 | .dK cn=>cn.length<=Vf/\(a==Xp)=false/\∃vs,KV cn vs/\h.DictOf (ff P w) a vs
 | .dT cn=>cn.length<=Vf/\(a==Xp)=false/\∃xs:List (List jI×Vr×Va),
   Z3 (λ(p:List jI×V) (q:List jI×Vr×Va)=>p.1=q.1/\H q.2.1=some (.tup (p.1.map kV))/\bq p.2 q.2.2) cn xs/\
   ∃o es ep,h.get? a=some o/\o.ExactDict/\o.data=.dict es ep/\es.toList=xs.map (entryOfKey (tupleKind (ff P w)))/\(xs.map (·.1)).Nodup
 | .set S n=>h.SetOf (aaj P w) a S n
 | .ins C dx fs=>H dx=some (.own a)/\fs.length<=1000/\dx≠a/\h.get? a=some (PySem.W.instObj C dx)/\
   ∃mA,h.Ns1 dx mA/\(∀f,pA (fs.lookup f) (mA f))/\PySem.Within mA (fs.map (·.1))
 | .own _=>∃o,h.get? a=some o
 | .xd fs=>∃mA,h.Ns1 a mA/\∀f,pA (fs.lookup f) (mA f)
 | .rng lo hi=>∃t u v,h.get? a=some {cls:=.type "range",data:=.fields #[.int lo t,.int hi u,.int 1 v]}
 | .frz o u=>h.get? a=some o/\dG H h a u
 | .tbl ps=>h.get? a=some {cls:=.none,data:=.fields ps}
 | .met f x=>h.get? a=some (aaq (.ref f) (.ref x))
 | .ext φ=>φ h/\(∃o,h.get? a=some o)/\∀h1 h2:XI,φ h1->(∀o,h1.get? a=some o->h2.get? a=some o)->φ h2
def kZ (H:Hp)(h:XI):Prop:=∀a o,H a=some o->dG P w H h a o
end
section
variable {H H':Hp}{o:HO}
theorem dG.lt (x:dG P w H h a o):a<h.objs.size:=by
 cases o with
 |lst xs=>obtain⟨_,_,_,_,e⟩:=x;exact Vl e
 |tup xs=>obtain⟨_,_,_,p,_⟩:=x;exact p.lt
 |dK cn=>obtain⟨_,_,_,_,o,_,_,e,_⟩:=x;exact Vl e
 |dT cn=>obtain⟨_,_,_,_,o,_,_,e,_⟩:=x;exact Vl e
 |set S n=>obtain⟨o,_,_,_,e,_⟩:=x;exact Vl e
 |ins C dx fs=>obtain⟨_,_,_,e,_⟩:=x;exact Vl e
 |own y=>obtain⟨_,e⟩:=x;exact Vl e
 |xd fs=>obtain⟨_,⟨_,_,_,e,_⟩,_⟩:=x;exact Vl e
 |rng lo hi=>obtain⟨_,_,_,e⟩:=x;exact Vl e
 |frz ob u=>obtain⟨e,_⟩:=x;exact Vl e
 |tbl ps=>exact Vl (show h.get? a=some _ from x)
 |met f y=>exact Vl (show h.get? a=some _ from x)
 |ext φ=>obtain⟨_,⟨_,e⟩,_⟩:=x;exact Vl e
theorem Paired.mapP {α β:Type}{F G:α->β->Prop}:∀{l₁:List α} {l₂:List β},Z3 F l₁ l₂->(∀a b,F a b->G a b)->Z3 G l₁ l₂
 |_,_,.nil,_=>.nil
 |_,_,.cons r t,f=>.cons (f _ _ r) (Paired.mapP t f)
theorem dG.stay (x:dG P w H h a o)(k:∀b u,(b=a\/H b=some (.own a))->h.get? b=some u->h'.get? b=some u)
  (ho:∀b,H b=some (.own a)->H' b=some (.own a)) (ht:∀b xs,H b=some (.tup xs)->H' b=some (.tup xs)):dG P w H' h' a o:=by
 induction o with
 |lst xs=>obtain⟨z,its,n,r,e⟩:=x;exact⟨z,its,n,r,k _ _ (.inl rfl) e⟩
 |tup xs=>obtain⟨z,its,r,⟨ob,e,c⟩,n2,e2⟩:=x;exact⟨z,its,r,⟨ob,k _ _ (.inl rfl) e,c⟩,n2,k _ _ (.inl rfl) e2⟩
 |dK cn=>obtain⟨z,y,vs,r,ob,es,ep,e,c⟩:=x;exact⟨z,y,vs,r,ob,es,ep,k _ _ (.inl rfl) e,c⟩
 |dT cn=>
  obtain⟨z,y,xs,r,ob,es,ep,e,c⟩:=x;exact⟨z,y,xs,Paired.mapP r λp q z=>⟨z.1,ht _ _ z.2.1,z.2.2⟩,ob,es,ep,k _ _ (.inl rfl) e,c⟩
 |set S n=>obtain⟨ob,es,ep,t,e,c⟩:=x;exact⟨ob,es,ep,t,k _ _ (.inl rfl) e,c⟩
 |ins C dx fs=>
  obtain⟨d,z,ne,e,mA,⟨od,es,ep,e2,c⟩,r⟩:=x;exact⟨ho _ d,z,ne,k _ _ (.inl rfl) e,mA,⟨od,es,ep,k _ _ (.inr d) e2,c⟩,r⟩
 |own y=>obtain⟨ob,e⟩:=x;exact⟨ob,k _ _ (.inl rfl) e⟩
 |xd fs=>obtain⟨mA,⟨od,es,ep,e,c⟩,r⟩:=x;exact⟨mA,⟨od,es,ep,k _ _ (.inl rfl) e,c⟩,r⟩
 |rng lo hi=>obtain⟨t,u,v,e⟩:=x;exact⟨t,u,v,k _ _ (.inl rfl) e⟩
 |frz ob u ih=>obtain⟨e,q⟩:=x;exact⟨k _ _ (.inl rfl) e,ih q⟩
 |tbl ps=>
  have e:h.get? a=some {cls:=.none,data:=.fields ps}:=x;show h'.get? a=some {cls:=.none,data:=.fields ps};exact k a _ (.inl rfl) e
 |met f y=>
  have e:h.get? a=some (aaq (.ref f) (.ref y)):=x;show h'.get? a=some (aaq (.ref f) (.ref y));exact k a _ (.inl rfl) e
 |ext φ=>obtain⟨p,⟨o,e⟩,st⟩:=x;exact⟨st _ _ p λo q=>k _ _ (.inl rfl) q,⟨o,k _ _ (.inl rfl) e⟩,st⟩
theorem kZ.lt (x:kZ P w H h)(e:H a=some o):a<h.objs.size:=(x a o e).lt
theorem kZ.fresh (x:kZ P w H h)(e:h.objs.size<=a):H a=none:=by
 cases q:H a with
 |none=>rfl
 |some u=>exact absurd (VO (x.lt q) e) (Xd _)
theorem kZ.kept (x:kZ P w H h)(k:∀b u,h.get? b=some u->h'.get? b=some u):kZ P w H h':=λa o e=>
 (x a o e).stay (λb u _ q=>k b u q) (λ_ q=>q) λ_ _ q=>q
theorem kZ.laid (x:kZ P w H h)(k:∀b u,h.get? b=some u->h'.get? b=some u)(hp:h.objs.size<=a)(new:dG P w (cQ H a o) h' a o):kZ P w (cQ H a o) h':=λb u e=>by
 have hn:=x.fresh hp;by_cases hb:b=a
 ·subst hb;rw[bI] at e;cases e;exact new
 ·rw[bg hb] at e;exact (x b u e).stay (λc v _ q=>k c v q) (λc q=>by rw[bg (bM q hn)];exact q) λc xs q=>by rw[bg (bM q hn)];exact q
end
def Rd (H:Hp)(a:Vr)(u:HO):Prop:=H a=some u\/∃o,H a=some (.frz o u)
theorem Rd.ok {H:Hp}{u:HO}(r:Rd H a u)(x:kZ P w H h):dG P w H h a u:=by
 rcases r with r|⟨o,r⟩
 ·exact x a u r
 ·obtain⟨_,q⟩:=x a _ r;exact q
def MK:Option HO->Prop
 |some (.lst _)=>True
 |some (.dK _)=>True
 |some (.dT _)=>True
 |some (.set _ _)=>True
 |some (.ins _ _ _)=>True
 |some (.ext _)=>True
 |_=>False
section
variable {H:Hp}{x e:Vr}{o':HO}
theorem kZ.write (ok:kZ P w H h)(mu:MK (H x))(he:e=x\/H e=some (.own x))(k:∀b u,b≠e->h.get? b=some u->h'.get? b=some u)(MT:∃u,h'.get? e=some u)
  (new:dG P w (cQ H x o') h' x o'):kZ P w (cQ H x o') h':=λb u q=>by
 have OZ:∀c y,H c=some (.own y)->c≠x:=λc y r z=>by subst z;rw[r] at mu;exact mu
 have Ru:∀c xs,H c=some (.tup xs)->c≠x:=λc xs r z=>by subst z;rw[r] at mu;exact mu
 by_cases hb:b=x
 ·subst hb;rw[bI] at q;cases q;exact new
 ·rw[bg hb] at q;by_cases hbe:b=e
  ·have q':H b=some (.own x):=by
    rcases he with z|z
    ·exact absurd (hbe.trans z) hb
    ·rw[hbe];exact z
   rw[q] at q';cases q';obtain⟨v,hv⟩:=MT;exact⟨v,by rw[hbe];exact hv⟩
  ·refine (ok b u q).stay (λc v hc r=>k c v ?_ r) (λc r=>by rw[bg (OZ c b r)];exact r) λc xs r=>by rw[bg (Ru c xs r)];exact r
   rcases hc with rfl|hc
   ·exact hbe
   ·rintro rfl;rcases he with z|z
    ·exact OZ c b hc z
    ·rw[hc] at z;cases z;exact hb rfl
end
structure Un (fs ex:List Vr)(H H':Hp)(h h':XI):Prop where
 keep:∀b o,h.get? b=some o->H b=none->b∉fs->b∉ex->h'.get? b=some o
 slot:∀b o,h.get? b=some o->H b=none->b∈fs->b∉ex->∃sl,h'.get? b=some {o with slots:=sl}
 free:∀b o,h.get? b=some o->H b=none->b∉ex->H' b=none
 there:∀b o,h.get? b=some o->b∉ex->∃o',h'.get? b=some o'
 tups:∀b xs,H b=some (.tup xs)->H' b=some (.tup xs)
 frzs:∀b o u,H b=some (.frz o u)->H' b=some (.frz o u)
 tbls:∀b ps,H b=some (.tbl ps)->∃more,H' b=some (.tbl (ps++more))
section
variable {fs fs' ex ex':List Vr}{H H1 H2:Hp}{h1 h2:XI}{x e:Vr}{o:HO}
theorem Un.any (u:Un fs ex H H1 h h1){ob:Obj}(q:h.get? b=some ob)(n:H b=none)(hx:b∉ex):∃sl,h1.get? b=some {ob with slots:=sl}:=by
 by_cases hb:b∈fs
 ·exact u.slot b ob q n hb hx
 ·exact⟨ob.slots,u.keep b ob q n hb hx⟩
theorem Un.kept (k:∀b u,h.get? b=some u->h'.get? b=some u):Un fs ex H H h h' :=
 ⟨λb ob q _ _ _=>k b ob q,λb ob q _ _ _=>⟨ob.slots,k b ob q⟩,λ_ _ _ n _=>n,λb ob q _=>⟨ob,k b ob q⟩,λ_ _ q=>q,λ_ _ _ q=>q,λ_ ps q=>⟨#[],by rw[q];simp⟩⟩
theorem Un.refl:Un fs ex H H h h:=Un.kept λ_ _ q=>q
theorem Un.laid (k:∀b u,h.get? b=some u->h'.get? b=some u)(hp:h.objs.size<=a)(hn:H a=none):Un fs ex H (cQ H a o) h h' where
 keep:=λb u q _ _ _=>k b u q
 slot:=λb u q _ _ _=>⟨u.slots,k b u q⟩
 free:=λb u q n _=>by rw[bg (VB (VO (Vl q) hp))];exact n
 there:=λb u q _=>⟨u,k b u q⟩
 tups:=λb xs q=>by rw[bg (bM q hn)];exact q
 frzs:=λb u xs q=>by rw[bg (bM q hn)];exact q
 tbls:=λb ps q=>⟨#[],by rw[bg (bM q hn),q];simp⟩
theorem Un.write (mu:MK (H x))(he:e=x\/H e=some (.own x))(k:∀b u,b≠e->h.get? b=some u->h'.get? b=some u)(MT:∃u,h'.get? e=some u):Un fs ex H (cQ H x o) h h':=by
 have hx:∀b,H b=none->b≠x:=λb n z=>by subst z;rw[n] at mu;exact mu
 have hb:∀b,H b=none->b≠e:=λb n z=>by
  subst z;rcases he with r|r
  ·exact hx b n r
  ·rw[n] at r;cases r
 have hm:∀b u,H b=some u->¬MK (some u)->b≠x:=λb u q nm z=>by subst z;rw[q] at mu;exact nm mu
 refine⟨λb u q n _ _=>k b u (hb b n) q,λb u q n _ _=>⟨u.slots,k b u (hb b n) q⟩,λb u q n _=>by rw[bg (hx b n)];exact n,λb u q _=>?_,
  λb xs q=>by rw[bg (hm b _ q λz=>z)];exact q,λb u xs q=>by rw[bg (hm b _ q λz=>z)];exact q,λb ps q=>⟨#[],by rw[bg (hm b _ q λz=>z),q];simp⟩⟩
 by_cases hbe:b=e
 ·subst hbe;exact MT
 ·exact⟨u,k b u hbe q⟩
end
noncomputable def Pu (h:XI)(H:Hp):List Vr:=(VN h.objs.size).filter λa=>(H a).isSome
noncomputable def vi (h:XI)(H:Hp):XI:=PySem.W.hideAll h (Pu h H)
theorem B3 (h:XI)(H:Hp):(vi h H).objs.size=h.objs.size:=PySem.W.hideAll_size _ _
theorem Dj {H:Hp}{o:Obj}(e:h.get? b=some o)(n:H b=none):(vi h H).get? b=some o:=
 PySem.W.hideAll_get _ e λhm=>by
  have q:(H b).isSome=true:=(List.mem_filter.mp hm).2;rw[n] at q;simp at q
theorem GQ {H:Hp}{o:Obj}(e:(vi h H).get? b=some o):h.get? b=some o/\H b=none:=by
 have e':h.get? b=some o:=PySem.W.of_hideAll (Pu h H) e;refine⟨e',?_⟩;cases q:H b with
 |none=>rfl
 |some x=>
  have hm:b∈Pu h H:=List.mem_filter.mpr ⟨VJ.mpr (Vl e'),by simp[q]⟩;have z:(vi h H).get? b=none:=PySem.W.hideAll_none (Pu h H) hm;rw[z] at e;cases e
end L2
variable {xs vs:List L2.V}{H H' H1 H2:L2.Hp}{v y v':L2.V}
namespace L2
structure Mod (K:U7)(mg:Str->Option Va)(base:XI):Prop where
 kin:K.In base
 glob:base.Ns V0 mg
 blt:∃mb,base.Ns builtinsNs mb/\∀x:Str,x≠"__name__"->mb x=We x
 nolimit:base.NoLimit
structure Cx where
 prog:XJ
 w:Ya
 K:U7
 mg:Str->Option Va
 base:XI
 A:VR
 N:List Str
 s₀:Vo
 H₀:Hp
 env:Env
 outer:List Env
 stack:List Env
 ex:List Vr
 fn:Str->Bool
 calm:Bool
 pn:List (Vr×Obj)
 xe:Va->Vo->Prop
noncomputable def Aw (l:List Env):List Vr:=l.filterMap (·.frame)
noncomputable abbrev Cx.fs (X:Cx):List Vr:=Aw X.outer
def GR (sc:aai)(x:Str):Prop:=sc.names.lookup x=some .local\/sc.names.lookup x=some .cell\/sc.names.lookup x=some .free
def GD (sc:aai)(x:Str):Prop:=sc.names.lookup x=some .local\/sc.names.lookup x=some .cell
def Qe (env:Env)(h:XI)(m:Str->Option Va)(x:Str)(u:Va):Prop:=
 (env.kindOf x=some .local/\m x=some u)\/((env.kindOf x=some .cell\/env.kindOf x=some .free)/\∃c,env.cells.lookup x=some c/\h.IsCell c (some u))
structure Cx.Ok (X:Cx):Prop where
 mod:Mod X.K X.mg X.base
 kind:X.env.scope.kind=.function
 glob:X.env.globals=V0
 blt:X.env.builtins=builtinsNs
 above:X.s₀.heap.objs.size<=X.env.locals
 inj:∀x y c,X.env.cells.lookup x=some c->X.env.cells.lookup y=some c->x=y
 has:∀x,(X.env.kindOf x=some .cell\/X.env.kindOf x=some .free)->∃c,X.env.cells.lookup x=some c
 cab:∀x c,X.fn x=true->X.env.cells.lookup x=some c->X.s₀.heap.objs.size<=c
 hd:X.calm=true->X.A.handled=none
 frames:X.A.frames=some X.stack
 stk:X.stack=X.outer\/(X.stack=X.env::X.outer/\X.env.frame=some X.env.locals)
 exf:∀b∈X.ex,b≠X.env.locals/\∀x c,X.env.cells.lookup x=some c->c≠b
 bs:∀b o,X.base.get? b=some o->X.s₀.heap.get? b=some o/\X.H₀ b=none
 bsz:X.base.objs.size<=X.s₀.heap.objs.size
 noex:∀b o,X.base.get? b=some o->b∉X.ex
 exfs:∀b∈X.ex,b∉X.fs
 funs:X.s₀.heap.FunFrames X.base X.outer
 frf:∀b∈X.fs,X.H₀ b=none
structure aI (X:Cx)(pins:List (Vr×Obj))(σ:List (Option V))(H:Hp)(s:Vo):Prop where
 ok:X.Ok
 os:s.os=X.s₀.os
 bare:AllBare s.gens
 base:Un X.fs X.ex X.H₀ H X.s₀.heap s.heap
 loc:∃m,s.heap.Ns X.env.locals m/\∀(i:Nat) (x:Str) (v:V),X.N[i]? = some x->σ[i]? = some (some v)->GR X.env.scope x->∃u,bq v u/\Qe X.env s.heap m x u
 cell:∀x c,X.env.cells.lookup x=some c->∃v,s.heap.IsCell c v
 free:H X.env.locals=none
 freeC:∀x c,X.env.cells.lookup x=some c->H c=none
 pin:∀p∈X.pn++pins,s.heap.get? p.1=some p.2/\H p.1=none/\p.1≠X.env.locals/\p.1∉X.fs/\∀v,p.2.data≠.cell v
 hok:kZ X.prog X.w H s.heap
 len:σ.length=X.N.length
section
variable {X:Cx}{σ:List (Option V)}
theorem Cx.Ok.nofr (ok:X.Ok){o:Obj}(e:X.base.get? b=some o):b∉X.fs:=λhb=>by
 have:=(ok.funs.mem hb).1;rw[e] at this;cases this
theorem aI.bs (I:aI X pins σ H s):∀b o,X.base.get? b=some o->s.heap.get? b=some o/\H b=none:=λb o e=>
 ⟨I.base.keep b o (I.ok.bs b o e).1 (I.ok.bs b o e).2 (I.ok.nofr e) (I.ok.noex b o e),I.base.free b o (I.ok.bs b o e).1 (I.ok.bs b o e).2 (I.ok.noex b o e)⟩
theorem aI.bk (I:aI X pins σ H s):∀b o,X.base.get? b=some o->s.heap.get? b=some o:=λb o e=>(I.bs b o e).1
theorem aI.mod (I:aI X pins σ H s):Mod X.K X.mg X.base:=I.ok.mod
theorem aI.kIn (I:aI X pins σ H s):X.K.In s.heap:=I.ok.mod.kin.keeps I.bk
theorem aI.lt (I:aI X pins σ H s):X.env.locals<s.heap.objs.size:=let ⟨_,hn,_⟩:=I.loc;hn.lt
theorem aI.sz (I:aI X pins σ H s):X.s₀.heap.objs.size<=s.heap.objs.size:=Wa I.ok.above (Nat.le_of_lt I.lt)
theorem aI.nofs (I:aI X pins σ H s)(h:s.heap.objs.size<=a):a∉X.fs:=λhb=>by
 obtain⟨_,o,ho,_⟩:=I.ok.funs.mem hb;exact absurd (VO (Vl ho) (Wa I.sz h)) (Xd _)
theorem aI.cne (I:aI X pins σ H s):∀x c,X.env.cells.lookup x=some c->c≠X.env.locals:=λx c e z=>by
 obtain⟨v,o,ho,hd⟩:=I.cell x c e;obtain⟨m,⟨o',es,ep,Gn,hd',_⟩,_⟩:=I.loc;rw[z,Gn] at ho;cases ho;rw[hd'] at hd;cases hd
theorem aI.funs (I:aI X pins σ H s):s.heap.FunFrames X.base X.outer:=by
 have all:∀(l:List Env),(∀b∈Aw l,b∈X.fs)->X.s₀.heap.FunFrames X.base l->s.heap.FunFrames X.base l:=by
  intro l
  induction l with
  |nil=>intro _ _;trivial
  |cons env r ih=>
   intro hs hl;obtain⟨hk,⟨L,o,hf,hn,ho,hd⟩,hr⟩:=hl;have hL:L∈X.fs:=hs L (by unfold Aw;rw[ZN,hf];exact U8);obtain⟨sl,e⟩:=I.base.slot L o ho (I.ok.frf L hL) hL λz=>I.ok.exfs L z hL;exact⟨hk,⟨L,_,hf,hn,e,hd⟩,ih (λb hb=>hs b (by unfold Aw;rw[ZN,hf];exact Vc _ hb)) hr⟩
 exact all X.outer (λ_ hb=>hb) I.ok.funs
theorem aI.stack (I:aI X pins σ H s):s.heap.FunFrames X.base X.stack:=by
 rcases I.ok.stk with e|⟨e,hf⟩
 ·rw[e];exact I.funs
 ·rw[e];obtain⟨m,hn,_⟩:=I.loc;refine .cons (by rw[I.ok.kind];decide) hf hn ?_ I.funs;exact Heap.get?_none_of_le (Wa I.ok.bsz I.ok.above)
theorem aI.stkSub (I:aI X pins σ H s):∀b∈Aw X.stack,b∈X.env.locals::X.fs:=λb hb=>by
 rcases I.ok.stk with e|⟨e,hf⟩
 ·rw[e] at hb;exact Vc _ hb
 ·rw[e] at hb;unfold Aw at hb;rw[ZN,hf] at hb;exact hb
theorem aI.stkFree (I:aI X pins σ H s):∀b∈Aw X.stack,H b=none:=λb hb=>by
 rcases Vk.mp (I.stkSub b hb) with e|hb
 ·rw[e];exact I.free
 ·obtain⟨_,o,ho,_⟩:=I.ok.funs.mem hb;exact I.base.free b o ho (I.ok.frf b hb) λz=>I.ok.exfs b z hb
theorem aI.step {t':Nat}{g':Array GenState}{d':Drawn}(I:aI X pins σ H s)(GJ:∀b∈ch,(b∈X.ex\/X.s₀.heap.objs.size<=b)/\b≠X.env.locals/\(∀x c,X.env.cells.lookup x=some c->c≠b)/\∀p∈X.pn++pins,p.1≠b)(keep:∀b o,b≠X.env.locals->b∉X.fs->b∉ch->s.heap.get? b=some o->H b=none->h'.get? b=some o)(slot:∀b o,b≠X.env.locals->b∈X.fs->b∉ch->s.heap.get? b=some o->H b=none->∃sl,h'.get? b=some {o with slots:=sl})(free:∀b o,b∉ch->s.heap.get? b=some o->H b=none->H' b=none)(there:∀b o,b∉ch->s.heap.get? b=some o->∃o',h'.get? b=some o')(tups:∀b xs,H b=some (.tup xs)->H' b=some (.tup xs))(frzs:∀b o u,H b=some (.frz o u)->H' b=some (.frz o u))(tbls:∀b ps,H b=some (.tbl ps)->∃more,H' b=some (.tbl (ps++more)))(ns:∀m,s.heap.Ns X.env.locals m->h'.Ns X.env.locals m)(hok:kZ X.prog X.w H' h')(hg:AllBare g') :
  aI X pins σ H' {s with heap:=h',gens:=g',drawn:=d',toks:=t'}:=by
 have SJ:∀b o,X.s₀.heap.get? b=some o->b≠X.env.locals:=λb o e=>VB (VO (Vl e) I.ok.above);have P5:∀b o,X.s₀.heap.get? b=some o->b∉X.ex->b∉ch:=λb o e hx hb=>by
  rcases (GJ b hb).1 with z|z
  ·exact hx z
  ·exact absurd (VO (Vl e) z) (Xd _)
 have Kc:∀x c,X.env.cells.lookup x=some c->∀v,s.heap.IsCell c v->h'.IsCell c v:=λx c e v h00=>by
  obtain⟨o,ho,hd⟩:=h00;have O0:c∉ch:=λz=>(GJ c z).2.2.1 x c e rfl;by_cases hc:c∈X.fs
  ·obtain⟨sl,q⟩:=slot c o (I.cne x c e) hc O0 ho (I.freeC x c e);exact⟨_,q,hd⟩
  ·exact⟨o,keep c o (I.cne x c e) hc O0 ho (I.freeC x c e),hd⟩
 refine⟨I.ok,I.os,hg,⟨λb o e n hb hx=>?_,λb o e n hb hx=>?_,λb o e n hx=>?_,λb o e hx=>?_,λb xs e=>tups b xs (I.base.tups b xs e),λb o xs e=>frzs b o xs (I.base.frzs b o xs e),λb ps e=>?_⟩,?_,λx c e=>?_,?_,λx c e=>?_,λp hp=>?_,hok,I.len⟩
 ·exact keep b o (SJ b o e) hb (P5 b o e hx) (I.base.keep b o e n hb hx) (I.base.free b o e n hx)
 ·obtain⟨sl,e1⟩:=I.base.slot b o e n hb hx;obtain⟨sl',e2⟩:=slot b _ (SJ b o e) hb (P5 b o e hx) e1 (I.base.free b o e n hx);exact⟨sl',e2⟩
 ·obtain⟨o',e1⟩:=I.base.there b o e hx;exact free b o' (P5 b o e hx) e1 (I.base.free b o e n hx)
 ·obtain⟨o',e1⟩:=I.base.there b o e hx;exact there b o' (P5 b o e hx) e1
 ·obtain⟨m1,e1⟩:=I.base.tbls b ps e;obtain⟨m2,e2⟩:=tbls b _ e1;exact⟨m1++m2,by rw[e2,Array.append_assoc]⟩
 ·obtain⟨m,hn,hl⟩:=I.loc;refine⟨m,ns m hn,λi x v e1 e2 e3=>?_⟩;obtain⟨u,r,l⟩:=hl i x v e1 e2 e3;refine⟨u,r,?_⟩;rcases l with l|⟨k,c,e,z⟩
  ·exact .inl l
  ·exact .inr ⟨k,c,e,Kc x c e _ z⟩
 ·obtain⟨v,z⟩:=I.cell x c e;exact⟨v,Kc x c e v z⟩
 ·obtain⟨m,⟨o,_,_,ho,_⟩,_⟩:=I.loc;exact free _ o (λz=>(GJ _ z).2.1 rfl) ho I.free
 ·obtain⟨v,o,ho,hd⟩:=I.cell x c e;exact free c o (λz=>(GJ c z).2.2.1 x c e rfl) ho (I.freeC x c e)
 ·obtain⟨e,n,ne,nf,d⟩:=I.pin p hp;have O0:p.1∉ch:=λz=>(GJ p.1 z).2.2.2 p hp rfl;exact⟨keep p.1 p.2 ne nf O0 e n,free p.1 p.2 O0 e n,ne,nf,d⟩
theorem aI.un {t':Nat}(I:aI X pins σ H s)(u:Un X.fs [] H H' s.heap h')(hok:kZ X.prog X.w H' h'):aI X pins σ H' {s with heap:=h',toks:=t'}:=by
 obtain⟨m,⟨o,es,ep,ho,r⟩,_⟩:=id I.loc;obtain⟨sl,hL⟩:=u.any ho I.free (by simp);exact I.step (g':=s.gens) (d':=s.drawn) (ch:=[]) (λ_ z=>nomatch z) (λb o _ hb _ e n=>u.keep b o e n hb (by simp)) (λb o _ hb _ e n=>u.slot b o e n hb (by simp)) (λb o _ e n=>u.free b o e n (by simp)) (λb o _ e=>u.there b o e (by simp)) u.tups u.frzs u.tbls (λm' hm=>by
  obtain⟨o',Gz,ep',Gn,r'⟩:=hm;rw[ho] at Gn;cases Gn;exact⟨_,Gz,ep',hL,r'⟩) hok I.bare
theorem aI.call {t':Nat}{g':Array GenState}{d':Drawn}(I:aI X pins σ H s)(u:Un (Aw X.stack) ch H H' s.heap h')(hok:kZ X.prog X.w H' h')(hg:AllBare g')(GJ:∀b∈ch,(b∈X.ex\/X.s₀.heap.objs.size<=b)/\b≠X.env.locals/\(∀x c,X.env.cells.lookup x=some c->c≠b)/\∀p∈X.pn++pins,p.1≠b) :
  aI X pins σ H' {s with heap:=h',gens:=g',drawn:=d',toks:=t'}:=by
 obtain⟨m,⟨o,es,ep,ho,r⟩,_⟩:=id I.loc;obtain⟨sl,hL⟩:=u.any ho I.free λz=>(GJ _ z).2.1 rfl;exact I.step (ch:=ch) GJ (λb o hL hb hc e n=>u.keep b o e n (λz=>(Vk.mp (I.stkSub b z)).elim hL hb) hc) (λb o _ _ hc e n=>u.any e n hc) (λb o hc e n=>u.free b o e n hc) (λb o hc e=>u.there b o e hc) u.tups u.frzs u.tbls (λm' hm=>by
  obtain⟨o',Gz,ep',Gn,r'⟩:=hm;rw[ho] at Gn;cases Gn;exact⟨_,Gz,ep',hL,r'⟩) hok hg
theorem aI.turned {t':Nat}(I:aI X pins σ H s)(k:∀b o,b≠it->s.heap.get? b=some o->h'.get? b=some o)(hn:H it=none)(hL:it≠X.env.locals)(h1:it∈X.ex\/X.s₀.heap.objs.size<=it)(h2:∀x c,X.env.cells.lookup x=some c->c≠it)(h3:∀p∈X.pn++pins,p.1≠it):aI X pins σ H {s with heap:=h',toks:=t'}:=by
 have SK:∀b u,H b=some u->b≠it:=λb u e z=>by rw[z,hn] at e;cases e
 refine I.step (g':=s.gens) (d':=s.drawn) (ch:=[it]) (λb hb=>?_) (λb o _ _ hc e _=>k b o (λz=>hc (by simp[z])) e) (λb o _ _ hc e _=>⟨o.slots,k b o (λz=>hc (by simp[z])) e⟩) (λ_ _ _ _ n=>n)
  (λb o hc e=>⟨o,k b o (λz=>hc (by simp[z])) e⟩) (λ_ _ e=>e) (λ_ _ _ e=>e) (λb ps e=>⟨#[],by rw[e];simp⟩) (λm hm=>?_) (λb u e=>?_) I.bare
 ·have e:b=it:=by simpa using hb
  subst e;exact⟨h1,hL,h2,h3⟩
 ·obtain⟨o,es,ep,ho,r⟩:=hm;exact⟨o,es,ep,k _ o (Ne.symm hL) ho,r⟩
 ·refine (I.hok b u e).stay (λc v hc q=>k c v ?_ q) (λ_ q=>q) λ_ _ q=>q;rcases hc with z|z
  ·rw[z];exact SK b u e
  ·exact SK c _ z
theorem aI.tok (I:aI X pins σ H s)(t:Nat):aI X pins σ H {s with toks:=t}:=I.un (h':=s.heap) (t':=t) Un.refl I.hok
theorem aI.kept {t':Nat}(I:aI X pins σ H s)(k:∀b u,s.heap.get? b=some u->h'.get? b=some u):aI X pins σ H {s with heap:=h',toks:=t'}:=I.un (Un.kept k) (I.hok.kept k)
theorem aI.laid {t':Nat}{o:HO}(I:aI X pins σ H s)(k:∀b u,s.heap.get? b=some u->h'.get? b=some u)(hp:s.heap.objs.size<=a)(new:dG X.prog X.w (cQ H a o) h' a o) :
  aI X pins σ (cQ H a o) {s with heap:=h',toks:=t'}:=I.un (Un.laid k hp (I.hok.fresh hp)) (I.hok.laid k hp new)
theorem aI.write {t':Nat}{x e:Vr}{o:HO}(I:aI X pins σ H s)(mu:MK (H x))(he:e=x\/H e=some (.own x))(k:∀b u,b≠e->s.heap.get? b=some u->h'.get? b=some u)(MT:∃u,h'.get? e=some u)(new:dG X.prog X.w (cQ H x o) h' x o):aI X pins σ (cQ H x o) {s with heap:=h',toks:=t'}:=I.un (Un.write mu he k MT) (I.hok.write mu he k MT new)
theorem aI.pins_of {Kd:List (Vr×Obj)}(I:aI X pins σ H s)(h:∀p∈Kd,s.heap.get? p.1=some p.2/\H p.1=none/\p.1≠X.env.locals/\p.1∉X.fs/\∀v,p.2.data≠.cell v):aI X Kd σ H s:=
 ⟨I.ok,I.os,I.bare,I.base,I.loc,I.cell,I.free,I.freeC,λp hp=>(Vv.mp hp).elim (λz=>I.pin p (VF _ z)) (h p),I.hok,I.len⟩
theorem wZ (hN:N.Nodup)(a:N[i]? = some x)(b:N[j]? = some x):i=j:=by
 obtain⟨h1,e1⟩:=Vg.mp a;obtain⟨h2,e2⟩:=Vg.mp b;exact (List.getElem_inj hN).mp (e1.trans e2.symm)
theorem uh {A:VR}{u:Va}{Q:Unit->Vo->Prop}(I:aI X pins σ H s)(hN:X.N.Nodup)(hi:X.N[i]? = some x)(hx:GD X.env.scope x)(r:bq v u)(h:∀s',aI X pins (σ.set i (some v)) H s'->(∃a,Xe a s.heap s'.heap/\(a=X.env.locals\/X.env.cells.lookup x=some a))->Q () s')(hf:X.fn x=true\/X.env.scope.names.lookup x=some .local:=by first|exact .inl rfl|exact .inr rfl|assumption):Vs M A (storeName X.env x u) Q E s:=by
 obtain⟨m,hn,hl⟩:=id I.loc;have Rv:(X.env.scope.kind==.class||(X.env.scope.kind==.module&&X.env.locals != X.env.globals))=false:=by rw[I.ok.kind];rfl
 have SM:i<σ.length:=by rw[I.len];exact (Vg.mp hi).1
 have cne:=I.cne;have BU:∀{a:Vr} {h':XI},(∃o,s.heap.get? a=some o/\H a=none)->Xe a s.heap h'->kZ X.prog X.w H h':=λ{a h'} ha hs b ob e=>by
  obtain⟨_,_,sZ⟩:=ha;refine (I.hok b ob e).stay (λc w' hc q=>(hs.2 c ?_).trans q) (λ_ q=>q) λ_ _ q=>q;rintro rfl;rcases hc with rfl|hc
  ·rw[sZ] at e;cases e
  ·rw[sZ] at hc;cases hc
 rcases hx with hk|hk
 ·refine wpAny_storeName_local hk hn (λh' MU hs=>?_) Rv;obtain⟨oL,_,_,My,_⟩:=id hn;refine h _ ⟨I.ok,I.os,I.bare,⟨λb o e n hb hx=>?_,λb o e n hb hx=>?_,I.base.free,λb o e hx=>?_,I.base.tups,I.base.frzs,I.base.tbls⟩,⟨_,MU,λj y v' e1 e2 e3=>?_⟩,λy c e=>?_,I.free,I.freeC,λp hp=>?_,BU ⟨oL,My,I.free⟩ hs,by simpa using I.len⟩ ⟨_,hs,.inl rfl⟩
  ·exact (hs.2 b (VB (VO (Vl e) I.ok.above))).trans (I.base.keep b o e n hb hx)
  ·obtain⟨sl,e1⟩:=I.base.slot b o e n hb hx;exact⟨sl,(hs.2 b (VB (VO (Vl e) I.ok.above))).trans e1⟩
  ·obtain⟨o',e1⟩:=I.base.there b o e hx;exact⟨o',(hs.2 b (VB (VO (Vl e) I.ok.above))).trans e1⟩
  ·by_cases hj:j=i
   ·subst hj;rw[hi] at e1;cases e1;rw[Xw SM] at e2;cases e2;exact⟨u,r,.inl ⟨hk,by simp⟩⟩
   ·rw[VH (Ne.symm hj)] at e2;obtain⟨u',r',q⟩:=hl j y v' e1 e2 e3;refine⟨u',r',?_⟩;rcases q with⟨k,e⟩|⟨k,c,e,z⟩
    ·refine .inl ⟨k,?_⟩;have:y≠x:=λe=>hj (wZ hN e1 (e▸hi));simp[this,e]
    ·exact .inr ⟨k,c,e,z.sameBut hs (cne y c e)⟩
  ·obtain⟨w',z⟩:=I.cell y c e;exact⟨w',z.sameBut hs (cne y c e)⟩
  ·obtain⟨e,n,ne,nf,d⟩:=I.pin p hp;exact⟨(hs.2 p.1 ne).trans e,n,ne,nf,d⟩
 ·have Rx:X.fn x=true:=by
   rcases hf with z|z
   ·exact z
   ·rw[z] at hk;cases hk
  obtain⟨c,hc⟩:=I.ok.has x (.inl hk);obtain⟨w',z⟩:=I.cell x c hc;refine wpAny_storeName_cell I.ok.kind hk hc z (λh' SN hs=>?_);obtain⟨oc,hoc,hocd⟩:=id z;refine h {s with heap:=h'} ⟨I.ok,I.os,I.bare,⟨λb o e n hb hx=>?_,λb o e n hb hx=>?_,I.base.free,λb o e hx=>?_,I.base.tups,I.base.frzs,I.base.tbls⟩,⟨m,hn.sameBut hs (Ne.symm (cne x c hc)),λj y v' e1 e2 e3=>?_⟩,λy c' e=>?_,I.free,I.freeC,λp hp=>?_,BU ⟨oc,hoc,I.freeC x c hc⟩ hs,by simpa using I.len⟩ ⟨c,hs,.inr hc⟩
  ·exact (hs.2 b (VB (VO (Vl e) (I.ok.cab x c Rx hc)))).trans (I.base.keep b o e n hb hx)
  ·obtain⟨sl,e1⟩:=I.base.slot b o e n hb hx;exact⟨sl,(hs.2 b (VB (VO (Vl e) (I.ok.cab x c Rx hc)))).trans e1⟩
  ·obtain⟨o',e1⟩:=I.base.there b o e hx;exact⟨o',(hs.2 b (VB (VO (Vl e) (I.ok.cab x c Rx hc)))).trans e1⟩
  ·by_cases hj:j=i
   ·subst hj;rw[hi] at e1;cases e1;rw[Xw SM] at e2;cases e2;exact⟨u,r,.inr ⟨.inl hk,c,hc,SN⟩⟩
   ·rw[VH (Ne.symm hj)] at e2;obtain⟨u',r',q⟩:=hl j y v' e1 e2 e3;refine⟨u',r',?_⟩;rcases q with q|⟨k,c',e,z'⟩
    ·exact .inl q
    ·refine .inr ⟨k,c',e,z'.sameBut hs ?_⟩;rintro rfl;exact hj (wZ hN e1 (I.ok.inj _ _ _ e hc▸hi))
  ·by_cases hcc:c'=c
   ·subst hcc;exact⟨_,SN⟩
   ·obtain⟨w2,z2⟩:=I.cell y c' e;exact⟨w2,z2.sameBut hs hcc⟩
  ·obtain⟨e,n,ne,nf,d⟩:=I.pin p hp;refine⟨(hs.2 p.1 ?_).trans e,n,ne,nf,d⟩;intro q;rw[q,hoc] at e;have q':oc=p.2:=Vy e;exact d w' (by rw[←q'];exact hocd)
theorem l_ {A:VR}{u:Va}{Q:Unit->Vo->Prop}(I:aI X pins σ H s)(hN:X.N.Nodup)(hi:X.N[i]? = some x)(hx:GD X.env.scope x)(r:bq v u)(h:∀s',aI X pins (σ.set i (some v)) H s'->Q () s')(hf:X.fn x=true\/X.env.scope.names.lookup x=some .local:=by first|exact .inl rfl|exact .inr rfl|assumption):Vs M A (storeName X.env x u) Q E s:=
 uh I hN hi hx r (λs' I' _=>h s' I') hf
theorem aI.call' {s':Vo}(I:aI X pins σ H s)(ho:s'.os=s.os)(u:Un (Aw X.stack) ch H H' s.heap s'.heap)(hok:kZ X.prog X.w H' s'.heap)(hg:AllBare s'.gens)(GJ:∀b∈ch,(b∈X.ex\/X.s₀.heap.objs.size<=b)/\b≠X.env.locals/\(∀x c,X.env.cells.lookup x=some c->c≠b)/\∀p∈X.pn++pins,p.1≠b):aI X pins σ H' s':=by
 obtain⟨h',g',d',t',o'⟩:=s';have e:o'=s.os:=ho;subst e;exact I.call (g':=g') (t':=t') (d':=d') u hok hg GJ
end
abbrev XK:=Va->Option Vr->Hp->Prop
noncomputable abbrev St:=List (Option V)
abbrev VK:=V->Hp->Prop
abbrev TE:=St->Hp->VK->Prop
abbrev TT:=St->Hp->(Bool->Hp->Prop)->Prop
abbrev TA:=St->Hp->(List V->Hp->Prop)->Prop
structure lH where
 nx:St->Hp->Prop
 rt:VK
 bk:St->Hp->Prop:=λ_ _=>False
 ct:St->Hp->Prop:=λ_ _=>False
abbrev TS:=lH->St->Hp->Prop
def EP (X:Cx)(pins:List (Vr×Obj))(σ:St)(Q:VK)(u:Va)(s':Vo):Prop:=∃v H',aI X pins σ H' s'/\bq v u/\Q v H'
def TP (X:Cx)(pins:List (Vr×Obj))(σ:St)(Q:Bool->Hp->Prop)(b:Bool)(s':Vo):Prop:=∃H',aI X pins σ H' s'/\Q b H'
def AP (X:Cx)(pins:List (Vr×Obj))(σ:St)(Q:List V->Hp->Prop)(us:List Va)(s':Vo):Prop:=∃vs H',aI X pins σ H' s'/\a_ vs us/\Q vs H'
def SP (X:Cx)(pins:List (Vr×Obj))(D:lH)(f:Flow)(s':Vo):Prop:=
 match f with
 | .next=>∃σ' H',aI X pins σ' H' s'/\D.nx σ' H'
 | .brk=>∃σ' H',aI X pins σ' H' s'/\D.bk σ' H'
 | .cont=>∃σ' H',aI X pins σ' H' s'/\D.ct σ' H'
 | .ret u=>∃v σ' H',aI X pins σ' H' s'/\bq v u/\D.rt v H'
def PE (X:Cx)(e:W5)(t:TE):Prop:=
 ∀(pins:List (Vr×Obj)) (s:Vo) (σ:St) (H:Hp) (Q:VK),aI X pins σ H s->t σ H Q->Vs (VE X.prog X.w) X.A (YD e X.env) (EP X pins σ Q) X.xe s
def PT (X:Cx)(e:W5)(t:TT):Prop:=
 ∀(pins:List (Vr×Obj)) (s:Vo) (σ:St) (H:Hp) (Q:Bool->Hp->Prop),aI X pins σ H s->t σ H Q->Vs (VE X.prog X.w) X.A (isTrue e X.env (YD e X.env)) (TP X pins σ Q) X.xe s
def PW (X:Cx)(e:W5)(t:TT):Prop:=
 ∀(whole:Sem Va) (pins:List (Vr×Obj)) (s:Vo) (σ:St) (H:Hp) (Q:Bool->Hp->Prop),aI X pins σ H s->t σ H Q->Vs (VE X.prog X.w) X.A (isTrue e X.env whole) (TP X pins σ Q) X.xe s
theorem PW.pt {X:Cx}{e:W5}{t:TT}(h:PW X e t):PT X e t:=h _
def PA (X:Cx)(es:List W5)(t:TA):Prop:=
 ∀(pos:Pos) (pins:List (Vr×Obj)) (s:Vo) (σ:St) (H:Hp) (Q:List V->Hp->Prop),aI X pins σ H s->t σ H Q->Vs (VE X.prog X.w) X.A (spliced (XR pos (Vx es X.env))) (AP X pins σ Q) X.xe s
def PS (X:Cx)(st:Zf)(t:TS):Prop:=
 ∀(pins:List (Vr×Obj)) (s:Vo) (σ:St) (H:Hp) (D:lH),aI X pins σ H s->t D σ H->Vs (VE X.prog X.w) X.A (exec st X.env) (SP X pins D) X.xe s
def tG (X:Cx)(st:List Zf)(t:TS):Prop:=
 ∀(pins:List (Vr×Obj)) (s:Vo) (σ:St) (H:Hp) (D:lH),aI X pins σ H s->t D σ H->Vs (VE X.prog X.w) X.A (execs st X.env) (SP X pins D) X.xe s
theorem ez {α:Type}{t:Sem α}{Q Q':α->Vo->Prop}{A:VR}(h:Vs M A t Q E s)(hQ:∀a s,Q a s->Q' a s):Vs M A t Q' E s:=Wm h hQ λ_ _ x=>x
end L2
variable {X:L2.Cx}{σ:L2.St}{te:L2.TE}
namespace L2
section
theorem UN {a b:W5}{ta tb:TE}(ha:PE X a ta)(hb:PE X b tb){R:V->V->Hp->Prop}(I:aI X pins σ H s)(h:ta σ H λx H1=>tb σ H1 λy H2=>R x y H2){α:Type}{Q:α->Vo->Prop}{f:Va->Va->Sem α}(hf:∀v u s2 x y H2,aI X pins σ H2 s2->bq x v->bq y u->R x y H2->Vs (VE X.prog X.w) X.A (f v u) Q X.xe s2) :
  Vs (VE X.prog X.w) X.A (YD a X.env) (λv s₁=>Vs (VE X.prog X.w) X.A (YD b X.env) (λu s₂=>Vs (VE X.prog X.w) X.A (f v u) Q X.xe s₂) X.xe s₁) X.xe s:=by
 refine ez (ha pins s σ H _ I h) λv s1 ⟨x,H1,I1,r1,q1⟩=>?_;refine ez (hb pins s1 σ H1 _ I1 q1) λu s2 ⟨y,H2,I2,r2,q2⟩=>?_;exact hf v u s2 x y H2 I2 r1 r2 q2
def Kz (i:Nat):TE:=λσ H Q=>∃v,σ[i]? = some (some v)/\Q v H
def tC (v:V):TE:=λ_ H Q=>Q v H
theorem lJ (hN:X.N[i]? = some x)(hv:GR X.env.scope x)(hd:(x==("__debug__":Str))=false:=by decide)(sW:(x==("__classdict__":Str))=false:=by decide):PE X (.Name x pos) (Kz i):=by
 intro pins s σ H Q I h;obtain⟨v,e,h⟩:=h;obtain⟨m,hn,hl⟩:=I.loc;obtain⟨u,r,l⟩:=hl i x v hN e hv;have fin:EP X pins σ Q u s:=⟨v,H,I,r,h⟩;rcases l with⟨hk,hm⟩|⟨hk,c,hc,vd⟩
 ·exact wpAny_Name (wpAny_loadName_local I.ok.kind hk hn hm fin) hd
 ·rcases hk with hk|hk
  ·exact wpAny_Name (wpAny_loadName_cell I.ok.kind hk hc vd fin) hd
  ·exact wpAny_Name (wpAny_loadName_free I.ok.kind hk hc vd fin sW) hd
theorem KA {i j pos}:PE X (.Constant (.int i) j pos) (tC (.int i)):=λ_ _ _ H _ I h=>wpAny_Constant_int ⟨.int i,H,I.tok _,⟨_,rfl⟩,h⟩
theorem MY {b j pos}:PE X (.Constant (.bool b) j pos) (tC (.bl b)):=λ_ _ _ H _ I h=>Constant_bool ⟨.bl b,H,I,rfl,h⟩
theorem KC {j pos}:PE X (.Constant .none j pos) (tC .non):=λ_ _ _ H _ I h=>Constant_none ⟨.non,H,I,rfl,h⟩
theorem KD {x j pos}:PE X (.Constant (.str x) j pos) (tC (.str x)):=λ_ _ _ H _ I h=>Calls.Constant_str ⟨.str x,H,I.tok _,⟨_,rfl⟩,h⟩
def Gl (X:Cx)(x:Str):Prop:=X.env.kindOf x=some .globalImplicit
theorem Ax {u:Va}(I:aI X pins σ H s)(hg:Gl X x)(hm:X.mg x=some u)(h:Q u s)(hd:(x==("__debug__":Str))=false:=by decide):Vs (VE X.prog X.w) X.A (YD (.Name x pos) X.env) Q E s:=
 ZY I.ok.kind hg (Calls.loadGlobal_global (by rw[I.ok.glob];exact I.mod.glob.keeps I.bk) hm h) hd
theorem vj {u:Va}(I:aI X pins σ H s)(hg:Gl X x)(hm:X.mg x=none)(hv:We x=some u)(h:Q u s)(hn:x≠"__name__":=by decide)(hd:(x==("__debug__":Str))=false:=by decide):Vs (VE X.prog X.w) X.A (YD (.Name x pos) X.env) Q E s:=by
 obtain⟨mb,h1,h2⟩:=I.mod.blt;exact ZY I.ok.kind hg (Calls.loadGlobal_builtin (by rw[I.ok.glob];exact I.mod.glob.keeps I.bk) hm (by rw[I.ok.blt];exact h1.keeps I.bk) ((h2 x hn).trans hv) h) hd
theorem GU {u:Va}(hg:Gl X x)(hm:X.mg x=some u)(r:bq v u)(hd:(x==("__debug__":Str))=false:=by decide):PE X (.Name x pos) (tC v):=
 λ_ _ _ H _ I h=>Ax I hg hm ⟨v,H,I,r,h⟩ hd
variable {a b:W5}{ta tb:TE}
def PC (X:Cx)(op:CmpOp)(a b:W5)(t:TE):Prop:=
 ∀(pins:List (Vr×Obj)) (s:Vo) (σ:St) (H:Hp) (Q:VK),aI X pins σ H s->t σ H Q->
  Vs (VE X.prog X.w) X.A (YD a X.env) (λv s₁=>Vs (VE X.prog X.w) X.A (YD b X.env) (λu s₂=>Vs (VE X.prog X.w) X.A (WO op v u) (EP X pins σ Q) X.xe s₂) X.xe s₁) X.xe s
def tB (t:TE):TT:=λσ H Q=>t σ H λx H1=>∃c,x=.bl c/\Q c H1
theorem Qf {t:TE}(h:PC X op a b t)(h1:Ys op b=false:=by first|exact nobehind _ (by decide) (by decide)|rfl):PT X (.Compare a [op] [b] pos) (tB t):=by
 intro pins s σ H Q I hw;refine wpAny_isTrue_Compare1 (ez (h pins s σ H _ I hw) λv s1 h1=>ez h1 λu s2 h2=>ez h2 λc s3 ⟨x,H1,I1,r1,q1⟩=>?_) h1;obtain⟨d,rfl,q⟩:=q1;cases r1;exact XU ⟨H1,I1,q⟩
theorem KG {e:W5}{t:TE}(h:PE X e t)(he:∀whole,isTrue e X.env whole=(do let v ←whole;standAt e.pos;holding [v] (truthy v)):=by intro _;rfl):PT X e (tB t):=by
 intro pins s σ H Q I hw;refine isTrue_plain (ez (h pins s σ H _ I hw) λv s1 ⟨x,H1,I1,r1,q1⟩=>?_) (he _);obtain⟨d,rfl,q⟩:=q1;cases r1;exact XU ⟨H1,I1,q⟩
variable {tA tB':TT}{rest:List W5}
def MZ (t u:TT):TT:=λσ H Q=>t σ H λc H1=>if c=true then u σ H1 Q else Q false H1
def Sb (t u:TT):TT:=λσ H Q=>t σ H λc H1=>if c=true then Q true H1 else u σ H1 Q
def Qg (t:TT):TT:=λσ H Q=>t σ H λc H1=>Q (!c) H1
theorem GV (ha:PT X a tA):PW X (.BoolOp .And [a] pos) tA:=by
 intro wh pins s σ H Q I h;refine isTrue_and (ez (ha pins s σ H Q I h) λc s1 e=>?_);cases c with
 |true=>exact isTrue_and_nil e
 |false=>exact e
theorem KI (ha:PT X a tA):PW X (.BoolOp .Or [a] pos) tA:=by
 intro wh pins s σ H Q I h;refine isTrue_or (ez (ha pins s σ H Q I h) λc s1 e=>?_);cases c with
 |false=>exact isTrue_or_nil e
 |true=>exact e
theorem KJ (ha:PT X a tA)(hb:PW X (.BoolOp .And (b::rest) pos) tB'):PW X (.BoolOp .And (a::b::rest) pos) (MZ tA tB'):=by
 intro wh pins s σ H Q I h;refine isTrue_and (ez (ha pins s σ H _ I h) λc s1 ⟨H1,I1,q1⟩=>?_);cases c with
 |true=>exact hb wh pins s1 σ H1 Q I1 q1
 |false=>exact⟨H1,I1,q1⟩
theorem M5 (ha:PT X a tA)(hb:PW X (.BoolOp .Or (b::rest) pos) tB'):PW X (.BoolOp .Or (a::b::rest) pos) (Sb tA tB'):=by
 intro wh pins s σ H Q I h;refine isTrue_or (ez (ha pins s σ H _ I h) λc s1 ⟨H1,I1,q1⟩=>?_);cases c with
 |true=>exact⟨H1,I1,q1⟩
 |false=>exact hb wh pins s1 σ H1 Q I1 q1
theorem KL (ha:PT X a tA):PT X (.UnaryOp .Not a pos) (Qg tA):=by
 intro pins s σ H Q I h;exact isTrue_not (ha pins s σ H (λc H1=>Q (!c) H1) I h)
def Te (t:TT)(ta tb:TE):TE:=λσ H Q=>t σ H λc H1=>if c=true then ta σ H1 Q else tb σ H1 Q
theorem Dk (hc:PT X c tA)(ha:PE X a ta)(hb:PE X b tb):PE X (.IfExp c a b pos) (Te tA ta tb):=by
 intro pins s σ H Q I h;refine wpAny_IfExp (ez (hc pins s σ H _ I h) λd s1 ⟨H1,I1,q1⟩=>?_);cases d with
 |true=>exact ha pins s1 σ H1 Q I1 q1
 |false=>exact hb pins s1 σ H1 Q I1 q1
end
end L2
namespace L2
def fH (K:U7)(H:Hp)(a:Vr)(xs:List V):Prop:=
 Rd H a (.lst xs) \/
  ∃(o:Obj) (its:Array Va) (n:Nat),K.lookup a=some o/\o.cls=.type "list"/\o.dict=none/\o.data=.seq its n/\its.size<=Vf/\a_ xs its.toList
def fK (K:U7)(H:Hp)(a:Vr)(xs:List V):Prop:=
 Rd H a (.tup xs) \/
  ∃(o:Obj) (its:Array Va) (n:Nat),K.lookup a=some o/\o.cls=.type "tuple"/\o.data=.seq its n/\its.size<=Vf/\a_ xs its.toList
noncomputable def Qh:Va->Option V
 | .none=>some .non
 | .bool b=>some (.bl b)
 | .int i _=>some (.int i)
 | .str x _=>some (.str x)
 | .bytes b _=>some (.byt b)
 | .float b _=>some (.flt b)
 | .ref a=>some (.ref a)
 | .type n=>some (.ty n)
 |_=>none
theorem bq.abs {x:V}{u:Va}(r:bq x u):Qh u=some x:=by
 cases x with
 |non=>cases r;rfl
 |bl _=>cases r;rfl
 |int _=>obtain⟨t,rfl⟩:=r;rfl
 |str _=>obtain⟨t,rfl⟩:=r;rfl
 |byt _=>obtain⟨t,rfl⟩:=r;rfl
 |flt _=>obtain⟨t,rfl⟩:=r;rfl
 |ref _=>cases r;rfl
 |ty _=>cases r;rfl
theorem bq.inj {x:V}{u:Va}(r:bq x u)(q:bq y u):x=y:=Vy (r.abs.symm.trans q.abs)
theorem a_.inj:∀{xs ys:List V} {us:List Va},a_ xs us->a_ ys us->xs=ys
 |_,_,_,.nil,.nil=>rfl
 |_,_,_,.cons r t,.cons r' t'=>by rw[r.inj r',a_.inj t t']
section
variable {ys:List V}
theorem fH.of (h:H a=some (.lst xs)):fH K H a xs:=.inl (.inl h)
theorem fK.of (h:H a=some (.tup xs)):fK K H a xs:=.inl (.inl h)
theorem aI.list (I:aI X pins σ H s)(h:fH X.K H a xs):∃its:List Va,a_ xs its/\PlainL s.heap a its.toArray/\xs.length<=Vf:=by
 rcases h with h|⟨o,its,n,hk,hc,hd,hs,hz,r⟩
 ·obtain⟨z,its,n,r,e⟩:=h.ok I.hok;exact⟨its,r,⟨_,n,e,rfl,rfl,rfl⟩,z⟩
 ·refine⟨its.toList,r,⟨o,n,I.kIn a o hk,hc,hd,by simpa using hs⟩,?_⟩;have e:=r.length;simp only[U9] at e;lia
theorem aI.tuple (I:aI X pins σ H s)(h:fK X.K H a xs):∃its:List Va,a_ xs its/\IsTup s.heap a its.toArray/\xs.length<=Vf:=by
 rcases h with h|⟨o,its,n,hk,hc,hs,hz,r⟩
 ·obtain⟨z,its,r,p,_⟩:=h.ok I.hok;exact⟨its,r,p,z⟩
 ·refine⟨its.toList,r,⟨o,I.kIn a o hk,hc,n,by simpa using hs⟩,?_⟩;have e:=r.length;simp only[U9] at e;lia
theorem aI.list_inj (I:aI X pins σ H s)(h:fH X.K H a xs)(h':fH X.K H a ys):xs=ys:=by
 obtain⟨its,r,⟨o,n,e,_,_,d⟩,_⟩:=I.list h;obtain⟨its',r',⟨o',n',e',_,_,d'⟩,_⟩:=I.list h';rw[e] at e';cases e';rw[d] at d';injection d' with d1 _
 have:its=its':=by simpa using congrArg Array.toList d1
 subst this;exact r.inj r'
theorem aI.tuple_inj (I:aI X pins σ H s)(h:fK X.K H a xs)(h':fK X.K H a ys):xs=ys:=by
 obtain⟨its,r,⟨o,e,_,n,d⟩,_⟩:=I.tuple h;obtain⟨its',r',⟨o',e',_,n',d'⟩,_⟩:=I.tuple h';rw[e] at e';cases e';rw[d] at d';injection d' with d1 _
 have:its=its':=by simpa using congrArg Array.toList d1
 subst this;exact r.inj r'
end
noncomputable abbrev Cx.wish (X:Cx)(E:Va->Vo->Prop):Cx:={X with xe:=E}
noncomputable abbrev Cx.nox (X:Cx):Cx:=X.wish λ_ _=>False
theorem Cx.Ok.wish (ok:X.Ok)(E:Va->Vo->Prop):(X.wish E).Ok:=
 ⟨ok.mod,ok.kind,ok.glob,ok.blt,ok.above,ok.inj,ok.has,ok.cab,ok.hd,ok.frames,ok.stk,ok.exf,ok.bs,ok.bsz,ok.noex,ok.exfs,ok.funs,ok.frf⟩
theorem Cx.Ok.unwish (ok:(X.wish E).Ok):X.Ok:=
 ⟨ok.mod,ok.kind,ok.glob,ok.blt,ok.above,ok.inj,ok.has,ok.cab,ok.hd,ok.frames,ok.stk,ok.exf,ok.bs,ok.bsz,ok.noex,ok.exfs,ok.funs,ok.frf⟩
theorem aI.wish (I:aI X pins σ H s)(E:Va->Vo->Prop):aI (X.wish E) pins σ H s:=⟨I.ok.wish E,I.os,I.bare,I.base,I.loc,I.cell,I.free,I.freeC,I.pin,I.hok,I.len⟩
theorem aI.unwish (I:aI (X.wish E) pins σ H s):aI X pins σ H s:=⟨I.ok.unwish,I.os,I.bare,I.base,I.loc,I.cell,I.free,I.freeC,I.pin,I.hok,I.len⟩
theorem SP.unwish {D:lH}{f:Flow}{s':Vo}(h:SP (X.wish E) pins D f s'):SP X pins D f s':=by
 cases f with
 |next=>obtain⟨σ',H',I,q⟩:=h;exact⟨σ',H',I.unwish,q⟩
 |brk=>obtain⟨σ',H',I,q⟩:=h;exact⟨σ',H',I.unwish,q⟩
 |cont=>obtain⟨σ',H',I,q⟩:=h;exact⟨σ',H',I.unwish,q⟩
 |ret u=>obtain⟨v,σ',H',I,r,q⟩:=h;exact⟨v,σ',H',I.unwish,r,q⟩
theorem tG.nox {st:List Zf}{t:TS}(h:tG X.nox st t):tG X st t:=λpins s σ H D I hw=>
 Wm (h pins s σ H D (I.wish _) hw) (λ_ _ q=>q.unwish) λ_ _ z=>Yt z
section
variable {rest:List Zf}{t u:TS}{e:W5}
def M6:TS:=λD σ H=>D.nx σ H
def Qi (t u:TS):TS:=λD σ H=>t {D with nx:=u D} σ H
theorem Ay:tG X [] M6:=λ_ _ σ H _ I h=>ZO ⟨σ,H,I,h⟩
theorem Dl (h1:PS X st t)(h2:tG X rest u):tG X (st::rest) (Qi t u):=by
 intro pins s σ H D I h;refine wpAny_execs_cons (ez (h1 pins s σ H {D with nx:=u D} I h) λf s1 q=>?_);cases f with
 |next=>
  obtain⟨σ',H',I',q⟩:=q;exact h2 pins s1 σ' H' D I' q
 |ret v=>exact q
 |brk=>exact q
 |cont=>exact q
theorem Az (h1:PS X st t):tG X [st] t:=by
 intro pins s σ H D I h;refine wpAny_execs_cons (ez (h1 pins s σ H D I h) λf s1 q=>?_);cases f with
 |next=>exact ZO q
 |ret v=>exact q
 |brk=>exact q
 |cont=>exact q
theorem aI.quiet (I:aI X pins σ H s):interactive X.env=false:=by simp[interactive,I.ok.kind]
def M7 (te:TE):TS:=λD σ H=>te σ H λ_ H1=>D.nx σ H1
theorem AA (he:PE X e te)(hs:Zx e none pos.line X.env=pure false:=by rfl):PS X (.Expr e pos) (M7 te):=by
 intro pins s σ H D I h;exact wpAny_Expr_any (ez (he pins s σ H _ I h) λv s1 ⟨x,H1,I1,r1,q1⟩=>⟨σ,H1,I1,q1⟩) I.quiet hs
def Qj (te:TE):TS:=λD σ H=>te σ H D.rt
theorem yU (he:PE X e te):PS X (.Return (some e) pos) (Qj te):=by
 intro pins s σ H D I h;exact wpAny_Return_some (ez (he pins s σ H _ I h) λv s1 ⟨x,H1,I1,r1,q1⟩=>⟨x,σ,H1,I1,r1,q1⟩)
def Qk (c:TT)(t u:TS):TS:=λD σ H=>c σ H λb H1=>if b=true then t D σ H1 else u D σ H1
theorem IM {a b:List Zf}{tc:TT}(hc:PT X c tc)(ha:tG X a t)(hb:tG X b u):PS X (.If c a b pos) (Qk tc t u):=by
 intro pins s σ H D I h;refine wpAny_If (ez (hc pins s σ H _ I h) λd s1 ⟨H1,I1,q1⟩=>?_);cases d with
 |true=>exact ha pins s1 σ H1 D I1 q1
 |false=>exact hb pins s1 σ H1 D I1 q1
end
abbrev TG:=V->St->Hp->(St->Hp->Prop)->Prop
abbrev GW:=List V->St->Hp->(St->Hp->Prop)->Prop
def PG (X:Cx)(ow:W5)(t:TG):Prop:=
 ∀(pins:List (Vr×Obj)) (s:Vo) (σ:St) (H:Hp) (v:V) (u:Va) (Q:St->Hp->Prop),aI X pins σ H s->bq v u->t v σ H Q->
  Vs (VE X.prog X.w) X.A (assign ow X.env u) (λ_ s'=>∃σ' H',aI X pins σ' H' s'/\Q σ' H') X.xe s
def IP (X:Cx)(ts:List W5)(t:GW):Prop:=
 ∀(pins:List (Vr×Obj)) (s:Vo) (σ:St) (H:Hp) (vs:List V) (us:List Va) (Q:St->Hp->Prop),aI X pins σ H s->a_ vs us->t vs σ H Q->
  Vs (VE X.prog X.w) X.A (assignInOrder ((XW ts X.env).map (·.2)) us) (λ_ s'=>∃σ' H',aI X pins σ' H' s'/\Q σ' H') X.xe s
abbrev KN:=V->V->V->Hp->(Hp->Prop)->Prop
def M8 (X:Cx)(t:KN):Prop:=
 ∀(pins:List (Vr×Obj)) (s:Vo) (σ:St) (H:Hp) (o i v:V) (ov iv u:Va) (Q:Hp->Prop),aI X pins σ H s->bq o ov->bq i iv->bq v u->t o i v H Q->
  Vs (VE X.prog X.w) X.A (setItem ov iv u) (λ_ s'=>∃H',aI X pins σ H' s'/\Q H') X.xe s
def w6 (i:Nat):TG:=λv σ H Q=>Q (σ.set i (some v)) H
theorem GX (hN:X.N.Nodup)(hi:X.N[i]? = some x)(hx:GD X.env.scope x)(hf:X.fn x=true\/X.env.scope.names.lookup x=some .local:=by first|exact .inl rfl|exact .inr rfl|assumption):PG X (.Name x pos) (w6 i):=by
 intro pins s σ H v u Q I r h;exact wpAny_assign_Name (l_ I hN hi hx r (λs' I'=>⟨_,H,I',h⟩) hf)
def Ql:GW:=λvs σ H Q=>vs=[]/\Q σ H
def M9 (t:TG)(u:GW):GW:=λvs σ H Q=>∃v r,vs=v::r/\t v σ H λσ' H'=>u r σ' H' Q
theorem GY:IP X [] Ql:=by
 intro pins s σ H vs us Q I r h;obtain⟨e,h⟩:=h;subst e;cases r;exact assignInOrder_nil ⟨σ,H,I,h⟩
theorem Dm {e:W5}{es:List W5}{t:TG}{u:GW}(h1:PG X e t)(h2:IP X es u)
  (hs:(XW (e::es) X.env).map (·.2)=assign e X.env::(XW es X.env).map (·.2):=by rfl):IP X (e::es) (M9 t u):=by
 intro pins s σ H vs us Q I r h;obtain⟨v,vr,e1,h⟩:=h;subst e1;cases r with
 |cons r rr=>
  rw[hs];refine Z4 (ez (h1 pins s σ H _ _ _ I r h) λ_ s1 ⟨σ1,H1,I1,q1⟩=>?_);exact h2 pins s1 σ1 H1 _ _ Q I1 rr q1
def Qm (K:U7)(n:Nat)(t:GW):TG:=λv σ H Q=>∃a xs,v=.ref a/\fK K H a xs/\xs.length=n/\t xs σ H Q
theorem KO {es:List W5}{t:GW}(hc:X.calm=true)(h:IP X es t)(hn:(XW es X.env).length=n:=by rfl)(i0:(XW es X.env).findIdx? (·.1)=none:=by rfl):PG X (.Tuple es k pos) (Qm X.K n t):=by
 intro pins s σ H v u Q I r hw;obtain⟨a,xs,e1,hq,hl,hw⟩:=hw;subst e1;cases r;obtain⟨its,rv,ht,hz⟩:=I.tuple hq;refine assign_Tuple_tuple (I.ok.hd hc) ht (by simp[hn,←hl,rv.length]) i0 λh' hx=>?_;have I1:aI X pins σ H {s with heap:=h'}:=I.kept (t':=s.toks) λb o e=>hx b o (VB (Vl e)) e;exact h pins _ σ H xs _ Q I1 (by simpa using rv) hw
def Qn (to ti:TE)(t:KN):TG:=λv σ H Q=>to σ H λo H1=>ti σ H1 λi H2=>t o i v H2 λH3=>Q σ H3
theorem KP {o i:W5}{to ti:TE}{t:KN}(ho:PE X o to)(hi:PE X i ti)(hs:M8 X t)
  (ha:∀v,assign (.Subscript o i pos) X.env v=(do
   let ov ←holding [v] (YD o X.env)
   let iv ←holding [v,ov] (YD i X.env)
   standAt pos
   holding [v,ov,iv] (setItem ov iv v)
   release [v,ov,iv] []):=by intro _;rfl):PG X (.Subscript o i pos) (Qn to ti t):=by
 intro pins s σ H v u Q I r h;rw[ha];refine U3 (WA (ez (ho pins s σ H _ I h) λov s1 ⟨x,H1,I1,r1,q1⟩=>?_));refine U3 (WA (ez (hi pins s1 σ H1 _ I1 q1) λiv s2 ⟨y,H2,I2,r2,q2⟩=>?_));refine U3 (wpAny_standAt (U3 (WA (ez (hs pins s2 σ H2 x y v ov iv u _ I2 r1 r2 r q2) λ_ s3 ⟨H3,I3,q3⟩=>?_))));exact wpAny_release ⟨σ,H3,I3,q3⟩
def Dn (te:TE)(g:TG):TS:=λD σ H=>te σ H λx H1=>g x σ H1 D.nx
theorem Dq {e:W5}{g:TG}(he:PE X e te)(hg:PG X tg g)(hs:ZG [tg] e pos.line X.env=pure false:=by rfl)(hw:ZH [tg] e X.env=pure none:=by rfl)(h1:(XW [tg] X.env).map (·.2)=[assign tg X.env]:=by rfl):PS X (.Assign [tg] e pos) (Dn te g):=by
 intro pins s σ H D I h;refine wpAny_Assign_stores (ez (he pins s σ H _ I h) λv s1 ⟨x,H1,I1,r1,q1⟩=>?_) hs hw;rw[h1];exact ez (hg pins s1 σ H1 x v _ I1 r1 q1) λ_ s2 q=>q
theorem Dr {e:W5}{k_:Pos}(hN:X.N.Nodup)(hi:X.N[i]? = some x)(hx:GD X.env.scope x)(he:PE X e te)(hs:Zx e (some (.Name x k_)) pos.line X.env=pure false:=by rfl)(hf:X.fn x=true\/X.env.scope.names.lookup x=some .local:=by first|exact .inl rfl|exact .inr rfl|assumption) :
  PS X (.Assign [.Name x k_] e pos) (Dn te (w6 i)):=by
 intro pins s σ H D I h;refine wpAny_Assign_Name (ez (he pins s σ H _ I h) λv s1 ⟨y,H1,I1,r1,q1⟩=>?_) hs;exact l_ I1 hN hi hx r1 (λs2 I2=>⟨_,H1,I2,q1⟩) hf
def Qo (i j:Nat)(ta:TA):TS:=λD σ H=>ta σ H λvs H1=>∃v w,vs=[v,w]/\D.nx ((σ.set i (some v)).set j (some w)) H1
theorem KQ {y:Str}{a b:W5}{ta:TA}{px py pt:Pos}{kt k2 pt2}(hc:X.calm=true)(hN:X.N.Nodup)(hi:X.N[i]? = some x)(hj:X.N[j]? = some y)(ue:i≠j)(hx:X.env.scope.names.lookup x=some .local)(hy:X.env.scope.names.lookup y=some .local)(ha:PA X [a,b] ta)(hw:ZH [.Tuple [.Name x px,.Name y py] kt pt] (.Tuple [a,b] k2 pt2) X.env=pure (some [x,y]))(hs:ZG [.Tuple [.Name x px,.Name y py] kt pt] (.Tuple [a,b] k2 pt2) pos.line X.env=pure false:=by rfl) :
  PS X (.Assign [.Tuple [.Name x px,.Name y py] kt pt] (.Tuple [a,b] k2 pt2) pos) (Qo i j ta):=by
 intro pins s σ H D I h;rw[exec_Assign_arm];refine U3 (wpAny_standAt ?_);rw[hs];refine U3 (U6 ?_);rw[hU (by decide)];refine U3 (Tuple_ (ez (ha _ pins s σ H _ I h) λus s1 ⟨vs,H1,I1,r1,q1⟩=>?_));obtain⟨v,w,e1,q1⟩:=q1;subst e1;obtain⟨u1,u2,rfl,rv,Ar⟩:∃u1 u2,us=[u1,u2]/\bq v u1/\bq w u2:=by
  cases r1 with
  |cons p q=>
   cases q with
   |cons p' q'=>
    cases q';exact⟨_,_,rfl,p,p'⟩
 refine VX ?_ (by show 2<=Vf;decide);have I2:aI X pins σ H1 {s1 with heap:=s1.heap.push {cls:=.type "tuple",data:=.seq [u1,u2].toArray}}:=I1.kept (t':=s1.toks) λb o e=>U5 _ e;rw[hw];refine U3 (U6 ?_);show Vs (VE X.prog X.w) X.A (do rule "assign.swapped-stores";let items ←unpackItems (.ref s1.heap.objs.size) 2 none;assignInOrder [λv=>bindName X.env y v,λv=>bindName X.env x v] items.reverse;pure Flow.next) _ _ _;refine U3 (Xq (U3 (unpackItems_tuple (items:=#[u1,u2]) (I.ok.hd hc) (IsTup.new s1.heap _) λh' tw=>?_)));have I3:=I2.kept (h':=h') (t':=s1.toks) λb o e=>tw b o (VB (Vl e)) e;show Vs _ _ (assignInOrder [λv=>bindName X.env y v,λv=>bindName X.env x v] [u2,u1] >>= λ_=>pure Flow.next) _ _ _;refine U3 (Z4 (wpAny_bindName (l_ I3 hN hj (.inl hy) Ar (λs2 I4=>?_) (.inr hy))));refine Z4 (wpAny_bindName (l_ I4 hN hi (.inl hx) rv (λs3 I5=>assignInOrder_nil (U6 ?_)) (.inr hx)));rw[List.set_comm _ _ (Ne.symm ue)] at I5;exact⟨_,H1,I5,q1⟩
def KR (c:TT)(tb:TS):TS:=λD σ H=>∃W:Nat->St->Hp->Prop,(∃m,W m σ H)/\∀m σ H,W m σ H->
 c σ H λb H1=>if b=true then ∃N:St->Hp->Prop,(∀σ' H',N σ' H'->∃m',m'<m/\W m' σ' H')/\tb {D with nx:=N,ct:=N,bk:=D.nx} σ H1 else D.nx σ H1
theorem Ds {tc:TT}{tb:TS}(hp:aaD (VE X.prog X.w) X.A X.env X.xe)(hc:PT X c tc)(hb:tG X body tb):PS X (.While c body [] pos) (KR tc tb):=by
 intro pins s σ H D I h;obtain⟨W,⟨m0,w0⟩,turn⟩:=h;refine wpAny_While (codeAny_whileLoop (λn s'=>∃σ' H',aI X pins σ' H' s'/\W n σ' H') ?_ m0 ⟨σ,H,I,w0⟩);rintro n s1 ⟨σ1,H1,I1,w1⟩;refine XX hp (ez (hc pins s1 σ1 H1 _ I1 (turn n σ1 H1 w1)) λb s2 ⟨H2,I2,q2⟩=>?_);cases b with
 |true=>
  obtain⟨N,hN,q2⟩:=q2;rw[hV rfl];refine XX hp (ez (hb pins s2 σ1 H2 _ I2 q2) λf s3 q3=>?_);cases f with
  |next=>
   obtain⟨σ3,H3,I3,n3⟩:=q3;obtain⟨m',hm,w3⟩:=hN σ3 H3 n3;exact⟨m',hm,σ3,H3,I3,w3⟩
  |cont=>
   obtain⟨σ3,H3,I3,n3⟩:=q3;obtain⟨m',hm,w3⟩:=hN σ3 H3 n3;exact⟨m',hm,σ3,H3,I3,w3⟩
  |brk=>exact q3
  |ret v=>exact q3
 |false=>
  rw[hU Vb];exact ZO ⟨σ1,H2,I2,q2⟩
structure It where
 go:Nat->Hp->Prop
 yld:Nat->Hp->V->Hp->Prop
 stop:Nat->Hp->Prop
def pB (X:Cx)(pins:List (Vr×Obj))(H:Hp)(b:Vr):Prop:=
 H b=none/\b≠X.env.locals/\b∉X.fs/\(b∈X.ex\/X.s₀.heap.objs.size<=b)/\(∀x c,X.env.cells.lookup x=some c->c≠b)/\∀p∈X.pn++pins,p.1≠b
theorem aI.fpOk (I:aI X pins σ H s)(hb:s.heap.objs.size<=b)(hn:H' b=none):pB X pins H' b:=by
 refine⟨hn,Yf (VO I.lt hb),I.nofs hb,.inr (Wa I.sz hb),λx c e z=>?_,λp hp z=>?_⟩
 ·obtain⟨v,q⟩:=I.cell x c e;exact absurd (VO q.lt (by rw[z];exact hb)) (Xd _)
 ·exact absurd (VO (Vl (I.pin p hp).1) (by rw[z];exact hb)) (Xd _)
structure B4 (P:XJ)(w:Ya)(K:U7)(tg:W5)(J:It)(fp:List Vr)(it:Vr)(tn:Nat->XI->Prop):Prop where
 mem:it∈fp
 obj:∀i h,tn i h->∀b∈fp,∃o,h.get? b=some o/\∀v,o.data≠.cell v
 keep:∀i h h',tn i h->(∀b∈fp,∀o,h.get? b=some o->h'.get? b=some o)->tn i h'
 item:∀(X:Cx),X.prog=P->X.w=w->X.K=K->X.calm=true->∀(i:Nat) (pins:List (Vr×Obj)) (s:Vo) (σ:St) (H:Hp) (E:Va->Vo->Prop),aI X pins σ H s->(∀b∈fp,pB X pins H b)->tn i s.heap->J.go i H->
  Vs (VE P w) X.A (ZD (.ref it)) (λr s1=>∃u,r=some u/\
   Vs (VE P w) X.A (ZP tg (.ref it) u) (λ_ s2=>∃x H',aI X pins σ H' s2/\bq x u/\J.yld i H x H'/\tn (i+1) s2.heap/\∀b∈fp,H' b=none) E s1) E s
 done:∀(X:Cx),X.prog=P->X.w=w->X.K=K->X.calm=true->∀(i:Nat) (pins:List (Vr×Obj)) (s:Vo) (σ:St) (H:Hp) (E:Va->Vo->Prop),aI X pins σ H s->(∀b∈fp,pB X pins H b)->tn i s.heap->J.stop i H->
  Vs (VE P w) X.A (ZD (.ref it)) (λr s1=>r=none/\aI X pins σ H s1) E s
 self:∀(A:VR) (i:Nat) (s:Vo) (Q:Va->Vo->Prop) (E:Va->Vo->Prop),tn i s.heap->Q (.ref it) s->Vs (VE P w) A (pyIter (.ref it)) Q E s
abbrev TI:=St->Hp->(It->Hp->Prop)->Prop
def Sd (X:Cx)(pins:List (Vr×Obj))(σ:St)(tg:W5)(R:It->Hp->Prop)(P6:Va)(s2:Vo):Prop:=
 ∃(it:Vr) (fp:List Vr) (tn:Nat->XI->Prop) (J:It) (H':Hp),P6=.ref it/\aI X pins σ H' s2/\B4 X.prog X.w X.K tg J fp it tn/\tn 0 s2.heap/\(∀b∈fp,pB X pins H' b)/\R J H'
def PI (X:Cx)(tg iter:W5)(wi:TI):Prop:=
 ∀(pins:List (Vr×Obj)) (s:Vo) (σ:St) (H:Hp) (R:It->Hp->Prop),aI X pins σ H s->wi σ H R->
  Vs (VE X.prog X.w) X.A (YD iter X.env) (λv s1=>Vs (VE X.prog X.w) X.A (pyIter v) (Sd X pins σ tg R) X.xe s1) X.xe s
theorem Dt {A:VR}{u:Va}{o:Obj}{n:String}{vs:Array Va}{Q:Unit->Vo->Prop}(ho:s.heap.get? it=some o)(hc:o.cls=.type n)(hd:o.data=.fields vs)(hn:["enumerate","zip","dict_itemiterator","dict_reverseitemiterator","odict_iterator","itertools.zip_longest","itertools.pairwise"].contains n=false)(hQ:Q () s):Vs M A (ZP tg (.ref it) u) Q E s:=by
  unfold ZP;cases tg<;>first
    |exact U6 hQ
    | (cases u<;>first
        |exact U6 hQ
        | (refine U3 (wpAny_load ho ?_)
           rw[hc,hd];show Vs M A (if (["enumerate","zip","dict_itemiterator","dict_reverseitemiterator","odict_iterator","itertools.zip_longest","itertools.pairwise"].contains n&&vs[0]? == some (Z5 _))=true then _ else _) Q E s;rw[hU (by intro h;rw[hn,Bool.false_and] at h;cases h)];exact U6 hQ))
noncomputable def Pw (K:U7)(a:Vr):It:=
 ⟨λi H=>∃xs x,fH K H a xs/\xs[i]? = some x,λi H x H'=>H'=H/\∀xs,fH K H a xs->xs[i]? = some x,λi H=>∃xs,fH K H a xs/\xs.length<=i⟩
noncomputable def Qp (K:U7)(a:Vr):It:=
 ⟨λi H=>∃xs x,fK K H a xs/\xs[i]? = some x,λi H x H'=>H'=H/\∀xs,fK K H a xs->xs[i]? = some x,λi H=>∃xs,fK K H a xs/\xs.length<=i⟩
noncomputable def Px (lo:Int)(n:Nat):It:=⟨λi _=>i<n,λi H x H'=>H'=H/\x=.int (lo+i),λi _=>n<=i⟩
theorem B5 (a it:Vr):B4 P w K tg (Pw K a) [it] it (λi h=>h.IsListIter it a i) where
 mem:=by simp
 obj:=λi h st b hb=>by
  have e:b=it:=by simpa using hb
  subst e;obtain⟨o,e,c,d⟩:=st;exact⟨o,e,λv z=>by rw[d] at z;cases z⟩
 keep:=λi h h' st k=>st.at λo e=>k it (by simp) o e
 item:=by
  intro X hP hw hK hc i pins s σ H E I hf st hg;subst hP hw hK;obtain⟨xs,x,hq,hx⟩:=hg;obtain⟨its,rv,p,hz⟩:=I.list hq;obtain⟨u,hu,ru⟩:=rv.get hx;obtain⟨f0,f1,f2,f3,f4,f5⟩:=hf it (by simp);refine wpAny_pyNext_list_item st p.isList (x:=u) (by simpa using hu) λh' aQ sb=>?_;have I1:aI X pins σ H {s with heap:=h'}:=I.turned (t':=s.toks) (λb o hb e=>(sb.2 b hb).trans e) f0 f1 f3 f4 f5;obtain⟨o,e,c,d⟩:=id aQ;exact⟨u,rfl,Dt (s:={s with heap:=h'}) e c d (by decide) ⟨x,H,I1,ru,⟨rfl,λys hy=>by rw[I.list_inj hy hq];exact hx⟩,aQ,λb hb=>(hf b hb).1⟩⟩
 done:=by
  intro X hP hw hK hc i pins s σ H E I hf st hg;subst hP hw hK;obtain⟨xs,hq,hx⟩:=hg;obtain⟨its,rv,p,hz⟩:=I.list hq;obtain⟨f0,f1,f2,f3,f4,f5⟩:=hf it (by simp);have hl:=rv.length;exact wpAny_pyNext_list_end (I.ok.hd hc) st p.isList (by simp;lia) λh' eb=>⟨rfl,I.turned (t':=s.toks) (λb o hb e=>eb b o hb e) f0 f1 f3 f4 f5⟩
 self:=λ_ _ _ _ _ st h=>wpAny_pyIter_listiter st h
theorem yV (a it:Vr):B4 P w K tg (Qp K a) [it] it (λi h=>h.IsTupleIter it a i) where
 mem:=by simp
 obj:=λi h st b hb=>by
  have e:b=it:=by simpa using hb
  subst e;obtain⟨o,e,c,d⟩:=st;exact⟨o,e,λv z=>by rw[d] at z;cases z⟩
 keep:=λi h h' st k=>st.at λo e=>k it (by simp) o e
 item:=by
  intro X hP hw hK hc i pins s σ H E I hf st hg;subst hP hw hK;obtain⟨xs,x,hq,hx⟩:=hg;obtain⟨its,rv,p,hz⟩:=I.tuple hq;obtain⟨u,hu,ru⟩:=rv.get hx;obtain⟨f0,f1,f2,f3,f4,f5⟩:=hf it (by simp);refine wpAny_pyNext_tuple_item st (show s.heap.IsTuple a its.toArray from p) (x:=u) (by simpa using hu) λh' aQ sb=>?_;have I1:aI X pins σ H {s with heap:=h'}:=I.turned (t':=s.toks) (λb o hb e=>(sb.2 b hb).trans e) f0 f1 f3 f4 f5;obtain⟨o,e,c,d⟩:=id aQ;exact⟨u,rfl,Dt (s:={s with heap:=h'}) e c d (by decide) ⟨x,H,I1,ru,⟨rfl,λys hy=>by rw[I.tuple_inj hy hq];exact hx⟩,aQ,λb hb=>(hf b hb).1⟩⟩
 done:=by
  intro X hP hw hK hc i pins s σ H E I hf st hg;subst hP hw hK;obtain⟨xs,hq,hx⟩:=hg;obtain⟨its,rv,p,hz⟩:=I.tuple hq;obtain⟨f0,f1,f2,f3,f4,f5⟩:=hf it (by simp);have hl:=rv.length;exact wpAny_pyNext_tuple_end (I.ok.hd hc) st (show s.heap.IsTuple a its.toArray from p) (by simp;lia) λh' eb=>⟨rfl,I.turned (t':=s.toks) (λb o hb e=>eb b o hb e) f0 f1 f3 f4 f5⟩
 self:=λ_ _ _ _ _ st h=>wpAny_pyIter_tupleiter st h
theorem yW (it:Vr)(lo:Int)(n:Nat):B4 P w K tg (Px lo n) [it] it (λi h=>IsRangeIter h it (lo+(i:Nat)*1) ((n:Int)-(i:Nat)) 1) where
 mem:=by simp
 obj:=λi h st b hb=>by
  have e:b=it:=by simpa using hb
  subst e;exact⟨_,st,λv z=>by
   have z':Data.fields _=Data.cell v:=z;cases z'⟩
 keep:=λi h h' st k=>k it (by simp) _ st
 item:=by
  intro X hP hw hK hc i pins s σ H E I hf st hg;subst hP hw hK;obtain⟨f0,f1,f2,f3,f4,f5⟩:=hf it (by simp);have W:=Walks.range (prog:=X.prog) (w:=X.w) (I.ok.hd hc) it lo 1 n;refine W.item i s _ _ hg st λv h' tk hv aQ kk=>?_;obtain⟨t,rfl⟩:=hv;have I1:aI X pins σ H {s with heap:=h',toks:=tk}:=I.turned (λb o hb e=>kk b o (by simpa using hb) e) f0 f1 f3 f4 f5;refine⟨_,rfl,Dt (s:={s with heap:=h',toks:=tk}) (n:="range_iterator") aQ rfl rfl (by decide) ⟨.int (lo+i),H,I1,⟨t,?_⟩,⟨rfl,rfl⟩,aQ,λb hb=>(hf b hb).1⟩⟩;rw[Int.mul_one]
 done:=by
  intro X hP hw hK hc i pins s σ H E I hf st hg;subst hP hw hK;obtain⟨f0,f1,f2,f3,f4,f5⟩:=hf it (by simp);exact wpAny_pyNext_range_end (I.ok.hd hc) st (by have:n<=i:=hg;lia) λh' eb=>⟨rfl,I.turned (t':=s.toks) (λb o hb e=>eb b o hb e) f0 f1 f3 f4 f5⟩
 self:=λ_ _ _ _ _ st h=>wpAny_pyIter_rangeiter st h
end L2
variable {wi:L2.TI}
namespace L2
def M_ (K:U7)(tl:TE):TI:=λσ H R=>tl σ H λx H1=>∃a,x=.ref a/\(∃xs,fH K H1 a xs)/\R (Pw K a) H1
def Qq (K:U7)(tl:TE):TI:=λσ H R=>tl σ H λx H1=>∃a,x=.ref a/\(∃xs,fK K H1 a xs)/\R (Qp K a) H1
theorem GZ {l:W5}{tl:TE}(hl:PE X l tl):PI X tg l (M_ X.K tl):=by
 intro pins s σ H R I h;refine ez (hl pins s σ H _ I h) λv s1 ⟨x,H1,I1,r1,q1⟩=>?_;obtain⟨a,e,⟨xs,hq⟩,q⟩:=q1;subst e;cases r1;obtain⟨its,rv,p,hz⟩:=I1.list hq;refine aar p.isList ?_;refine⟨s1.heap.objs.size,[s1.heap.objs.size],_,_,H1,rfl,I1.kept (t':=s1.toks) λb o e=>U5 _ e,B5 a _,⟨_,Vj _ rfl,rfl,rfl⟩,λb hb=>?_,q⟩;have e:b=s1.heap.objs.size:=by simpa using hb
 subst e;exact I1.fpOk (Vh _) (I1.hok.fresh (Vh _))
theorem KS {l:W5}{tl:TE}(hl:PE X l tl):PI X tg l (Qq X.K tl):=by
 intro pins s σ H R I h;refine ez (hl pins s σ H _ I h) λv s1 ⟨x,H1,I1,r1,q1⟩=>?_;obtain⟨a,e,⟨xs,hq⟩,q⟩:=q1;subst e;cases r1;obtain⟨its,rv,p,hz⟩:=I1.tuple hq;refine Y2 (show s1.heap.IsTuple a its.toArray from p) ?_;refine⟨s1.heap.objs.size,[s1.heap.objs.size],_,_,H1,rfl,I1.kept (t':=s1.toks) λb o e=>U5 _ e,yV a _,⟨_,Vj _ rfl,rfl,rfl⟩,λb hb=>?_,q⟩;have e:b=s1.heap.objs.size:=by simpa using hb
 subst e;exact I1.fpOk (Vh _) (I1.hok.fresh (Vh _))
theorem Du {R:It->Hp->Prop}{lo hi:Int}{t u v:Tok}{tk:Nat}(I:aI X pins σ H s)(h1 : -(2 ^ 62)<=lo)(h2:lo<2 ^ 62)(h3 : -(2 ^ 62)<=hi)(h4:hi<2 ^ 62)(q:R (Px lo (hi-lo).toNat) H):Vs (VE X.prog X.w) X.A (pyIter (.ref s.heap.objs.size)) (Sd X pins σ tg R) E {s with heap:=s.heap.push {cls:=.type "range",data:=.fields #[.int lo t,.int hi u,.int 1 v]},toks:=tk}:=by
 refine wpAny_pyIter_range (IsRange.new ..) (small_one h1 h2 h3 h4) ?_;have I1:aI X pins σ H {s with heap:=s.heap.push {cls:=.type "range",data:=.fields #[.int lo t,.int hi u,.int 1 v]},toks:=tk}:=I.kept λb o e=>U5 _ e;refine⟨(s.heap.push {cls:=.type "range",data:=.fields #[.int lo t,.int hi u,.int 1 v]}).objs.size,[(s.heap.push {cls:=.type "range",data:=.fields #[.int lo t,.int hi u,.int 1 v]}).objs.size],_,_,H,rfl,
  I1.kept (t':=tk) λb o e=>U5 _ e,yW _ lo (hi-lo).toNat,?_,λb hb=>?_,q⟩
 ·have e1:lo+((0:Nat):Int)*1=lo:=by simp
  have e2:(((hi-lo).toNat:Nat):Int)-((0:Nat):Int)=Builtin.Range.rangeSize lo hi 1:=by rw[rangeSize_one];split<;>lia
  show IsRangeIter _ _ (lo+((0:Nat):Int)*1) ((((hi-lo).toNat:Nat):Int)-((0:Nat):Int)) 1;rw[e1,e2];exact Vj _ rfl
 ·have e:b=(s.heap.push {cls:=.type "range",data:=.fields #[.int lo t,.int hi u,.int 1 v]}).objs.size:=by simpa using hb
  subst e;exact I1.fpOk (Vh _) (I1.hok.fresh (Vh _))
def Na (ta:TA):TI:=λσ H R=>ta σ H λvs H1=>∃j:Int,vs=[.int j]/\ -(2 ^ 62)<=j/\j<2 ^ 62/\R (Px 0 j.toNat) H1
theorem B6 {a:W5}{ta:TA}{p:Pos}(hg:Gl X "range")(hm:X.mg "range"=none)(ha:PA X [a] ta)(hs:Vx [a] X.env=[(false,YD a X.env)]:=by rfl):PI X tg (.Call (.Name "range" p) [a] [] pos) (Na ta):=by
 intro pins s σ H R I h;refine Call_ (vj I hg hm boot_range (Yg (ez (ha pos pins s σ H _ I h) λus s1 ⟨vs,H1,I1,r1,q1⟩=>?_) hs rfl));obtain⟨j,e,q1,q2,q⟩:=q1;subst e;cases r1 with
 |cons r rr=>
  cases rr;obtain⟨t,rfl⟩:=r;exact call_range_1 (Du I1 (by lia) (by lia) q1 q2 (by simpa using q))
def Qr (wi:TI)(g:TG)(tb:TS):TS:=λD σ H=>wi σ H λJ H1=>∃W:Nat->Nat->St->Hp->Prop,(∃m,W 0 m σ H1)/\∀i m σ H,W i m σ H->
 (J.stop i H/\D.nx σ H)\/(J.go i H/\∃N:St->Hp->Prop,(∀σ' H',N σ' H'->∃m',m'<m/\W (i+1) m' σ' H')/\∀x H',J.yld i H x H'->g x σ H' λσ2 H2=>tb {D with nx:=N,ct:=N,bk:=D.nx} σ2 H2)
noncomputable def qj (fp:List Vr)(h:XI):List (Vr×Obj):=fp.filterMap λb=>(h.get? b).map λo=>(b,o)
theorem jv {o:Obj}(hb:b∈fp)(e:h.get? b=some o):(b,o)∈qj fp h:=Z6.mpr ⟨b,hb,by rw[e];rfl⟩
theorem B7 {p:Vr×Obj}(hp:p∈qj fp h):p.1∈fp/\h.get? p.1=some p.2:=by
 obtain⟨b,hb,e⟩:=Z6.mp hp;cases q:h.get? b with
 |none=>rw[q] at e;cases e
 |some o=>
  rw[q] at e;have e':(b,o)=p:=Vy e;subst e';exact⟨hb,q⟩
theorem aI.pinned (I:aI X pins σ H s)(hf:∀b∈fp,pB X pins H b)(ho:∀b∈fp,∃o,s.heap.get? b=some o/\∀v,o.data≠.cell v):aI X (pins++qj fp s.heap) σ H s:=
 I.pins_of λp hp=>(Vv.mp hp).elim (λz=>I.pin p (Vm _ z)) λz=>by
  obtain⟨hb,e⟩:=B7 z;obtain⟨f0,f1,f2,_⟩:=hf p.1 hb;obtain⟨o,e',d⟩:=ho p.1 hb;rw[e] at e';cases e';exact⟨e,f0,f1,f2,d⟩
theorem aI.unpinned {pl:List (Vr×Obj)}(I:aI X (pins++pl) σ H s):aI X pins σ H s:=I.pins_of λp hp=>I.pin p (Vm _ (VF _ hp))
theorem KU {g:TG}{tb:TS}(hp:aaD (VE X.prog X.w) X.A X.env X.xe)(hc:X.calm=true)(hi:PI X tg iter wi)(hg:PG X tg g)(hb:tG X body tb)(hs:∀x,WB iter X.env x=pure x:=by intro _;rfl):PS X (.For tg iter body [] pos) (Qr wi g tb):=by
 intro pins s σ H D I h;refine wpAny_For (ez (hi pins s σ H _ I h) λv s1 h1=>ez h1 λP6 s2 h2=>?_) hs;obtain⟨it,fp,tn,J,H2,e,I2,T,kY,f2,W,⟨m0,w0⟩,turn⟩:=h2;subst e;have Mp:∀{H':Hp},(∀b∈fp,H' b=none)->∀b∈fp,pB X pins H' b:=λhn b hb=>⟨hn b hb,(f2 b hb).2⟩;refine codeAny_forLoop_any (λn s'=>∃i σ' H',aI X pins σ' H' s'/\tn i s'.heap/\(∀b∈fp,H' b=none)/\W i n σ' H') ?_ m0 ⟨0,σ,H2,I2,kY,λb hb=>(f2 b hb).1,w0⟩;rintro n s3 ⟨i,σ3,H3,I3,GP,fr3,w3⟩;rcases turn i n σ3 H3 w3 with⟨stop,qn⟩|⟨go,N,hN,step⟩
 ·refine XX hp (ez (T.done X rfl rfl rfl hc i pins s3 σ3 H3 X.xe I3 (Mp fr3) GP stop) λr s4 ⟨hr,I4⟩=>?_);subst hr;exact ZO ⟨σ3,H3,I4,qn⟩
 ·refine XX hp (ez (T.item X rfl rfl rfl hc i pins s3 σ3 H3 X.xe I3 (Mp fr3) GP go) λr s4 ⟨u,hr,h4⟩=>?_);subst hr;refine XX hp (ez h4 λ_ s5 ⟨x,H5,I5,r5,y5,st5,fr5⟩=>?_);have Ry:=I5.pinned (Mp fr5) (T.obj _ _ st5);refine XX hp (ez (hg _ s5 σ3 H5 x u _ Ry r5 (step x H5 y5)) λ_ s6 ⟨σ6,H6,I6,q6⟩=>?_);refine XX hp (ez (hb _ s6 σ6 H6 _ I6 q6) λf s7 q7=>?_);have again:∀{σ7:St} {H7:Hp},aI X (pins++qj fp s5.heap) σ7 H7 s7->N σ7 H7->∃m,m<n/\∃i σ' H',aI X pins σ' H' s7/\tn i s7.heap/\(∀b∈fp,H' b=none)/\W i m σ' H':=λ{σ7 H7} I7 n7=>by
   obtain⟨m',hm,w7⟩:=hN σ7 H7 n7;refine⟨m',hm,i+1,σ7,H7,I7.unpinned,T.keep _ _ _ st5 λb hb o e=>(I7.pin (b,o) (Vm _ (Vm _ (jv hb e)))).1,λb hb=>?_,w7⟩;obtain⟨o,e,d⟩:=T.obj _ _ st5 b hb;exact (I7.pin (b,o) (Vm _ (Vm _ (jv hb e)))).2.1
  cases f with
  |next=>obtain⟨σ7,H7,I7,n7⟩:=q7;exact again I7 n7
  |cont=>obtain⟨σ7,H7,I7,n7⟩:=q7;exact again I7 n7
  |brk=>obtain⟨σ7,H7,I7,q7⟩:=q7;exact⟨σ7,H7,I7.unpinned,q7⟩
  |ret v=>obtain⟨x7,σ7,H7,I7,r7,q7⟩:=q7;exact⟨x7,σ7,H7,I7.unpinned,r7,q7⟩
end L2
namespace L2
abbrev R2:=V->V->Hp->VK->Prop
def jJ (X:Cx)(f:Va->Va->Sem Va)(r:R2):Prop:=
 ∀(pins:List (Vr×Obj)) (s:Vo) (σ:St) (H:Hp) (x y:V) (v u:Va) (Q:VK),aI X pins σ H s->bq x v->bq y u->r x y H Q->
  Vs (VE X.prog X.w) X.A (f v u) (EP X pins σ Q) X.xe s
def eH (X:Cx)(f:Va)(r:List V->Hp->VK->Prop):Prop:=
 ∀(pins:List (Vr×Obj)) (s:Vo) (σ:St) (H:Hp) (xs:List V) (us:List Va) (Q:VK),aI X pins σ H s->a_ xs us->r xs H Q->
  Vs (VE X.prog X.w) X.A (call f us) (EP X pins σ Q) X.xe s
def Qs (X:Cx)(r:V->Hp->(Bool->Hp->Prop)->Prop):Prop:=
 ∀(pins:List (Vr×Obj)) (s:Vo) (σ:St) (H:Hp) (x:V) (v:Va) (Q:Bool->Hp->Prop),aI X pins σ H s->bq x v->r x H Q->
  Vs (VE X.prog X.w) X.A (truthy v) (TP X pins σ Q) X.xe s
def Nb (r:R2)(ta tb:TE):TE:=λσ H Q=>ta σ H λx H1=>tb σ H1 λy H2=>r x y H2 Q
def rI (C:Int->Int->Prop)(g:Int->Int->V):R2:=λx y H Q=>∃i j,x=.int i/\y=.int j/\C i j/\Q (g i j) H
def yX (g:Int->Int->V):R2:=λx y H Q=>∃i j,x=.int i/\y=.int j/\Q (g i j) H
section
variable {a b:W5}{ta tb tc:TE}
theorem KW (ha:PE X a ta)(hb:PE X b tb){R:V->V->Hp->Prop}(I:aI X pins σ H s)(h:ta σ H λx H1=>tb σ H1 λy H2=>R x y H2){f:Va->Va->Sem Va}(hf:∀v u s2 x y H2,aI X pins σ H2 s2->bq x v->bq y u->R x y H2->Vs (VE X.prog X.w) X.A (f v u) Q X.xe s2) :
  Vs (VE X.prog X.w) X.A (YD a X.env) (λv s₁=>Vs (VE X.prog X.w) X.A (YD b X.env) (λu s₂=>Vs (VE X.prog X.w) X.A (f v u) Q X.xe s₂) X.xe s₁) X.xe s:=by
 refine ez (ha pins s σ H _ I h) λv s1 ⟨x,H1,I1,r1,q1⟩=>?_;refine ez (hb pins s1 σ H1 _ I1 q1) λu s2 ⟨y,H2,I2,r2,q2⟩=>?_;exact hf v u s2 x y H2 I2 r1 r2 q2
theorem Nc {op:Operator}{r:R2}(ho:jJ X (Yu op) r)(ha:PE X a ta)(hb:PE X b tb):PE X (.BinOp a op b pos) (Nb r ta tb):=by
 intro pins s σ H Q I h;exact wpAny_BinOp (KW ha hb I h λv u s2 x y H2 I2 rx ry q=>ho pins s2 σ H2 x y v u Q I2 rx ry q)
theorem Py {f:Va->Va->Sem Va}{C:Int->Int->Prop}{g:Int->Int->Int}
  (rule:∀(i j:Int) (t u:Tok) (s:Vo) (Q:Va->Vo->Prop) (E:Va->Vo->Prop),C i j->Q (.int (g i j) s.toks) {s with toks:=s.toks+1}->Vs (VE X.prog X.w) X.A (f (.int i t) (.int j u)) Q E s) :
  jJ X f (rI C λi j=>.int (g i j)):=by
 intro pins s σ H x y v u Q I rx ry h;obtain⟨i,j,rfl,rfl,hc,q⟩:=h;obtain⟨t,rfl⟩:=rx;obtain⟨t',rfl⟩:=ry;exact rule i j t t' s _ _ hc ⟨.int (g i j),H,I.tok _,⟨_,rfl⟩,q⟩
theorem Nf {f:Va->Va->Sem Va}{g:Int->Int->Int}
  (rule:∀(i j:Int) (t u:Tok) (s:Vo) (Q:Va->Vo->Prop) (E:Va->Vo->Prop),Q (.int (g i j) s.toks) {s with toks:=s.toks+1}->Vs (VE X.prog X.w) X.A (f (.int i t) (.int j u)) Q E s) :
  jJ X f (yX λi j=>.int (g i j)):=by
 intro pins s σ H x y v u Q I rx ry h;obtain⟨i,j,rfl,rfl,q⟩:=h;obtain⟨t,rfl⟩:=rx;obtain⟨t',rfl⟩:=ry;exact rule i j t t' s _ _ ⟨.int (g i j),H,I.tok _,⟨_,rfl⟩,q⟩
theorem G0 {f:Va->Va->Sem Va}{g:Int->Int->Bool}
  (rule:∀(i j:Int) (t u:Tok) (s:Vo) (Q:Va->Vo->Prop) (E:Va->Vo->Prop),Q (.bool (g i j)) s->Vs (VE X.prog X.w) X.A (f (.int i t) (.int j u)) Q E s) :
  jJ X f (yX λi j=>.bl (g i j)):=by
 intro pins s σ H x y v u Q I rx ry h;obtain⟨i,j,rfl,rfl,q⟩:=h;obtain⟨t,rfl⟩:=rx;obtain⟨t',rfl⟩:=ry;exact rule i j t t' s _ _ ⟨.bl (g i j),H,I,rfl,q⟩
def Ng (i j:Int):Prop:=0<=j/\j<=1000000/\i.natAbs<2 ^ 64
def G1 (i j:Int):Prop:=(-(2 ^ 64)<i/\i<2 ^ 64)\/(-(2 ^ 64)<j/\j<2 ^ 64)
theorem G1.ok {i j:Int}(h:G1 i j):IntMulOk i j:=by
 rcases h with⟨h1,h2⟩|⟨h1,h2⟩
 ·exact .of_left (intBits_le_64 h1 h2)
 ·exact .of_right (intBits_le_64 h1 h2)
theorem KY:jJ X (Yu .Add) (yX λi j=>.int (i+j)):=Nf λ_ _ _ _ _ _ _ q=>add_int q
theorem vn:jJ X (Yu .Sub) (yX λi j=>.int (i-j)):=Nf λ_ _ _ _ _ _ _ q=>sub_int q
theorem dH:jJ X (Yu .Mult) (rI G1 λi j=>.int (i*j)):=Py λ_ _ _ _ _ _ _ hc q=>mul_int q hc.ok
theorem lK:jJ X (Yu .Mod) (rI (λ_ j=>0<j) λi j=>.int (i % j)):=Py λi j _ _ _ _ _ hc q=>by
 have h1:(0:Int)<j:=hc;exact mod_int' (by lia) (by rw[Int.fmod_eq_emod_of_nonneg i (by lia)];exact q)
theorem Dv:jJ X (Yu .Pow) (rI Ng λi j=>.int (i ^ j.toNat)):=Py λ_ _ _ _ _ _ _ hc q=>pow_int_small hc.1 hc.2.1 hc.2.2 q
end
section
variable {a b:W5}{ta tb tc:TE}
theorem Dx {Q:VK}{k k':Bool}(I:aI X pins σ H s)(q:Q (.bl k) H)(e:k=k'):EP X pins σ Q (.bool k') s:=by
 subst e;exact⟨.bl k,H,I,rfl,q⟩
theorem Dy:jJ X (WO .Lt) (yX λi j=>.bl (decide (i<j))):=G0 λ_ _ _ _ _ _ _ q=>lt_int q
theorem Dz:jJ X (WO .LtE) (yX λi j=>.bl (decide (i<=j))):=G0 λ_ _ _ _ _ _ _ q=>le_int q
theorem w9:jJ X (WO .Gt) (yX λi j=>.bl (decide (j<i))):=G0 λ_ _ _ _ _ _ _ q=>gt_int q
theorem Nh:jJ X (WO .GtE) (yX λi j=>.bl (decide (j<=i))):=G0 λ_ _ _ _ _ _ _ q=>ge_int q
theorem vo:jJ X (WO .Is) (λx y H Q=>y=.non/\Q (.bl (decide (x=.non))) H):=by
 intro pins s σ H x y v u Q I rx ry h;obtain⟨rfl,q⟩:=h;cases ry;refine is_none_gen (Dx I q ?_);cases x<;>first
  | (cases rx;rfl)
  | (obtain⟨t,rfl⟩:=rx;rfl)
theorem AB:jJ X (WO .IsNot) (λx y H Q=>y=.non/\Q (.bl (!decide (x=.non))) H):=by
 intro pins s σ H x y v u Q I rx ry h;obtain⟨rfl,q⟩:=h;cases ry;refine isnot_none_gen (Dx I q ?_);cases x<;>first
  | (cases rx;rfl)
  | (obtain⟨t,rfl⟩:=rx;rfl)
theorem jJ.or {f:Va->Va->Sem Va}{r r':R2}(h:jJ X f r)(h':jJ X f r'):jJ X f (λx y H Q=>r x y H Q\/r' x y H Q):=by
 intro pins s σ H x y v u Q I rx ry q;rcases q with q|q
 ·exact h pins s σ H x y v u Q I rx ry q
 ·exact h' pins s σ H x y v u Q I rx ry q
theorem aR (b:W5)(h:op≠.In:=by decide)(h2:op≠.NotIn:=by decide):Ys op b=false:=by
 have e1:(op==CmpOp.In)=false:=by cases op<;>first|rfl|exact absurd rfl h
 have e2:(op==CmpOp.NotIn)=false:=by cases op<;>first|rfl|exact absurd rfl h2
 cases b<;>simp[Ys,e1,e2]
theorem G2 {r:R2}(ho:jJ X (WO op) r)(ha:PE X a ta)(hb:PE X b tb)(hm:Ys op b=false):PE X (.Compare a [op] [b] pos) (Nb r ta tb):=by
 intro pins s σ H Q I h;exact wpAny_Compare1 (KW ha hb I h λv u s2 x y H2 I2 rx ry q=>ho pins s2 σ H2 x y v u Q I2 rx ry q) hm
def IQ (t:TE):TT:=λσ H Q=>t σ H λx H'=>∃k,x=.bl k/\Q k H'
theorem G3 {r:R2}(ho:jJ X (WO op) r)(ha:PE X a ta)(hb:PE X b tb)(hm:Ys op b=false):PT X (.Compare a [op] [b] pos) (IQ (Nb r ta tb)):=by
 intro pins s σ H Q I h;refine wpAny_isTrue_Compare1 (ez (ha pins s σ H _ I h) λv s1 ⟨x,H1,I1,r1,q1⟩=>ez (hb pins s1 σ H1 _ I1 q1) λu s2 ⟨y,H2,I2,r2,q2⟩=>
  ez (ho pins s2 σ H2 x y v u _ I2 r1 r2 q2) λc s3 ⟨z,H3,I3,r3,k,e,q3⟩=>?_) hm
 subst e;cases r3;exact XU ⟨H3,I3,q3⟩
def DB (r r':R2)(ta tb tc:TE):TE:=λσ H Q=>ta σ H λx H1=>tb σ H1 λy H2=>r x y H2 λz H3=>∃k,z=.bl k/\
 (if k=true then tc σ H3 λw' H4=>r' y w' H4 Q else Q (.bl false) H3)
theorem DC {Mq:CmpOp}{r r':R2}(ho:jJ X (WO op) r)(Gn:jJ X (WO Mq) r')(ha:PE X a ta)(hb:PE X b tb)(hc:PE X c tc)(hm:lastMarks [op,Mq] [b,c]=false:=by with_unfolding_all rfl):PT X (.Compare a [op,Mq] [b,c] pos) (IQ (DB r r' ta tb tc)):=by
 intro pins s σ H Q I h;refine isTrue_chain (ez (ha pins s σ H _ I h) λv s1 ⟨x,H1,I1,r1,q1⟩=>test_link (ez (hb pins s1 σ H1 _ I1 q1) λu s2 ⟨y,H2,I2,r2,q2⟩=>
  ez (ho pins s2 σ H2 x y v u _ I2 r1 r2 q2) λd s3 ⟨z,H3,I3,r3,k,e,q3⟩=>?_)) hm
 subst e;cases r3;refine XU ?_;cases k with
 |false=>
  obtain⟨k',e',q'⟩:=q3;cases e';exact ite_ff ⟨H3,I3,q'⟩
 |true=>
  refine ite_tt (test_last (ez (hc pins s3 σ H3 _ I3 q3) λw' s4 ⟨z',H4,I4,r4,q4⟩=>ez (Gn pins s4 σ H4 y z' u w' _ I4 r2 r4 q4) λd' s5 ⟨z2,H5,I5,r5,k2,e2,q5⟩=>?_));subst e2;cases r5;exact XU ⟨H5,I5,q5⟩
def Qt (K:U7)(x:V)(H:Hp)(k:Bool):Prop:=
 match x with
 | .non=>k=false
 | .bl b=>k=b
 | .int i=>k=(i != 0)
 | .str y=>y.length<=Vf/\k=((y.length:Int) != 0)
 | .byt y=>y.size<=Vf/\k=((y.size:Int) != 0)
 | .ref p=>(∃xs,fH K H p xs/\k = !xs.isEmpty)\/(∃xs,fK K H p xs/\k = !xs.isEmpty)\/∃cn,H p=some (.dK cn)/\k = !cn.isEmpty
 |_=>False
theorem yY {κ:Type}{cn:List (κ×V)}{vs:List (κ×Va)}(r:KV cn vs):(!vs.isEmpty) = !cn.isEmpty:=by
 cases r<;>rfl
theorem qk (r:a_ xs its):(!its.toArray.isEmpty) = !xs.isEmpty:=by
 cases r<;>simp
theorem ny:(Vf:Nat)<2 ^ 63:=by rw[W8];decide
theorem Qu:Qs X (λx H Q=>∃k,Qt X.K x H k/\Q k H):=by
 intro pins s σ H x v Q I rx h;obtain⟨k,e,q⟩:=h;have hl:=ny;have hs:Vf=16777216:=W8;cases x with
 |non=>
  cases rx;have e':k=false:=e;subst e';exact truthy_none ⟨H,I,q⟩
 |bl b=>
  cases rx;have e':k=b:=e;subst e';exact XU ⟨H,I,q⟩
 |int i=>
  obtain⟨t,rfl⟩:=rx;have e':k=(i != 0):=e;subst e';exact PySem.P.truthy_int ⟨H,I,q⟩
 |str y=>
  obtain⟨t,rfl⟩:=rx;obtain⟨hy,e'⟩:y.length<=Vf/\k=((y.length:Int) != 0):=e;subst e';exact PySem.P.truthy_str (by lia) ⟨H,I.tok _,q⟩
 |byt y=>
  obtain⟨t,rfl⟩:=rx;obtain⟨hy,e'⟩:y.size<=Vf/\k=((y.size:Int) != 0):=e;subst e';exact PySem.W.truthy_bytes (by lia) ⟨H,I.tok _,q⟩
 |ref p=>
  cases rx;have e':(∃xs,fH X.K H p xs/\k = !xs.isEmpty)\/(∃xs,fK X.K H p xs/\k = !xs.isEmpty)\/∃cn,H p=some (.dK cn)/\k = !cn.isEmpty:=e;rcases e' with⟨xs,hx,e'⟩|⟨xs,hx,e'⟩|⟨cn,hx,e'⟩
  ·subst e';obtain⟨its,r,pl,hz⟩:=I.list hx;have cZ:=r.length;exact wpAny_truthy_list pl.isList (by simp only[U_];lia) ⟨H,I.tok _,by rw[qk r];exact q⟩
  ·subst e';obtain⟨its,r,pl,hz⟩:=I.tuple hx;have cZ:=r.length;exact truthy_tuple pl (by simp only[U_];lia) ⟨H,I.tok _,by rw[qk r];exact q⟩
  ·subst e';obtain⟨hz,hS,vs,r,m⟩:cn.length<=Vf/\(p==Xp)=false/\∃vs,KV cn vs/\s.heap.DictOf (ff X.prog X.w) p vs:=I.hok p _ hx;have cZ:cn.length=vs.length:=Paired.length r;exact wpAny_truthy_dict hS m (by lia) ⟨H,I.tok _,by rw[yY r];exact q⟩
 |_=>exact (show False from e).elim
theorem ig {x:V}{us:List Va}(r:a_ [x] us):∃u,us=[u]/\bq x u:=by
 cases r with
 |cons r1 r2=>cases r2;exact⟨_,rfl,r1⟩
theorem IS {x:V}{us:List Va}(r:a_ [x,y] us):∃u w',us=[u,w']/\bq x u/\bq y w':=by
 cases r with
 |cons r1 r2=>
  cases r2 with
  |cons r3 r4=>cases r4;exact⟨_,_,rfl,r1,r3⟩
theorem w_:eH X (.builtin "abs") (λxs H Q=>∃i,xs=[.int i]/\Q (.int (if i<0 then -i else i)) H):=by
 intro pins s σ H xs us Q I r h;obtain⟨i,rfl,q⟩:=h;obtain⟨u,rfl,t,rfl⟩:=ig r;exact call_abs_int λu tk=>⟨.int (if i<0 then -i else i),H,I.tok _,⟨_,rfl⟩,q⟩
theorem B8 (hc:X.calm=true):eH X (.builtin "max") (λxs H Q=>∃i j,xs=[.int i,.int j]/\Q (.int (if j>i then j else i)) H):=by
 intro pins s σ H xs us Q I r h;obtain⟨i,j,rfl,q⟩:=h;obtain⟨u,w',rfl,⟨t,rfl⟩,⟨t',rfl⟩⟩:=IS r;refine max_two_ints (I.ok.hd hc) λh' tk k=>⟨_,H,I.kept k,?_,q⟩;by_cases hj:j>i
 ·rw[hV hj,hV hj];exact⟨_,rfl⟩
 ·rw[hU hj,hU hj];exact⟨_,rfl⟩
theorem B9 (hc:X.calm=true):eH X (.builtin "min") (λxs H Q=>∃i j,xs=[.int i,.int j]/\Q (.int (if j<i then j else i)) H):=by
 intro pins s σ H xs us Q I r h;obtain⟨i,j,rfl,q⟩:=h;obtain⟨u,w',rfl,⟨t,rfl⟩,⟨t',rfl⟩⟩:=IS r;refine min_two_ints (I.ok.hd hc) λh' tk k=>⟨_,H,I.kept k,?_,q⟩;by_cases hj:j<i
 ·rw[hV hj,hV hj];exact⟨_,rfl⟩
 ·rw[hU hj,hU hj];exact⟨_,rfl⟩
def Ni (K:U7)(x:V)(H:Hp)(n:Nat):Prop:=
 match x with
 | .str y=>y.length<=Vf/\n=y.length
 | .byt y=>y.size<=Vf/\n=y.size
 | .ref p=>(∃xs,fH K H p xs/\n=xs.length)\/∃xs,fK K H p xs/\n=xs.length
 |_=>False
theorem bA:eH X (.builtin "len") (λxs H Q=>∃x n,xs=[x]/\Ni X.K x H n/\Q (.int n) H):=by
 intro pins s σ H xs us Q I r h;obtain⟨x,n,rfl,e,q⟩:=h;obtain⟨u,rfl,rx⟩:=ig r;have hl:=ny;have hs:Vf=16777216:=W8;cases x with
 |str y=>
  obtain⟨t,rfl⟩:=rx;obtain⟨hy,e'⟩:y.length<=Vf/\n=y.length:=e;subst e';exact len_str (by lia) ⟨.int _,H,I.tok _,⟨_,rfl⟩,q⟩
 |byt y=>
  obtain⟨t,rfl⟩:=rx;obtain⟨hy,e'⟩:y.size<=Vf/\n=y.size:=e;subst e';exact PySem.W.len_bytes (by lia) ⟨.int _,H,I.tok _,⟨_,rfl⟩,q⟩
 |ref p=>
  cases rx;have e':(∃xs,fH X.K H p xs/\n=xs.length)\/∃xs,fK X.K H p xs/\n=xs.length:=e;rcases e' with⟨xs,hx,e'⟩|⟨xs,hx,e'⟩
  ·subst e';obtain⟨its,r',pl,hz⟩:=I.list hx;have cZ:=r'.length;exact Calls.call_len_list pl.isList (by simp only[U_];lia) ⟨.int xs.length,H,I.tok _,⟨_,by simp only[U_];rw[cZ]⟩,q⟩
  ·subst e';obtain⟨its,r',pl,hz⟩:=I.tuple hx;have cZ:=r'.length;exact len_tuple pl (by simp only[U_];lia) ⟨.int xs.length,H,I.tok _,⟨_,by simp only[U_];rw[cZ]⟩,q⟩
 |_=>exact (show False from e).elim
end
end L2
variable {r r':L2.R2}
namespace L2
structure Tf (h:XI)(x dx C:Vr)(mA:Str->Option Va):Prop where
 obj:h.get? x=some (PySem.W.instObj C dx)
 ns:h.Ns1 dx mA
 ne:dx≠x
theorem pA.some_of {o:Option Va}(r:pA (some v) o):∃u,o=some u/\bq v u:=by
 cases o with
 |none=>exact (show False from r).elim
 |some u=>exact⟨u,rfl,r⟩
structure Tg (K:U7)(C:Vr):Prop where
 pg:PySem.W.plainGet K C Str.empty=true
 hd:PySem.W.hasDictIn K C=true
 po:PySem.W.plainOver K C=true
 sa:Zt K (.ref C) "__setattr__"=some (some (.builtin "object.__setattr__"))
structure UO (K:U7)(C:Vr)(f:Str)(v:V)(u:Va):Prop where
 at_:Zt K (.ref C) f=some (some u)
 rel:bq v u
 get:PySem.W.specialIn K u "__get__"=some none
 cp:PySem.W.copiedNames.contains f=false
structure Th (K:U7)(C:Vr)(m:Str)(f:Vr):Prop where
 at_:Zt K (.ref C) m=some (some (.ref f))
 fn:PySem.W.isFn K (.ref f)=true
 kp:Yc K (.ref f)=true
section
variable {A:VR}{c:Va}{b:Bool}
inductive qm (K:U7)(H:Hp):V->Va->Prop where
 |non:qm K H .non (.type "NoneType")
 |bl (x:Bool):qm K H (.bl x) (.type "bool")
 |int (i:Int):qm K H (.int i) (.type "int")
 |str (x:Str):qm K H (.str x) (.type "str")
 |flt (x:UInt64):qm K H (.flt x) (.type "float")
 |lst {a:Vr} {xs:List V} (e:H a=some (.lst xs)):qm K H (.ref a) (.type "list")
 |frz {a:Vr} {o:Obj} {xs:List V} (e:H a=some (.frz o (.lst xs))):qm K H (.ref a) (.type "list")
 |tup {a:Vr} {xs:List V} (e:H a=some (.tup xs)):qm K H (.ref a) (.type "tuple")
 |dK {a:Vr} {cn:List (jI×V)} (e:H a=some (.dK cn)):qm K H (.ref a) (.type "dict")
 |dT {a:Vr} {cn:List (List jI×V)} (e:H a=some (.dT cn)):qm K H (.ref a) (.type "dict")
 |ins {a C dx:Vr} {fs:List (Str×V)} (e:H a=some (.ins C dx fs)) (cl:Tg K C) (ha:Zt K (.ref C) "__class__"=some (some (.builtin "object.__class__")))
   (hn:PySem.W.specialIn K (.builtin "object.__class__") "__get__"=some (some (.builtin "getset_descriptor.__get__"))) (htk:PySem.W.takesIn K (.builtin "object.__class__")=some true)
   (hm:PySem.W.mroIn K C (.type "object")=some true):qm K H (.ref a) (.ref C)
end
end L2
namespace L2
structure fh (k:Nat)(A:VR):Prop where
 hd:A.handled=none
 dp:A.depth+3*k+5<recursionLimit
 un:A.units+16*k+200<W9
theorem fh.mono {A:VR}(r:fh k A)(h:j<=k):fh j A:=⟨r.hd,by have:=r.dp;lia,by have:=r.un;lia⟩
theorem fh.deeper {A:VR}(r:fh (k+1) A)(env:Env):fh k (A.deeper env):=
 ⟨r.hd,by have:=r.dp;show A.depth+1+3*k+5<_;lia,by have:=r.un;show A.units+3+16*k+200<_;lia⟩
theorem fh.depth {A:VR}(r:fh k A):A.depth<recursionLimit:=by have:=r.dp;lia
theorem fh.units {A:VR}(r:fh k A):A.units+64<W9:=by have:=r.un;lia
def Qv:TA:=λ_ H Q=>Q [] H
def Nj (ta:TE)(tr:TA):TA:=λσ H Q=>ta σ H λx H1=>tr σ H1 λxs H2=>Q (x::xs) H2
section
variable {e:W5}{es:List W5}{t:TA}
theorem qo:PA X [] Qv:=λ_ _ _ _ H Q I h=>Calls.spliced_nil ⟨[],H,I,.nil,h⟩
theorem ma (ha:PE X e te)(hr:PA X es t)(hs:Vx (e::es) X.env=(false,YD e X.env)::Vx es X.env:=by rfl):PA X (e::es) (Nj te t):=by
 intro pos pins s σ H Q I h;rw[hs];show Vs _ _ (spliced ((false,YD e X.env)::XR pos (Vx es X.env))) _ _ s;refine Z7 (ez (ha pins s σ H _ I h) λu s1 ⟨x,H1,I1,r1,q1⟩=>?_);exact ez (hr pos pins s1 σ H1 _ I1 q1) λus s2 ⟨xs,H2,I2,r2,q2⟩=>⟨x::xs,H2,I2,.cons r1 r2,q2⟩
def Qw (t:TA):TE:=λσ H Q=>t σ H λxs H1=>xs.length<=Vf/\∀p,H1 p=none->Q (.ref p) (cQ H1 p (.tup xs))
def Qx (t:TA):TE:=λσ H Q=>t σ H λxs H1=>xs.length<=Vf/\∀p,H1 p=none->Q (.ref p) (cQ H1 p (.lst xs))
theorem KZ {x1}(h:PA X es t):PE X (.Tuple es x1 pos) (Qw t):=by
 intro pins s σ H Q I hq;refine wpAny_Tuple_spliced (ez (h pos pins s σ H _ I hq) λus s1 ⟨xs,H1,I1,r,z,q⟩=>⟨by rw[←r.length];exact z,?_⟩);have hf:H1 s1.heap.objs.size=none:=I1.hok.fresh (Vh _);refine⟨.ref s1.heap.objs.size,cQ H1 s1.heap.objs.size (.tup xs),I1.laid (t':=s1.toks) (λb u e=>U5 _ e) (Vh _) ?_,rfl,q _ hf⟩;exact⟨z,us,r,⟨_,Vj _ rfl,rfl,_,rfl⟩,_,Vj _ rfl⟩
theorem DF (h:PA X es t):PE X (.List es pos) (Qx t):=by
 intro pins s σ H Q I hq;refine wpAny_List_spliced (ez (h pos pins s σ H _ I hq) λus s1 ⟨xs,H1,I1,r,z,q⟩=>⟨by rw[←r.length];exact z,?_⟩);have hf:H1 s1.heap.objs.size=none:=I1.hok.fresh (Vh _);refine⟨.ref s1.heap.objs.size,cQ H1 s1.heap.objs.size (.lst xs),I1.laid (t':=s1.toks) (λb u e=>U5 _ e) (Vh _) ?_,rfl,q _ hf⟩;exact⟨z,us,0,r,Vj _ rfl⟩
end
abbrev Sp:=List V->Hp->VK->XK->Prop
abbrev CXT:=List Env->Hp->Vo->XK->Va->Vo->Prop
structure G4 (P:XJ)(w:Ya)(K:U7)(mg:Str->Option Va)(base:XI)(A:VR)(outer:List Env)(s:Vo)(H:Hp):Prop where
 frames:A.frames=some outer
 mod:Mod K mg base
 bs:∀b o,base.get? b=some o->s.heap.get? b=some o/\H b=none
 bsz:base.objs.size<=s.heap.objs.size
 funs:s.heap.FunFrames base outer
 frf:∀b∈Aw outer,H b=none
 hok:kZ P w H s.heap
 bare:AllBare s.gens
def CE (outer:List Env)(P:XJ)(w:Ya)(H:Hp)(s:Vo)(Q:VK)(u:Va)(s':Vo):Prop:=
 ∃v H',s'.os=s.os/\AllBare s'.gens/\Un (Aw outer) [] H H' s.heap s'.heap/\kZ P w H' s'.heap/\bq v u/\Q v H'
def CR (CX:CXT)(outer:List Env)(P:XJ)(w:Ya)(H:Hp)(s:Vo)(Q:VK)(E:XK)(r:Result)(s':Vo):Prop:=
 match r with
 | .ok (.ret u)=>CE outer P w H s Q u s'
 | .ok _=>False
 | .error e=>CX outer H s E e s'
structure k7 (P:XJ)(w:Ya)(K:U7)(mg:Str->Option Va)(base:XI)(CX:CXT)(k:Nat)(f:Vr)(fd:ZF)(ps:List Str)(sp:Sp):Prop where
 len:∀vs H Q E,sp vs H Q E->vs.length=ps.length
 run:∀(A:VR) (outer:List Env) (s:Vo) (H:Hp) (args:Args) (us:List Va) (vs:List V) (Q:VK) (E:XK),fh k A->G4 P w K mg base A outer s H->BindsTo s fd args (ps.zip us)->a_ vs us->sp vs H Q E->
  codeAny (VE P w) A (.call (.ref f) args) (CR CX outer P w H s Q E) s
theorem k7.imp {base:XI}{CX:CXT}{sp SO:Sp}(F:k7 P w K mg base CX k f fd ps sp)(h:∀vs H Q E,SO vs H Q E->sp vs H Q E):k7 P w K mg base CX k f fd ps SO:=
 ⟨λvs H Q E q=>F.len vs H Q E (h _ _ _ _ q),λA outer s H args us vs Q E hr he hb hv hs=>F.run A outer s H args us vs Q E hr he hb hv (h _ _ _ _ hs)⟩
section
variable {s':Vo}
theorem aI.env0 (I:aI X pins σ H s):G4 X.prog X.w X.K X.mg X.base X.A X.stack s H:=
 ⟨I.ok.frames,I.ok.mod,I.bs,Wa I.ok.bsz I.sz,I.stack,I.stkFree,I.hok,I.bare⟩
theorem aI.after {Q:VK}{u:Va}(I:aI X pins σ H s)(h:CE X.stack X.prog X.w H s Q u s'):EP X pins σ Q u s':=by
 obtain⟨v,H',os,bare,un,hok,r,q⟩:=h;obtain⟨hh,g,d,t,os'⟩:=s';obtain rfl:os'=s.os:=os;exact⟨v,H',I.call (h':=hh) (g':=g) (d':=d) (t':=t) (ch:=[]) un hok bare (λb z=>absurd z (by simp)),r,q⟩
end
def IT (sp:Sp)(Ke:List V)(E:XK)(t:TA):TE:=λσ H Q=>t σ H λvs H1=>sp (vs++Ke) H1 Q E
def ui (K:U7)(fd:ZF)(ps:List Str)(ds:List Va):Prop:=
 ∀(s:Vo) (us:List Va),K.In s.heap->(us++ds).length=ps.length->BindsTo s fd ⟨us,[]⟩ (ps.zip (us++ds))
theorem ui.all (h:∀us:List Va,us.length=ps.length->bindArgs fd ⟨us,[]⟩=pure (ps.zip us)):ui K fd ps []:=λs us _ hl=>by
 rw[VU] at hl ⊢;exact .of_eq (h us hl)
def yZ (CX:CXT)(X:Cx)(E:XK):Prop:=∀(pins:List (Vr×Obj)) (σ:St) (H:Hp) (s:Vo) (e:Va) (s':Vo),aI X pins σ H s->CX X.stack H s E e s'->X.xe e s'
section
variable {CX:CXT}{C:Vr}{sp:Sp}{Ke:List V}{ds:List Va}{E:XK}{m:Str}{p gj:Pos}{e o:W5}{es:List W5}{ta:TE}{t:TA}
theorem K0 {Q:VK}{us:List Va}(F:k7 X.prog X.w X.K X.mg X.base CX k f fd ps sp)(hr:fh k X.A)(hb:ui X.K fd ps ds)(hd:a_ Ke ds)(hx:yZ CX X E)(I:aI X pins σ H s)(r:a_ vs us)(h:sp (vs++Ke) H Q E):Vs (VE X.prog X.w) X.A (call (.ref f) us) (EP X pins σ Q) X.xe s:=by
 have r2:a_ (vs++Ke) (us++ds):=r.append hd;have hl:(us++ds).length=ps.length:=by rw[←r2.length];exact F.len _ _ _ _ h
 refine wpAny_call (Z8 (F.run X.A X.stack s H ⟨us,[]⟩ (us++ds) (vs++Ke) Q E hr I.env0 (hb s us I.kIn hl) r2 h) λr s' hq=>?_);cases r with
 |error e=>exact hx pins σ H s e s' I hq
 |ok fl=>
  cases fl with
  |ret u=>exact I.after hq
  |next=>exact Yt hq
  |brk=>exact Yt hq
  |cont=>exact Yt hq
theorem G5 (F:k7 X.prog X.w X.K X.mg X.base CX k f fd ps sp)(hr:fh k X.A)(hg:Gl X x)(hm:X.mg x=some (.ref f))(hk:Yc X.K (.ref f)=true)(hb:ui X.K fd ps ds)(hd:a_ Ke ds)(hx:yZ CX X E)
  (ha:PA X (e::es) t) (Aq:(x==("__debug__":Str))=false:=by decide) (he:Vx (e::es) X.env=(false,YD e X.env)::Vx es X.env:=by rfl) (tE:(XR pos (Vx es X.env)).any (·.1)=false:=by rfl) :
  PE X (.Call (.Name x p) (e::es) [] pos) (IT sp Ke E t):=by
 intro pins s σ H Q I h;refine Z9 (Ax I hg hm ?_ Aq);refine PySem.W.callWith_K (h₀:=X.base) I.ok.mod.kin hk (ez (ha pos pins s σ H _ I h) λus s1 ⟨vs,H1,I1,r,q⟩=>⟨I1.kIn,?_⟩) he tE;exact K0 F hr hb hd hx I1 r q
structure Mk (K:U7)(C f:Vr):Prop where
 makes:PySem.W.makesIn K C=true
 init:Zt K (.ref C) "__init__"=some (some (.ref f))
 fn:PySem.W.isFn K (.ref f)=true
 kp:Yc K (.ref C)=true
end
section
variable {CX:CXT}{C:Vr}{ks:List Str}{sp:Sp}{E:XK}{m:Str}{p gj kpos:Pos}{e o:W5}{es:List W5}{kws:List Zz}{ta:TE}{t tk:TA}{nm:Option Str}
structure Qy (K:U7)(fd:ZF)(ps ks:List Str)(g:List Va->List Va->List Va)(gV:List V->List V->List V):Prop where
 to:∀(s:Vo) (us ws:List Va),K.In s.heap->(g us ws).length=ps.length->BindsTo s fd ⟨us,ks.zip ws⟩ (ps.zip (g us ws))
 rel:∀{vs:List V} {us:List Va} {zs:List V} {ws:List Va},a_ vs us->a_ zs ws->a_ (gV vs zs) (g us ws)
variable {g:List Va->List Va->List Va}{gV:List V->List V->List V}
end
structure aS (N P:List Str)(sc:aai):Prop where
 kind:sc.kind=.function
 co:sc.isCoroutine=false
 gen:sc.isGenerator=false
 nd:N.Nodup
 pre:N.take P.length=P
 par:∀x∈P,sc.names.lookup x=some .local\/sc.names.lookup x=some .cell
 nofree:∀y∈sc.names,y.2≠.free
theorem uj {Wu:Str->Option aaB}{x:Str}:∀{binds:List (Str×Va)} {m:Str->Option Va},(∀v,(x,v)∉binds)->bindL Wu binds m x=m x
 | [],_,_=>rfl
 | (n,v)::r,m,h=>by
  unfold bindL;rw[uj λw hw=>h w (Vc _ hw)];split
  ·have:x≠n:=by rintro rfl;exact h v U8
   simp[this]
  ·rfl
theorem uk {Wu:Str->Option aaB}{x:Str}:∀{binds:List (Str×Va)} {m:Str->Option Va},(∀v,(x,v)∉binds)->bindC Wu binds m x=m x
 | [],_,_=>rfl
 | (n,v)::r,m,h=>by
  unfold bindC;rw[uk λw hw=>h w (Vc _ hw)];split
  ·rfl
  ·have:x≠n:=by rintro rfl;exact h v U8
   simp[this]
theorem um {Wu:Str->Option aaB}{x:Str}{v:Va}:∀{P:List Str} {vs:List Va} {i:Nat} {m:Str->Option Va},P.Nodup->P[i]? = some x->vs[i]? = some v->Wu x=some .local->
  bindL Wu (P.zip vs) m x=some v
 | [],_,_,_,_,h,_,_=>by simp at h
 |_::_,[],_,_,_,_,h,_=>by simp at h
 |p::P,w::vs,0,m,nd,h1,h2,hk=>by
  simp at h1 h2;subst h1;subst h2;show bindL Wu ((p,w)::P.zip vs) m p=_;unfold bindL;rw[uj λv hv=>(Wj.mp nd).1 (List.of_mem_zip hv).1,hV hk];simp
 |p::P,w::vs,i+1,m,nd,h1,h2,hk=>by
  show bindL Wu ((p,w)::P.zip vs) m x=_;unfold bindL;exact um (i:=i) (Wj.mp nd).2 (by simpa using h1) (by simpa using h2) hk
theorem uo {Wu:Str->Option aaB}{x:Str}{v:Va}:∀{P:List Str} {vs:List Va} {i:Nat} {m:Str->Option Va},P.Nodup->P[i]? = some x->vs[i]? = some v->Wu x≠some .local->
  bindC Wu (P.zip vs) m x=some v
 | [],_,_,_,_,h,_,_=>by simp at h
 |_::_,[],_,_,_,_,h,_=>by simp at h
 |p::P,w::vs,0,m,nd,h1,h2,hk=>by
  simp at h1 h2;subst h1;subst h2;show bindC Wu ((p,w)::P.zip vs) m p=_;unfold bindC;rw[uk λv hv=>(Wj.mp nd).1 (List.of_mem_zip hv).1,hU hk];simp
 |p::P,w::vs,i+1,m,nd,h1,h2,hk=>by
  show bindC Wu ((p,w)::P.zip vs) m x=_;unfold bindC;exact uo (i:=i) (Wj.mp nd).2 (by simpa using h1) (by simpa using h2) hk
noncomputable def Y1 (N:List Str)(vs:List V):St:=vs.map some++V2 (N.length-vs.length) none
noncomputable def pD (CX:CXT)(P:XJ)(w:Ya)(K:U7)(mg:Str->Option Va)(base:XI)(N:List Str)(qual:Str)(scope:aai)(f:Vr)(cd:Va)(A:VR)(outer:List Env)(s:Vo)(H:Hp)(E:XK):Cx where
 prog:=P
 w:=w
 K:=K
 mg:=mg
 base:=base
 A:=A.deeper (Z_ qual scope s.heap.objs.size f cd)
 N:=N
 s₀:=s
 H₀:=H
 env:=Z_ qual scope s.heap.objs.size f cd
 outer:=outer
 stack:=Z_ qual scope s.heap.objs.size f cd::outer
 ex:=[]
 calm:=true
 fn:=λ_=>true
 pn:=[]
 xe:=λe s'=>Vs (VE P w) (A.deeper (Z_ qual scope s.heap.objs.size f cd)) (leaving (Z_ qual scope s.heap.objs.size f cd) e) (λ_ Mr=>CX outer H s E e Mr) (λe' Mr=>CX outer H s E e' Mr) s'
theorem xb {sc:aai}(h:sc.names.lookup x=some .cell):∃c,(cellsFrom n sc.names []).lookup x=some c:=by
 have q:=PySem.W.cellsFrom_some sc.names n [] (.inl h);exact Option.isSome_iff_exists.mp q
theorem B_ {CX:CXT}{base:XI}{cd:Va}{A:VR}{outer:List Env}{s1:Vo}{E:XK}{us:List Va}(S:aS N ps scope)(hd:A.handled=none)(e0:G4 P w K mg base A outer s H)(hl:vs.length=ps.length)(r:a_ vs us)(x:InCallC s s.heap.objs.size (bindL (Z_ qual scope s.heap.objs.size f cd).kindOf (ps.zip us) λ_=>none) (cellsFrom (s.heap.objs.size+1) scope.names []) (bindC (Z_ qual scope s.heap.objs.size f cd).kindOf (ps.zip us) λ_=>none) s1) :
  aI (pD CX P w K mg base N qual scope f cd A outer s H E) [] (Y1 N vs) H s1:=by
 have tE:ps.length<=N.length:=by have:=congrArg List.length S.pre;rw[V5] at this;lia
 obtain⟨h1,tk,rfl,hk⟩:=x.done;have O1:∀b:Vr,b∉(pD CX P w K mg base N qual scope f cd A outer s H E).ex:=λb z=>absurd (show b∈([]:List Vr) from z) (by simp);refine⟨⟨e0.mod,S.kind,rfl,rfl,Vh _,λy z c h1 h2=>?_,λy hy=>?_,λy c _ h=>?_,λ_=>hd,Around.frames_deeper e0.frames,.inr ⟨rfl,rfl⟩,λb z=>absurd z (O1 b),e0.bs,e0.bsz,λb _ _=>O1 b,λb z=>absurd z (O1 b),e0.funs,e0.frf⟩,
  rfl,e0.bare,Un.kept hk,⟨_,x.toInCall.ns,λi y v h1 h2 h3=>?_⟩,λy c h=>⟨_,x.cell y c h⟩,e0.hok.fresh (Vh _),λy c h=>?_,λp hp=>absurd (show p∈([]:List (Vr×Obj)) from hp) (by simp),e0.hok.kept hk,?_⟩
 ·exact name_of_addr x.apart (Wf h1) (Wf h2)
 ·have hy:scope.names.lookup y=some .cell\/scope.names.lookup y=some .free:=hy;rcases hy with hy|hy
  ·exact xb hy
  ·exact absurd rfl (S.nofree _ (Wf hy))
 ·exact Nat.le_of_lt (x.above y c (Wf h))
 ·have hi:i<vs.length:=by
   unfold Y1 at h2;by_cases hi:i<vs.length
   ·exact hi
   ·rw[V9 (by simpa using hi)] at h2;rw[List.getElem?_replicate] at h2;split at h2<;>cases h2
  have ha:vs[i]? = some v:=by
   unfold Y1 at h2;rw[Wn (by simpa using hi),VL] at h2;cases e:vs[i]? with
   |none=>rw[e] at h2;cases h2
   |some a=>rw[e] at h2;cases h2;rfl
  obtain⟨u,hu,rv⟩:=r.get ha;have hp:ps[i]? = some y:=by
   rw[←S.pre,aas (by lia)];exact h1
  have SQ:ps.Nodup:=by rw[←S.pre];exact S.nd.sublist (List.take_sublist _ _)
  refine⟨u,rv,?_⟩;rcases S.par y (Wc hp) with k|k
  ·exact .inl ⟨k,um SQ hp hu k⟩
  ·obtain⟨c,e⟩:=xb (n:=s.heap.objs.size+1) k;refine .inr ⟨.inl k,c,e,?_⟩;have q:=x.cell y c e;rw[uo SQ hp hu (by show scope.names.lookup y≠_;rw[k];decide)] at q;exact q
 ·exact e0.hok.fresh (Nat.le_of_lt (x.above y c (Wf h)))
 ·unfold Y1;show _=N.length;rw[Ve,Vd,Yh];lia
theorem Nk {CX:CXT}{base:XI}{name:Str}{params:Arguments}{dV kV nv pm cP ct oc:Va}{an od:Option Vr}{Kg:Array (Option Va)}{sp:Sp}(lk:K.lookup f=some ⟨oc,od,.func (WY name qual params body scope dV kV nv pm an cP ct),Kg⟩)(sW:aak K cP qual=true)(S:aS N ps scope)(len:∀vs H Q E,sp vs H Q E->vs.length=ps.length)(iJ:∀(A:VR) (outer:List Env) (s:Vo) (H:Hp) (vs:List V) (Q:VK) (E:XK),fh k (A.deeper (Z_ qual scope s.heap.objs.size f cP))->sp vs H Q E->
   ∃t,tG (pD CX P w K mg base N qual scope f cP A outer s H E) body t/\t {nx:=λ_ H'=>Q .non H',rt:=Q} (Y1 N vs) H) :
  k7 P w K mg base CX (k+1) f (WY name qual params body scope dV kV nv pm an cP ct) ps sp:=by
 refine⟨len,λA outer s H args us vs Q E hr e0 hb r Kh=>?_⟩;have hl:=len _ _ _ _ Kh;have KX:K.In s.heap:=e0.mod.kin.keeps λb o e=>(e0.bs b o e).1;have TB:s.heap.NoLimit:=e0.mod.nolimit.keeps λb o e=>(e0.bs b o e).1;have O2:∀y∈ps.zip us,scope.names.lookup y.1=some .local\/(scope.names.lookup y.1=some .cell/\((cellsFrom (s.heap.objs.size+1) scope.names []).lookup y.1).isSome=true):=fun⟨n,v⟩ hy=>by
  rcases S.par n (List.of_mem_zip hy).1 with q|q
  ·exact .inl q
  ·exact .inr ⟨q,PySem.W.cellsFrom_some _ _ _ (.inl q)⟩
 refine codeAny_call_function hr.depth (KX _ _ lk) rfl S.co S.gen rfl (PySem.W.codeRec_of KX sW) (hb _ _ _ _ ?_);refine wpAny_newFunctionEnv_cells S.kind O2 λenv he s1 x=>?_;subst he;refine⟨TB.keeps x.toInCall.keep,codeAny_func ?_⟩;obtain⟨t,ht,hq⟩:=iJ A outer s H vs Q E (hr.deeper _) Kh;have I:aI (pD CX P w K mg base N qual scope f cP A outer s H E) [] (Y1 N vs) H s1:=B_ S hr.hd e0 hl r x;refine Wm (ht [] s1 (Y1 N vs) H _ I hq) (λfl s' hs=>?_) λe s' hs=>hs;have fin:∀{σ':St} {H':Hp} {v:V} {u:Va},aI (pD CX P w K mg base N qual scope f cP A outer s H E) [] σ' H' s'->bq v u->Q v H'->CE outer P w H s Q u s' :=
  λ{σ' H' v u} J rv q=>⟨v,H',J.os,J.bare,J.base,J.hok,rv,q⟩
 cases fl with
 |ret u=>
  obtain⟨v,σ',H',J,rv,q⟩:=hs;exact fin J rv q
 |next=>
  obtain⟨σ',H',J,q⟩:=hs;exact fin (v:=V.non) (u:=Value.none) J rfl q
 |brk=>
  obtain⟨_,_,_,q⟩:=hs;exact Yt q
 |cont=>
  obtain⟨_,_,_,q⟩:=hs;exact Yt q
end L2
variable {CX:L2.CXT}{sp:L2.Sp}
namespace L2
section
variable {p:Pos}{e:W5}{es:List W5}{t:TA}{id T:String}{r:List V->Hp->VK->Prop}
def Qz (r:List V->Hp->VK->Prop)(t:TA):TE:=λσ H Q=>t σ H λvs H1=>r vs H1 Q
theorem qp (hc:eH X (.builtin id) r)(hg:Gl X x)(hm:X.mg x=none)(hv:We x=some (.builtin id))(ha:PA X (e::es) t)(hn:x≠"__name__":=by decide)(Aq:(x==("__debug__":Str))=false:=by decide)
  (he:Vx (e::es) X.env=(false,YD e X.env)::Vx es X.env:=by rfl) (tE:(XR pos (Vx es X.env)).any (·.1)=false:=by rfl):PE X (.Call (.Name x p) (e::es) [] pos) (Qz r t):=by
 intro pins s σ H Q I h;refine Z9 (vj I hg hm hv ?_ hn Aq);exact PyProof.Rows.callWith_builtin1 (ez (ha pos pins s σ H _ I h) λus s1 ⟨vs,H1,I1,r1,q1⟩=>hc pins s1 σ H1 vs us Q I1 r1 q1) he tE
theorem je (hc:eH X (.type T) r)(hg:Gl X x)(hm:X.mg x=none)(hv:We x=some (.type T))(ha:PA X (e::es) t)(hn:x≠"__name__":=by decide)(Aq:(x==("__debug__":Str))=false:=by decide)
  (he:Vx (e::es) X.env=(false,YD e X.env)::Vx es X.env:=by rfl) (tE:(XR pos (Vx es X.env)).any (·.1)=false:=by rfl):PE X (.Call (.Name x p) (e::es) [] pos) (Qz r t):=by
 intro pins s σ H Q I h;refine Z9 (vj I hg hm hv ?_ hn Aq);exact Yg (ez (ha pos pins s σ H _ I h) λus s1 ⟨vs,H1,I1,r1,q1⟩=>hc pins s1 σ H1 vs us Q I1 r1 q1) he tE
end
end L2
namespace HT
noncomputable def lexLt:List Int->List Int->Bool
 | [],[]=>false
 | [],_::_=>true
 |_::_,[]=>false
 |x::xs,y::ys=>if x=y then lexLt xs ys else decide (x<y)
theorem lexLt_cons (x y:Int)(xs ys:List Int):lexLt (x::xs) (y::ys)=if x=y then lexLt xs ys else decide (x<y):=rfl
theorem tH:lexLt [] []=false:=rfl
theorem qr (y:Int)(ys:List Int):lexLt [] (y::ys)=true:=rfl
theorem qt (x:Int)(xs:List Int):lexLt (x::xs) []=false:=rfl
theorem DH (A:VR)(s:Vo)(a:Int)(t:Tok)(c:Int)(u:Tok):∃e,XY A s (.int a t) (.int c u) e/\(e=true↔a=c):=
 ⟨(a==c),aaa a t c u,by simp⟩
theorem DJ (A:VR)(s:Vo)(a:Int)(t:Tok)(c:Int)(u:Tok)(prog:XJ)(w:Ya)(E:Va->Vo->Prop)(Q:Va->Vo->Prop)(h:Q (.bool (decide (a<c))) s) :
  Vs (VE prog w) A (richCompare .Lt (.int a t) (.int c u)) Q E s:=
 (PyProof.Rows.lt_int h:Vs (VE prog w) A (WO .Lt (.int a t) (.int c u)) Q E s)
section
open PySem.SeqAt
open PySem.AutoSeq1 (wpAny_loadPart')
open PySem.MeetsSeq PySem.MeetsSeq2 PySem.MeetsSeq3
theorem tJ (l b:Vr)(items jb:Array Va)(n n2:Nat)(dd Ki:Option Vr)(sl Kj:Array (Option Va))(ns ms:List Int)(hi:Xh items.toList ns)(hj:Xh jb.toList ms) :
  Meets (Builtin.«tuple.__lt__» ⟨[.ref l,.ref b],[]⟩)
   (λ_ R s=>s.heap.get? l=some {cls:=.type "tuple",dict:=dd,data:=.seq items n,slots:=sl}/\s.heap.get? b=some {cls:=.type "tuple",dict:=Ki,data:=.seq jb n2,slots:=Kj} /\
    R (.ok (.ret (.bool (lexLt ns ms)))) s):=
 .of_wp λprog w A R s h=>by
  obtain⟨hp,g,d,tk,os⟩:=s;obtain⟨hl,hb,h⟩:=h;have f2:=AutoSeq1.sub_tuple_tuple;have z1:items.size=ns.length:=by rw[←hi.length];simp
  have z2:jb.size=ms.length:=by rw[←hj.length];simp
  wp_walk using wpAny_loadPart' hl,wpAny_loadPart' hb,ZA _ (λrest b s'=>b.1=none/\s'=⟨hp,g,d,tk,os⟩/\∃(vs ws:List Va) (ox ms':List Int),rest=vs.zip ws/\
   Xh vs ox/\Xh ws ms'/\ox.length+jb.size=ms'.length+items.size/\R (.ok (.ret (.bool (lexLt ox ms')))) ⟨hp,g,d,tk,os⟩) _
  case turn=>
   rintro⟨y,x⟩ rest b s' ⟨s9,rfl,vs,ws,ox,ms',hz,hvi,hwi,cZ,hR⟩;cases hvi with
   |nil=>rw[List.zip_nil_left] at hz;cases hz
   |cons a t hvi'=>
    cases hwi with
    |nil=>rw[List.zip_nil_right] at hz;cases hz
    |cons c u hwi'=>
     rw[Y3] at hz;injection hz with hyx hrest
     injection hyx with hy hx
     subst hy hx;rw[lexLt_cons] at hR;simp only[Vi] at cZ;obtain⟨e,he,hiff⟩:=DH A.in1 ⟨hp,g,d,tk,os⟩ a t c u;refine U3 (he prog w _ _ ?_);cases e with
     |true=>
      rw[hV (hiff.mp rfl)] at hR;wp_walk;exact⟨rfl,rfl,_,_,_,_,hrest,hvi',hwi',by lia,hR⟩
     |false=>
      rw[hU (λq=>absurd (hiff.mpr q) Vb)] at hR;have TC:=DJ A.in1 ⟨hp,g,d,tk,os⟩ a t c u prog w;wp_walk using TC;exact⟨_,rfl,by simpa using hR⟩
  case fin=>
   rintro⟨b1,b2⟩ s' ⟨s9,rfl,vs,ws,ox,ms',hz,hvi,hwi,cZ,hR⟩;simp only at s9;subst s9;have hv:lexLt ox ms'=decide (items.size<jb.size):=by
    cases hvi with
    |nil=>
     cases hwi with
     |nil=>
      simp only[Xt] at cZ;rw[tH];exact (hJ (by lia)).symm
     |cons c u hw=>
      simp only[Xt,Vi] at cZ;rw[qr];exact (hG (by lia)).symm
    |cons a t hv=>
     cases hwi with
     |nil=>
      simp only[Xt,Vi] at cZ;rw[qt];exact (hJ (by lia)).symm
     |cons c u hw=>
      rw[Y3] at hz;cases hz
   rw[hv] at hR;wp_walk;exact⟨_,rfl,by simpa [Builtin.Tuple.tupleCompareSizes] using hR⟩
  case h=>
   exact⟨rfl,rfl,items.toList,jb.toList,ns,ms,rfl,hi,hj,by lia,h⟩
end
section
variable {A:VR}
theorem lt_tupInts {l:Vr}{jb:Array Va}{ms:List Int}(hl:IsTup s.heap l items)(hb:IsTup s.heap b jb)(hi:Xh items.toList ns)(hj:Xh jb.toList ms)(hu:A.units<W9)(h:Q (.bool (lexLt ns ms)) s):Vs (VE prog w) A (WO .Lt (.ref l) (.ref b)) Q E s:=by
 obtain⟨⟨cls,dd,data,sl⟩,ho,hc,n,hd⟩:=id hl;obtain⟨⟨cls2,Ki,data2,Kj⟩,ho2,hc2,n2,Av⟩:=id hb;simp only at hc hd hc2 Av;subst hc hd hc2 Av;exact richCompare_meets_room (op:=.Lt) ⟨_,ho,rfl⟩ ⟨_,ho2,rfl⟩ PySem.F.slot_tuple_lt PySem.F.entry_tuple_lt (PySem.F.args_tuple_lt_2 _ _) (tJ l b items jb n n2 dd Ki sl Kj ns ms hi hj)
  ⟨ho,ho2,show Value.bool (lexLt ns ms)≠Value.notImplemented/\Q (.bool (lexLt ns ms)) s from ⟨(λx=>nomatch x),h⟩⟩ hu
theorem cat_tup {t:Vr}{vs ws:List Va}(ht:IsTup s.heap t vs.toArray)(hb:IsTup s.heap b ws.toArray)(hv:vs≠[])(h1:ws=[]->Q (.ref t) s)(h2:ws≠[]->Q (.ref s.heap.objs.size) {s with heap:=s.heap.push {cls:=.type "tuple",data:=.seq (vs++ws).toArray}})(hsz:vs.length+ws.length<=Vf):Vs (VE prog w) A (Yu .Add (.ref t) (.ref b)) Q E s:=by
 obtain⟨⟨cls,dd,data,sl⟩,ho,hc,n,hd⟩:=id ht;obtain⟨⟨cls2,Ki,data2,Kj⟩,ho2,hc2,n2,Av⟩:=id hb;simp only at hc hd hc2 Av;subst hc hd hc2 Av;have e:vs.toArray++ws.toArray=(vs++ws).toArray:=by simp
 by_cases hw:ws=[]
 ·exact concat_meets ⟨_,ho,rfl⟩ ⟨_,ho2,rfl⟩ noFill_tuple_add seq_tuple_add Zg Y4 (YW _ _)
   (tuple_addW1 t b vs.toArray ws.toArray n n2 dd Ki sl Kj (by simpa using hv) (by simp[hw])) ⟨ho,ho2,h1 hw⟩
 ·refine concat_meets ⟨_,ho,rfl⟩ ⟨_,ho2,rfl⟩ noFill_tuple_add seq_tuple_add Zg Y4 (YW _ _)
   (tuple_addW2 t b vs.toArray ws.toArray n n2 dd Ki sl Kj (by simpa using hv) (by simpa using hw) (by rw[U_,U_];exact hsz)) ⟨ho,ho2,?_⟩
  rw[e];exact h2 hw
noncomputable def sIx (n d:Nat):Option Int->Nat
 |none=>d
 |some v=>if v<0 then (v+(n:Int)).toNat else min v.toNat n
theorem K1 (n d:Nat)(hd:d<=n)(o:Option Int):sIx n d o<=n:=by
 cases o with
 |none=>exact hd
 |some v=>
  show (if v<0 then (v+(n:Int)).toNat else min v.toNat n)<=n;by_cases hv:v<0
  ·rw[hV hv];lia
  ·rw[hU hv];exact Nat.min_le_right _ _
theorem AD (v:Int)(n d:Nat):(if v<0 then max (v+(n:Int)) 0 else min v (n:Int))=((sIx n d (some v):Nat):Int):=by
 show (if v<0 then max (v+(n:Int)) 0 else min v (n:Int))=(((if v<0 then (v+(n:Int)).toNat else min v.toNat n):Nat):Int);by_cases hv:v<0
 ·simp only[hV hv];lia
 ·simp only[hU hv];lia
theorem y_ (lo hi:Option Int)(n:Nat):YE lo hi 1 (n:Int)=(((sIx n 0 lo:Nat):Int),((sIx n n hi:Nat):Int)):=by
 have h1:¬((1:Int)<0):=by lia
 unfold YE;simp only[h1,if_false];refine Prod.ext ?_ ?_
 ·cases lo with
  |none=>rfl
  |some v=>exact AD v n 0
 ·cases hi with
  |none=>rfl
  |some v=>exact AD v n n
theorem za (i j:Nat):XM (i:Int) (j:Int) 1=j-i:=by
 unfold XM;have h1:(1:Int)>0:=by lia
 simp only[h1,if_true,Int.ediv_one];split<;>lia
theorem qu {v:Va}{o:Option Int}{Q:Option Int->Vo->Prop}(p:IsPart v o)(h:Q o s):Vs (VE prog w) A (Builtin.Slice.slicePartIndex v) Q E s:=by
 cases p with
 |none=>exact slicePart_none h
 |int i t=>exact slicePart_int h
theorem jf {sl:Vr}{vl vu:Va}{lo:Option Int}{Q:Int×Int×Nat->Vo->Prop}(hs:s.heap.IsSliceOf sl vl vu .none)(pl:IsPart vl lo)(pu:IsPart vu hi)(h:Q (((sIx n 0 lo:Nat):Int),1,sIx n n hi-sIx n 0 lo) s):Vs (VE prog w) A (ZZ (.ref sl) (pure (n:Int))) Q E s:=by
 obtain⟨os,hos,hcs,hds⟩:=id hs;unfold ZZ Builtin.Slice.sliceFields;refine U3 (U3 (WR hos hds (x:=vl) rfl (U3 (WR hos hds (x:=vu) rfl (U3 (WR hos hds (x:=.none) rfl (U6 ?_)))))));refine U3 (slicePart_none ?_);show Vs _ _ (if ((1:Int)==0)=true then _ else _) _ _ s;rw[hU (by decide)];refine U3 (qu pl (U3 (qu pu (U3 (U6 ?_)))));show Vs _ _ (match YE lo hi 1 (n:Int) with|(lo,hi)=>pure (lo,(1:Int),XM lo hi 1)) _ _ s;rw[y_ lo hi n];show Vs _ _ (pure (((sIx n 0 lo:Nat):Int),(1:Int),XM ((sIx n 0 lo:Nat):Int) ((sIx n n hi:Nat):Int) 1)) _ _ s;rw[za];exact U6 h
theorem DK (xs:Array Va)(i k:Nat):((VN k).filterMap λ(m:Nat)=>xs[((i:Int)+(m:Int)*1).toNat]?).toArray=((xs.toList.drop i).take k).toArray:=by
 have e:(λ(m:Nat)=>xs[((i:Int)+(m:Int)*1).toNat]?)=λm=>xs[i+m]? := by
  funext m;have:((i:Int)+(m:Int)*1).toNat=i+m:=by lia
  rw[this]
 rw[e];have:=pick_run xs i k;rw[List.filterMap_map] at this;have e2:((λx=>xs[x]?)∘λx=>i+x)=λm=>xs[i+m]? := rfl;rw[e2] at this;rw[this]
theorem getItem_tuple_cut {t sl:Vr}{vl vu:Va}{lo:Option Int}(ht:IsTup s.heap t items)(hs:s.heap.IsSliceOf sl vl vu .none)(pl:IsPart vl lo)(pu:IsPart vu hi)(hw:¬(sIx items.size 0 lo=0/\sIx items.size items.size hi=items.size))(h:Q (.ref s.heap.objs.size) {s with heap:=s.heap.push {cls:=.type "tuple",data:=.seq ((items.toList.drop (sIx items.size 0 lo)).take (sIx items.size items.size hi-sIx items.size 0 lo)).toArray}})(hsz:items.size<=Vf):Vs (VE prog w) A (ZQ (.ref t) (.ref sl)) Q E s:=by
 have BV:sizeOk (.seq ((items.toList.drop (sIx items.size 0 lo)).take (sIx items.size items.size hi-sIx items.size 0 lo)).toArray):=by
  show ((items.toList.drop (sIx items.size 0 lo)).take (sIx items.size items.size hi-sIx items.size 0 lo)).toArray.size<=Vf;rw[U_,V5,Wy,U9];lia
 have hj:sIx items.size items.size hi<=items.size:=K1 _ _ (Vh _) hi;obtain⟨os,hos,hcs,hds⟩:=id hs;have Rz:s.TypeIs (.ref sl) "slice":=⟨os,hos,hcs⟩;unfold ZQ
 try with_reducible refine WA ?_
 first|refine U3 (U6 ?_)|skip
 refine U3 (wpAny_sequenceKey ht.typeIs (by decide) ?_);refine U3 (V1 (name:=Xf "__getitem__") ht.typeIs W_
  (VY W_ ht.typeIs entry_tuple_getitem ?_ (args_tuple_getitem _ _)))
 show Vs _ _ (YA (.ref t) >>= _) _ _ s;refine U3 (tupleItemsOf_ ht ?_);refine U3 (aab Rz ?_);rw[hV (by decide)];refine U3 (jf hs pl pu ?_);have RA:¬((((sIx items.size 0 lo:Nat):Int)==0&&(1:Int)==1&&(sIx items.size items.size hi-sIx items.size 0 lo)==items.size)=true):=by
  intro q;rw[Vw,Vw] at q;have q1:((sIx items.size 0 lo:Nat):Int)=0:=eq_of_beq q.1.1;have q2:sIx items.size items.size hi-sIx items.size 0 lo=items.size:=eq_of_beq q.2;exact hw ⟨by lia,by lia⟩
 show Vs _ _ (if (((sIx items.size 0 lo:Nat):Int)==0&&(1:Int)==1&&(sIx items.size items.size hi-sIx items.size 0 lo)==items.size)=true then _ else _) _ _ s;rw[hU RA,DK]
 first
  |exact U3 (m:=XZ _) (VX (U6 ⟨_,rfl,U6 h⟩) BV)
  |exact U3 (m:=XZ _) (VX (U3 (U6 (U6 ⟨_,rfl,U6 h⟩))) BV)
  |exact U3 (U3 (m:=XZ _) (VX (U6 (U6 ⟨_,rfl,U6 h⟩)) BV))
  |exact U3 (U3 (m:=XZ _) (VX (U6 ⟨_,rfl,U6 h⟩) BV))
end
end HT
namespace L2
abbrev TO:=St->Hp->(Option Int->Hp->Prop)->Prop
def PO (X:Cx)(e:Option W5)(t:TO):Prop:=
 ∀(pins:List (Vr×Obj)) (s:Vo) (σ:St) (H:Hp) (Q:Option Int->Hp->Prop),aI X pins σ H s->t σ H Q->
  Vs (VE X.prog X.w) X.A (evalPart e X.env) (λu s'=>∃o H',aI X pins σ H' s'/\IsPart u o/\Q o H') X.xe s
def G6:TO:=λ_ H Q=>Q none H
def Nl (t:TE):TO:=λσ H Q=>t σ H λx H1=>∃i,x=.int i/\Q (some i) H1
theorem de:∀{us:List Va},a_ (ns.map V.int) us->Xh us ns:=by
 induction ns with
 |nil=>intro us r;rw[Xg] at r;cases r;exact .nil
 |cons n ns ih=>
  intro us r;rw[Vp] at r;cases r with
  |cons r1 r2=>
   obtain⟨t,e⟩:=r1;subst e;exact .cons n t (ih r2)
section
variable {e:W5}{lo hi:Option W5}{tl th:TO}{p2:Pos}
theorem G7:PO X none G6:=by
 intro pins s σ H Q I h;rw[evalPart_none];exact U6 ⟨none,H,I,.none,h⟩
theorem G8 (h:PE X e te):PO X (some e) (Nl te):=by
 intro pins s σ H Q I hw;rw[evalPart_some];refine ez (h pins s σ H _ I hw) λu s1 ⟨x,H1,I1,r1,q1⟩=>?_;obtain⟨i,rfl,q⟩:=q1;obtain⟨t,rfl⟩:=r1;exact⟨some i,H1,I1,.int i t,q⟩
def DL (X:Cx)(r:V->Option Int->Option Int->Hp->VK->Prop):Prop:=
 ∀(pins:List (Vr×Obj)) (s:Vo) (σ:St) (H:Hp) (x:V) (v vl vu:Va) (lo hi:Option Int) (sl:Vr) (Q:VK),aI X pins σ H s->bq x v->s.heap.IsSliceOf sl vl vu .none->IsPart vl lo->IsPart vu hi->r x lo hi H Q->
  ∃T id,typeLookup (.type T) "__getitem__"=pure (some (.builtin id))/\s.TypeIs v T/\Vs (VE X.prog X.w) X.A (ZQ v (.ref sl)) (EP X pins σ Q) X.xe s
theorem DL.or {r r':V->Option Int->Option Int->Hp->VK->Prop}(h:DL X r)(h':DL X r'):DL X (λx lo hi H Q=>r x lo hi H Q\/r' x lo hi H Q):=by
 intro pins s σ H x v vl vu lo hi sl Q I rx hs pl pu q;rcases q with q|q
 ·exact h pins s σ H x v vl vu lo hi sl Q I rx hs pl pu q
 ·exact h' pins s σ H x v vl vu lo hi sl Q I rx hs pl pu q
def Ti (r:V->Option Int->Option Int->Hp->VK->Prop)(te:TE)(tl th:TO):TE:=λσ H Q=>te σ H λx H1=>tl σ H1 λl H2=>th σ H2 λu H3=>r x l u H3 Q
theorem DM {r:V->Option Int->Option Int->Hp->VK->Prop}(hr:DL X r)(he:PE X e te)(hl:PO X lo tl)(hu:PO X hi th):PE X (.Subscript e (.Slice lo hi none p2) pos) (Ti r te tl th):=by
 intro pins s σ H Q I h;refine Subscript_ (ez (he pins s σ H _ I h) λv s1 ⟨x,H1,I1,r1,q1⟩=>?_);refine wpAny_Slice (ez (hl pins s1 σ H1 _ I1 q1) λvl s2 ⟨l,H2,I2,pl,q2⟩=>ez (hu pins s2 σ H2 _ I2 q2) λvu s3 ⟨u,H3,I3,pu,q3⟩=>?_);rw[evalPart_none];refine U6 ?_;have I4:aI X pins σ H3 {s3 with heap:=s3.heap.push {cls:=.type "slice",data:=.fields #[vl,vu,.none]}}:=I3.kept (t':=s3.toks) λb ob q=>U5 _ q;obtain⟨T,id,hT,ht,hg⟩:=hr pins {s3 with heap:=s3.heap.push {cls:=.type "slice",data:=.fields #[vl,vu,.none]}} σ H3 x v vl vu l u s3.heap.objs.size Q I4 r1 (Heap.IsSliceOf.new ..) pl pu q3;show Vs (VE X.prog X.w) X.A (subscriptTail e (.Slice lo hi none p2) v (.ref s3.heap.objs.size)) (EP X pins σ Q) X.xe {s3 with heap:=s3.heap.push {cls:=.type "slice",data:=.fields #[vl,vu,.none]}};exact tail_any (ops:=[.ref s3.heap.objs.size,v]) ht hT hg (by with_unfolding_all rfl)
noncomputable def qv (xs:List V)(lo hi:Option Int):List V:=(xs.drop (HT.sIx xs.length 0 lo)).take (HT.sIx xs.length xs.length hi-HT.sIx xs.length 0 lo)
theorem oz (xs:List V)(lo hi:Option Int):(qv xs lo hi).length<=xs.length:=by
 unfold qv;rw[V5,Wy];lia
def Nm (K:U7):V->Option Int->Option Int->Hp->VK->Prop:=λx lo hi H Q=>∃a xs,x=.ref a/\fK K H a xs/\
 ¬(HT.sIx xs.length 0 lo=0/\HT.sIx xs.length xs.length hi=xs.length)/\∀p,H p=none->Q (.ref p) (cQ H p (.tup (qv xs lo hi)))
theorem K2:DL X (Nm X.K):=by
 intro pins s σ H x v vl vu lo hi sl Q I rx hs pl pu h;obtain⟨a,xs,rfl,hx,hw,q⟩:=h;cases rx;obtain⟨its,r,ht,hz⟩:=I.tuple hx;have cZ:its.toArray.size=xs.length:=by rw[U_];exact r.length.symm
 refine⟨"tuple",_,PyProof.Rows.slot_tuple_getitem.lookup,ht.typeIs,?_⟩;refine HT.getItem_tuple_cut ht hs pl pu (by rw[cZ];exact hw) ?_ (by rw[cZ];exact hz);rw[cZ];refine⟨.ref s.heap.objs.size,_,I.laid (t':=s.toks) (o:=.tup (qv xs lo hi)) (λb ob q=>U5 _ q) (Vh _) ?_,rfl,q _ (I.hok.fresh (Vh _))⟩;exact⟨Wa (oz xs lo hi) hz,_,(r.drop (HT.sIx xs.length 0 lo)).take (HT.sIx xs.length xs.length hi-HT.sIx xs.length 0 lo),IsTup.new _ _,_,Vj _ rfl⟩
def Nn (K:U7):R2:=λx y H Q=>∃a b xs ys,x=.ref a/\y=.ref b/\fK K H a xs/\fK K H b ys/\xs≠[]/\xs.length+ys.length<=Vf/\
 (ys=[]->Q (.ref a) H)/\(ys≠[]->∀p,H p=none->Q (.ref p) (cQ H p (.tup (xs++ys))))
theorem a_.nil_iff {us:List Va}(r:a_ xs us):us=[]↔xs=[]:=by
 cases r with
 |nil=>simp
 |cons _ _=>simp
theorem G9:jJ X (Yu .Add) (Nn X.K):=by
 intro pins s σ H x y v u Q I rx ry h;obtain⟨a,b,xs,ys,rfl,rfl,ha,hb,hx,hz,q1,q2⟩:=h;cases rx;cases ry;obtain⟨its,r1,p1,_⟩:=I.tuple ha;obtain⟨its2,r2,p2,_⟩:=I.tuple hb;refine HT.cat_tup p1 p2 (λz=>hx (r1.nil_iff.mp z)) (λz=>⟨.ref a,H,I,rfl,q1 (r2.nil_iff.mp z)⟩) (λz=>?_) (by rw[←r1.length,←r2.length];exact hz);refine⟨.ref s.heap.objs.size,_,I.laid (t':=s.toks) (o:=.tup (xs++ys)) (λb ob q=>U5 _ q) (Vh _) ?_,rfl,q2 (λw=>z (r2.nil_iff.mpr w)) _ (I.hok.fresh (Vh _))⟩;exact⟨by rw[Ve];exact hz,_,r1.append r2,IsTup.new _ _,_,Vj _ rfl⟩
end
end L2
namespace L2
noncomputable def C_ (n:Nat)(i:Int):Option Nat:=if 0<=i then (if i<n then some i.toNat else none) else if -(n:Int)<=i then some (i+n).toNat else none
noncomputable def nA {α:Type}(xs:List α)(i:Int):Option α:=(C_ xs.length i).bind λj=>xs[j]?
theorem AE {i:Int}(h:C_ n i=some j):aat i n=some j/\j<n/\ -(n:Int)<=i/\i<n:=by
 unfold C_ at h;by_cases h0:0<=i
 ·rw[hV h0] at h;by_cases h1:i<n
  ·rw[hV h1] at h;have e:i.toNat=j:=Vy h;exact⟨by rw[seqIndex_of h0 h1,e],by lia,by lia,h1⟩
  ·rw[hU h1] at h;cases h
 ·rw[hU h0] at h;by_cases h1 : -(n:Int)<=i
  ·rw[hV h1] at h;have e:(i+n).toNat=j:=Vy h;exact⟨by rw[seqIndex_neg (by lia) h1,e],by lia,h1,by lia⟩
  ·rw[hU h1] at h;cases h
theorem vp {α:Type}{xs:List α}{i:Int}{v:α}(h:nA xs i=some v):∃j,aat i xs.length=some j/\xs[j]? = some v/\j<xs.length/\ -(xs.length:Int)<=i/\i<xs.length:=by
 unfold nA at h;cases e:C_ xs.length i with
 |none=>rw[e] at h;cases h
 |some j=>
  rw[e] at h;obtain⟨h1,h2,h3,h4⟩:=AE e;exact⟨j,h1,h,h2,h3,h4⟩
def AF (b:W5):Prop:=∀o i,subscripted b false o i=operate [o,i] (ZQ o i)
def GF (X:Cx)(r:R2):Prop:=
 ∀(value slice:W5) (pins:List (Vr×Obj)) (s:Vo) (σ:St) (H:Hp) (x y:V) (v u:Va) (Q:VK),aI X pins σ H s->bq x v->bq y u->r x y H Q->
  subscripted slice false v u=operate [v,u] (ZQ v u)->Vs (VE X.prog X.w) X.A (subscriptTail value slice v u) (EP X pins σ Q) X.xe s
def IU (X:Cx)(id:String)(r:V->List V->Hp->VK->Prop):Prop:=
 ∀(pins:List (Vr×Obj)) (s:Vo) (σ:St) (H:Hp) (x:V) (xs:List V) (v:Va) (us:List Va) (Q:VK),aI X pins σ H s->bq x v->a_ xs us->r x xs H Q->
  Vs (VE X.prog X.w) X.A (call (.builtin id) (v::us)) (EP X pins σ Q) X.xe s
section
variable {a b:W5}{ta tb:TE}
theorem GF.or (h:GF X r)(h':GF X r'):GF X (λx y H Q=>r x y H Q\/r' x y H Q):=by
 intro value slice pins s σ H x y v u Q I rx ry q hs;rcases q with q|q
 ·exact h value slice pins s σ H x y v u Q I rx ry q hs
 ·exact h' value slice pins s σ H x y v u Q I rx ry q hs
theorem IU.or {id:String}{r r':V->List V->Hp->VK->Prop}(h:IU X id r)(h':IU X id r'):IU X id (λx xs H Q=>r x xs H Q\/r' x xs H Q):=by
 intro pins s σ H x xs v us Q I rx rs q;rcases q with q|q
 ·exact h pins s σ H x xs v us Q I rx rs q
 ·exact h' pins s σ H x xs v us Q I rx rs q
theorem Np (hr:GF X r)(ha:PE X a ta)(hb:PE X b tb)(hs:AF b):PE X (.Subscript a b pos) (Nb r ta tb):=by
 intro pins s σ H Q I h;exact Subscript_ (KW ha hb I h λv u s2 x y H2 I2 rx ry q=>hr a b pins s2 σ H2 x y v u Q I2 rx ry q (hs _ _))
def Nq (K:U7):R2:=λx y H Q=>∃p xs i v,x=.ref p/\y=.int i/\fH K H p xs/\nA xs i=some v/\Q v H
def Nr (K:U7):R2:=λx y H Q=>∃p xs i v,x=.ref p/\y=.int i/\fK K H p xs/\nA xs i=some v/\Q v H
def Nt:R2:=λx y H Q=>∃z i c,x=.str z/\y=.int i/\z.length<=Vf/\nA z.cps.toList i=some c/\Q (.str ⟨#[c]⟩) H
theorem G_:GF X (Nq X.K):=by
 intro value slice pins s σ H x y v u Q I rx ry h hs;obtain⟨p,xs,i,z,rfl,rfl,hq,he,q⟩:=h;cases rx;obtain⟨t,rfl⟩:=ry;obtain⟨its,r,pl,hz⟩:=I.list hq;obtain⟨j,h1,h2,h3,h4,h5⟩:=vp he;obtain⟨w,ew,Ar⟩:=r.get h2;have hl:=r.length;have hn:=ny;have fin:EP X pins σ Q w s:=⟨z,H,I,Ar,q⟩;by_cases h0:0<=i
 ·have hj:i.toNat=j:=by
   rw[seqIndex_of h0 h5] at h1;exact Vy h1
  exact item_listR pl.isList h0 (by lia) (by rw[hj];simpa using ew) fin hs
 ·have hj:(i+(its.toArray.size:Int)).toNat=j:=by
   rw[seqIndex_neg (by lia) h4] at h1;rw[U_,←hl];exact Vy h1
  exact subscriptTail_builtinR (x:=w) pl.isList.typeIs slot_list_getitem.lookup
   (wpAny_getItem_list_neg (Q:=λr s'=>r=w/\EP X pins σ Q r s') pl.isList (by lia) (by rw[U_]<;>lia) (by lia) (by rw[hj];simpa using ew) ⟨rfl,fin⟩) hs
theorem K3:GF X (Nr X.K):=by
 intro value slice pins s σ H x y v u Q I rx ry h hs;obtain⟨p,xs,i,z,rfl,rfl,hq,he,q⟩:=h;cases rx;obtain⟨t,rfl⟩:=ry;obtain⟨its,r,pl,hz⟩:=I.tuple hq;obtain⟨j,h1,h2,h3,h4,h5⟩:=vp he;obtain⟨w,ew,Ar⟩:=r.get h2;have hl:=r.length;have hn:=ny;have fin:EP X pins σ Q w s:=⟨z,H,I,Ar,q⟩;exact subscriptTail_builtinR (x:=w) pl.typeIs slot_tuple_getitem.lookup
  (getItem_tuple (j:=j) (Q:=λr s'=>r=w/\EP X pins σ Q r s') pl (by lia) (by lia) (by rw[U_,←hl];exact h1) (by simpa using ew) ⟨rfl,fin⟩) hs
theorem K4:GF X Nt:=by
 intro value slice pins s σ H x y v u Q I rx ry h hs;obtain⟨z,i,c,rfl,rfl,hz,he,q⟩:=h;obtain⟨t,rfl⟩:=rx;obtain⟨t',rfl⟩:=ry;obtain⟨j,h1,h2,h3,h4,h5⟩:=vp he;have hl:z.cps.toList.length=z.length:=by simp[Str.length]
 rw[hl] at h1 h4 h5;have hn:=ny;exact tail_any (typeIs_str s z t) slot_str_getitem.lookup (getItem_str (c:=c) (by
  have e1:decide (i < -(2 ^ 63:Int))=false:=hJ (by lia);have e2:decide (i≥2 ^ 63)=false:=hJ (by lia);rw[e1,e2,Bool.or_false]) (by rw[h1];simpa using h2) ⟨.str ⟨#[c]⟩,H,I.tok _,⟨_,rfl⟩,q⟩) hs
def Se (K:U7):R2:=λx y H Q=>Nq K x y H Q\/Nr K x y H Q\/Nt x y H Q
theorem az:GF X (Se X.K):=G_.or (K3.or K4)
theorem zc (its:List Va)(n j:Nat)(u:Va):Yv (·.setIfInBounds j u) {cls:=.type "list",data:=.seq its.toArray n}={cls:=.type "list",data:=.seq (its.set j u).toArray n}:=by
 simp[Yv]
theorem aI.lst (I:aI X pins σ H s)(h:H p=some (.lst xs)) :
  ∃(its:List Va) (n:Nat),a_ xs its/\s.heap.get? p=some {cls:=.type "list",data:=.seq its.toArray n}/\xs.length<=Vf:=by
 obtain⟨z,its,n,r,e⟩:=I.hok p _ h;exact⟨its,n,r,e,z⟩
theorem aI.lstUpd {ys:List V}{its':List Va}{n':Nat}{f:Obj->Obj}(I:aI X pins σ H s)(h:H p=some (.lst xs))(ho:s.heap.get? p=some {cls:=.type "list",data:=.seq its.toArray n})(hf:f {cls:=.type "list",data:=.seq its.toArray n}={cls:=.type "list",data:=.seq its'.toArray n'})(r:a_ ys its')(hz:ys.length<=Vf)(t:Nat) :
  aI X pins σ (cQ H p (.lst ys)) {s with heap:=s.heap.update p f,toks:=t}:=by
 have e:(s.heap.update p f).get? p=some {cls:=.type "list",data:=.seq its'.toArray n'}:=by
  rw[WQ f ho (by rw[hf]<;>rfl),hf]
 refine I.write (x:=p) (e:=p) (by rw[h];trivial) (.inl rfl) (λb u hb q=>(Heap.get?_update_other _ _ (Ne.symm hb)).trans q) ⟨_,e⟩ ?_;exact⟨hz,its',n',r,e⟩
def Nu:V->V->V->Hp->(Hp->Prop)->Prop:=λo i v H Q=>∃p xs k j,o=.ref p/\i=.int k/\H p=some (.lst xs)/\C_ xs.length k=some j/\Q (cQ H p (.lst (xs.set j v)))
theorem DP:M8 X Nu:=by
 intro pins s σ H o i v ov iv u Q I ro ri rv h;obtain⟨p,xs,k,j,rfl,rfl,hp,hj,q⟩:=h;cases ro;obtain⟨t,rfl⟩:=ri;obtain⟨its,n,r,ho,hz⟩:=I.lst hp;obtain⟨h1,h2,h3,h4⟩:=AE hj;have hl:=r.length;have hn:=ny;have I':aI X pins σ (cQ H p (.lst (xs.set j v))) {s with heap:=s.heap.update p (Yv (·.setIfInBounds j u))}:=
  I.lstUpd hp ho (zc its n j u) (r.set rv j) (by rw[Wl];exact hz) s.toks
 by_cases h0:0<=k
 ·have hk:k.toNat=j:=by
   rw[seqIndex_of h0 h4] at h1;exact Vy h1
  exact PySem.W.ki_setAt ho h0 (by lia) (by rw[U_,←hl];exact h4) (by rw[hk];exact⟨_,I',q⟩)
 ·have hk:(k+(its.toArray.size:Int)).toNat=j:=by
   rw[seqIndex_neg (by lia) h3] at h1;rw[U_,←hl];exact Vy h1
  exact PySem.W.ki_setBack ho (by lia) (by rw[U_,←hl];exact h3) (by lia) (by rw[hk];exact⟨_,I',q⟩)
theorem vq (lo hi:Option Int)(n:Nat):(Zj lo hi none n).1=((HT.sIx n 0 lo:Nat):Int)/\(Zj lo hi none n).2.1=((HT.sIx n n hi:Nat):Int)/\(Zj lo hi none n).2.2=1:=by
 refine⟨?_,?_,rfl⟩
 ·cases lo with
  |none=>simp[Zj,HT.sIx]
  |some i=>
   simp only[Zj,HT.sIx,YJ,show (1:Int)>0 by decide,if_true];by_cases h:i<0
   ·simp only[h,if_true]<;>lia
   ·simp only[h,if_false]<;>lia
 ·cases hi with
  |none=>simp[Zj,HT.sIx]
  |some i=>
   simp only[Zj,HT.sIx,YJ,show (1:Int)>0 by decide,if_true];by_cases h:i<0
   ·simp only[h,if_true]<;>lia
   ·simp only[h,if_false]<;>lia
theorem tK (its:List Va)(lo hi:Option Int):slicePick its.toArray lo hi none=((its.drop (HT.sIx its.length 0 lo)).take (HT.sIx its.length its.length hi-HT.sIx its.length 0 lo)).toArray:=by
 obtain⟨h1,h2,h3⟩:=vq lo hi its.toArray.size;unfold slicePick;rw[h1,h2,h3];simp only[sliceRange_one,pick_run,U_]<;>rfl
def Ha (K:U7):V->Option Int->Option Int->Hp->VK->Prop:=λx lo hi H Q=>∃a xs,x=.ref a/\fH K H a xs/\∀p,H p=none->Q (.ref p) (cQ H p (.lst (qv xs lo hi)))
theorem Hb:DL X (Ha X.K):=by
 intro pins s σ H x v vl vu lo hi sl Q I rx hs pl pu h;obtain⟨a,xs,rfl,hx,q⟩:=h;cases rx;obtain⟨its,r,ht,hz⟩:=I.list hx;have cZ:=r.length;refine⟨"list",_,slot_list_getitem.lookup,ht.isList.typeIs,?_⟩;refine wpAny_getItem_list_slice ht.isList hs pl pu .none (by simp) ?_ (by rw[U_]<;>lia);rw[tK,←cZ];refine⟨.ref s.heap.objs.size,_,I.laid (t':=s.toks) (o:=.lst (qv xs lo hi)) (λb ob q=>U5 _ q) (Vh _) ?_,rfl,q _ (I.hok.fresh (Vh _))⟩;exact⟨Wa (oz xs lo hi) hz,_,0,(r.drop (HT.sIx xs.length 0 lo)).take (HT.sIx xs.length xs.length hi-HT.sIx xs.length 0 lo),Vj _ rfl⟩
theorem dB:eH X (.type "tuple") (λxs H Q=>∃p ys,xs=[.ref p]/\((fH X.K H p ys/\∀l,H l=none->Q (.ref l) (cQ H l (.tup ys)))\/(fK X.K H p ys/\Q (.ref p) H))):=by
 intro pins s σ H xs us Q I r h;obtain⟨p,ys,rfl,h⟩:=h;obtain⟨u,rfl,rx⟩:=ig r;cases rx;rcases h with⟨hq,q⟩|⟨hq,q⟩
 ·obtain⟨its,r',pl,hz⟩:=I.list hq;have cZ:=r'.length;refine call_tuple_list pl.isList (λh' kp=>?_) (by simp only[U_]<;>lia);have I1:aI X pins σ H {s with heap:=h'}:=I.kept (t':=s.toks) kp;have I2:aI X pins σ (cQ H h'.objs.size (.tup ys)) {s with heap:=h'.push {cls:=.type "tuple",data:=.seq its.toArray}}:=
   I1.laid (t':=s.toks) (λb o e=>U5 _ e) (Vh _) (show dG X.prog X.w _ _ _ (.tup ys) from ⟨hz,its,r',IsTup.new _ _,_,Vj _ rfl⟩)
  exact⟨.ref h'.objs.size,_,I2,rfl,q _ (I1.hok.fresh (Vh _))⟩
 ·obtain⟨its,r',pl,hz⟩:=I.tuple hq;exact call_tuple_same pl ⟨.ref p,H,I,rfl,q⟩
def QA (K:U7)(T:String)(x:V)(H:Hp):Prop:=match x with
 | .str _=>T="str"
 | .int _=>T="int"
 | .ref p=>(T="list"/\∃xs,fH K H p xs)\/(T="tuple"/\((∃o,K.lookup p=some o/\o.cls=.type "tuple"/\o.dict=none)\/∃xs,H p=some (.tup xs))) \/
   (T="dict"/\((∃cn,H p=some (.dK cn))\/∃cn,H p=some (.dT cn)))\/(T="set"/\∃S n,H p=some (.set S n))
 |_=>False
theorem K5 {T:String}{x:V}{v:Va}(I:aI X pins σ H s)(r:bq x v)(ty:QA X.K T x H) :
  s.TypeIs v T/\∀a,v=.ref a->∃ob,s.heap.get? a=some ob/\ob.dict=none:=by
 cases x with
 |str z=>
  obtain⟨t,rfl⟩:=r;cases (show T="str" from ty);exact⟨typeIs_str s z t,λ_ e=>nomatch e⟩
 |int i=>
  obtain⟨t,rfl⟩:=r;cases (show T="int" from ty);exact⟨typeIs_int s i t,λ_ e=>nomatch e⟩
 |ref p=>
  cases r;rcases ty with⟨rfl,xs,hq⟩|⟨rfl,⟨o,hk,hc,hd⟩|⟨xs,hq⟩⟩|⟨rfl,hk⟩|⟨rfl,S,n,hk⟩
  ·obtain⟨its,_,pl,_⟩:=I.list hq;refine⟨pl.isList.typeIs,λa e=>?_⟩;cases e;obtain⟨o,n,e,c,hd,_⟩:=pl;exact⟨o,e,hd⟩
  ·refine⟨⟨o,I.kIn p o hk,hc⟩,λa e=>?_⟩;cases e;exact⟨o,I.kIn _ o hk,hd⟩
  ·obtain⟨_,its,_,⟨o,e,c,_⟩,n2,e2⟩:=I.hok p _ hq;refine⟨⟨o,e,c⟩,λa e'=>?_⟩;cases e';exact⟨_,e2,rfl⟩
  ·have z:∃o,s.heap.get? p=some o/\o.ExactDict:=by
    rcases hk with⟨cn,hk⟩|⟨cn,hk⟩
    ·obtain⟨_,_,_,_,o,_,_,e,ex,_⟩:=I.hok p _ hk;exact⟨o,e,ex⟩
    ·obtain⟨_,_,_,_,o,_,_,e,ex,_⟩:=I.hok p _ hk;exact⟨o,e,ex⟩
   obtain⟨o,e,ex⟩:=z;refine⟨⟨o,e,ex.1⟩,λa e2=>?_⟩;cases e2;exact⟨o,e,ex.2.1⟩
  ·obtain⟨o,_,_,_,e,ex,_⟩:=I.hok p _ hk;refine⟨⟨o,e,ex.1⟩,λa e2=>?_⟩;cases e2;exact⟨o,e,ex.2.1⟩
 |_=>exact Yt ty
def Sf (K:U7)(T:String)(r:V->List V->Hp->VK->Prop)(to:TE)(t:TA):TE:=λσ H Q=>to σ H λx H1=>QA K T x H1/\t σ H1 λxs H2=>r x xs H2 Q
variable {o e:W5}{es:List W5}{to:TE}{t:TA}{name:Str}{gj cpos:Pos}{T id:String}{r:V->List V->Hp->VK->Prop}
theorem IV (pa:PlainAttrs T)(slot:Slot T name id)(RB:typeOf (.builtin id)=pure (.type "method_descriptor"))(hm:IU X id r)(ho:PE X o to)(ha:PA X (e::es) t)
  (yJ:Y5 o name X.env (YD o X.env)=YD o X.env:=by rfl)
  (Gp:((XR cpos (Vx (e::es) X.env)).all (λx=> !x.1)&&(backToKw cpos (ZR [] X.env)).all (λx=>x.1.isSome)
   && decide ((e::es).length+([]:List Zz).length+(if ([]:List Zz).isEmpty then 0 else 1)<30))=true:=by rfl)
  (yK:(gj.endLine==cpos.line)=true:=by rfl) (hs:Vx (e::es) X.env=(false,YD e X.env)::Vx es X.env:=by rfl) (sX:(XR cpos (Vx es X.env)).any (·.1)=false:=by rfl) :
  PE X (.Call (.Attribute o name gj) (e::es) [] cpos) (Sf X.K T r to t):=by
 intro pins s σ H Q I h;refine wpAny_Call_method_late yJ Gp yK rfl (ez (ho pins s σ H _ I h) λv s1 ⟨x,H1,I1,r1,ty,q1⟩=>?_);obtain⟨h1,h2⟩:=K5 I1 r1 ty;refine⟨T,id,pa,slot,RB,h1,h2,?_⟩;have hA:=ha cpos pins s1 σ H1 _ I1 q1;rw[hs] at hA ⊢;refine Calls.callWith_builtin (by show (false||(XR cpos (Vx es X.env)).any (·.1))=false;rw[sX]<;>rfl) (Calls.evalArgs_plain ?_);exact ez hA λus s2 ⟨vs,H2,I2,r2,q2⟩=>hm pins s2 σ H2 x vs v us Q I2 r1 r2 q2
end
end L2
namespace L2
def QB (X:Cx)(id:String)(r:V->List V->Hp->VK->Prop):Prop:=
 ∀(pins:List (Vr×Obj)) (s:Vo) (σ:St) (H:Hp) (x:V) (xs:List V) (v:Va) (us:List Va) (Q:VK),aI X pins σ H s->bq x v->a_ xs us->r x xs H Q->
  Vs (VE X.prog X.w) X.A (call (.builtin id) (v::us)) (EP X pins σ Q) X.xe s
theorem a_.one:∀{x:V} {us:List Va},a_ [x] us->∃u,us=[u]/\bq x u
 |_,_,.cons r .nil=>⟨_,rfl,r⟩
theorem a_.eraseIdx:∀{xs:List V} {us:List Va} (i:Nat),a_ xs us->a_ (xs.eraseIdx i) (us.eraseIdx i)
 |_,_,_,.nil=>.nil
 |_,_,0,.cons _ t=>t
 |_,_,i+1,.cons r t=>.cons r (a_.eraseIdx i t)
theorem uq {α:Type}:∀(l:List α) (i:Nat),(l.eraseIdx i).length<=l.length
 | [],_=>Vh _
 |_::_,0=>Nat.le_succ _
 |_::r,i+1=>Nat.succ_le_succ (uq r i)
section
variable {l:Vr}{ys zs:List V}
theorem aI.lset {t':Nat}{its':List Va}{f:Array Va->Array Va}(I:aI X pins σ H s)(hH:H l=some (.lst xs))(e:s.heap.get? l=some {cls:=.type "list",data:=.seq its.toArray n})(hf:f its.toArray=its'.toArray)(hv:a_ ys its')(hz:ys.length<=Vf) :
  aI X pins σ (cQ H l (.lst ys)) {s with heap:=s.heap.update l (Yv f),toks:=t'}:=by
 have q:=PySem.IsL.update e f;rw[hf] at q;refine I.write (x:=l) (e:=l) (by rw[hH];exact trivial) (.inl rfl) (λb' u hb hu=>(Heap.get?_update_other s.heap (Yv f) (Ne.symm hb)).trans hu) ⟨_,q⟩ ?_;exact⟨hz,its',_,hv,q⟩
theorem aI.lnew {t':Nat}(I:aI X pins σ H s)(hv:a_ ys its)(hz:ys.length<=Vf) :
  aI X pins σ (cQ H s.heap.objs.size (.lst ys)) {s with heap:=s.heap.push {cls:=.type "list",data:=.seq its.toArray},toks:=t'}:=
 I.laid (λ_ _ q=>U5 _ q) (Vh _) ⟨hz,its,0,hv,Vj _ rfl⟩
theorem aI.fresh (I:aI X pins σ H s):H s.heap.objs.size=none:=I.hok.fresh (Vh _)
theorem aI.lstM (I:aI X pins σ H s)(hH:H l=some (.lst xs)):xs.length<=Vf/\∃(its:List Va) (n:Nat),a_ xs its/\xs.length=its.length/\s.heap.get? l=some {cls:=.type "list",data:=.seq its.toArray n}:=by
 obtain⟨z,its,n,r,e⟩:=I.hok l _ hH;exact⟨z,its,n,r,r.length,e⟩
theorem qw (h:n<=Vf):X0 n=false:=by
 unfold X0;exact hJ (by lia)
end
def AG:V->List V->Hp->VK->Prop:=λx vs H Q=>∃l xs y,x=.ref l/\vs=[y]/\H l=some (.lst xs)/\xs.length<Vf/\Q .non (cQ H l (.lst (xs++[y])))
theorem nB:QB X "list.append" AG:=by
 intro pins s σ H x vs v us Q I rx rv h;obtain⟨l,xs,y,rfl,rfl,hH,hz,q⟩:=h;cases rx;obtain⟨u,rfl,ru⟩:=rv.one;obtain⟨z,its,n,r,hl,e⟩:=I.lstM hH;refine aau F.slot_list_append ⟨_,e,rfl⟩ F.entry_list_append (F.args_list_append_2 _ _) (PySem.list_append l its.toArray n u (by rw[U_];lia)) ⟨e,?_⟩;refine⟨.non,_,I.lset (its':=its++[u]) hH e (by simp) (r.append (.cons ru .nil)) ?_,rfl,q⟩;rw[Ve,Yi];lia
def DQ:V->List V->Hp->VK->Prop:=λx vs H Q=>∃l xs i k y,x=.ref l/\vs=[.int i]/\H l=some (.lst xs)/\ -(2 ^ 63)<=i/\i<2 ^ 63/\aat i xs.length=some k/\xs[k]? = some y/\Q y (cQ H l (.lst (xs.eraseIdx k)))
theorem DR:QB X "list.pop" DQ:=by
 intro pins s σ H x vs v us Q I rx rv h;obtain⟨l,xs,i,k,y,rfl,rfl,hH,h1,h2,hk,hy,q⟩:=h;cases rx;obtain⟨u,rfl,ru⟩:=rv.one;obtain⟨t,rfl⟩:=ru;obtain⟨z,its,n,r,hl,e⟩:=I.lstM hH;obtain⟨w,hw,Ar⟩:=r.get hy;refine aau F.slot_list_pop ⟨_,e,rfl⟩ F.entry_list_pop (F.args_list_pop_2 _ _)
  (MeetsSeq.list_pop_at l its.toArray n i t k w (fitsIndex_both h1 h2) (by rw[U_,←hl];exact hk) (by rw[←Vq];exact hw) (by rw[U_];lia)) ⟨e,?_⟩
 refine⟨y,_,I.lset (its':=its.eraseIdx k) hH e ?_ (r.eraseIdx k) ?_,Ar,q⟩
 ·show its.toArray.eraseIdxIfInBounds k=(its.eraseIdx k).toArray;rw[List.eraseIdxIfInBounds_toArray]
 ·have:=uq xs k;lia
section
variable {A:VR}
set_option maxRecDepth 100000 in
end
end L2
namespace Att
open PySem.W PySem.Calls
theorem pE {P:Params}:∀(ns:List Int) (vs:List Va),WellAll P h vs (ns.map WData.int)->Xh vs ns:=by
 intro ns
 induction ns with
 |nil=>
  intro vs w;rw[Xg] at w;cases w;exact .nil
 |cons n ns ih=>
  intro vs w;rw[Vp] at w;cases w with
  |cons a b=>
   cases a;exact .cons _ _ (ih _ b)
theorem Ca {l:OpenLaw}(hn:l.most=some n){P:Params}{args:List WData}{Ms:List Va}(IH:l.row.toRowW.claim.pre args=true)(RC:WellAll P h Ms args) :
  ∃a vs ns,Ms=[Value.ref a]/\args=[WData.list (ns.map WData.int)]/\h.get? a=some {cls:=.type "list",data:=.seq vs.toArray}/\Xh vs ns/\ns.length<=n:=by
 have TF:WShape.hasAll [] args [.list .int]=true:=(pre_splitW IH).1;have hc:l.pre.holds [] {args:=args}=true:=(pre_splitW IH).2;obtain⟨d,r,rfl,h1,h2⟩:=hasAllW_cons TF;obtain rfl:=hasAllW_nil h2;obtain⟨xs,rfl,h3⟩:=hasW_list h1;obtain⟨ns,rfl⟩:=items_int h3;have cZ:ns.length<=n:=by
  unfold OpenLaw.pre at hc;have h4:(WTm.not (.lt (.lit (.int (n:Int))) (.len (.arg 0)))).holds [] {args:=[.list (ns.map .int)]}=true:=by
   have h4:=(holds_andW hc).1;rw[hn] at h4;exact h4
  have h5:=condW_of h4 (w_not (w_lt w_lit (w_len_list (w_arg rfl))));rw[Vd] at h5;refine Nat.le_of_not_lt λq=>?_;have q':(n:Int)<((ns.length:Nat):Int):=by lia
  first
   | (rw[hG q'] at h5;exact absurd h5 (by decide))
   | (simp at h5;lia)
 cases RC with
 |cons w1 w2=>
  cases w2;cases w1 with
  |list ho hall=>exact⟨_,_,ns,rfl,rfl,ho,pE ns _ hall,cZ⟩
theorem Cb (l:OpenLaw)(args:List WData):l.row.toRowW.claim.post args (.bool true) args=true:=
 postW_of (r:=l.row.toRowW) (X:=(true==true))
  (show WShape.has [] (.bool true) .bool=true by first|rfl|decide|simp[WShape.has,WShape.arms,WShape.armsAll])
  (show (WTm.eq .res (.lit (.bool true))).value [] {args:=args,res:=some (.bool true),after:=args}=some (.bool (true==true)) from w_eq_bool (w_res rfl) w_lit) rfl
theorem attach_call {l:OpenLaw}{q:XJ}{d:DefRec}(hn:l.most=some n)(O3:d.params.defaults=[])(call:∀(w:Ya) (s₀ s₁:Vo) (mg mb:Str->Option Va) (fa:Vr) (o:Obj) (pm cd nv:Va) (a:Vr) (vs:List Va) (ns:List Int),
   Ground q loose [] XP w s₀ mg mb s₁.heap->YP w s₁.heap->
   s₁.heap.get? fa=some o->o.data=.func (docDef d.name d.params d.body d.scope pm cd nv)->s₁.heap.CodeRec cd d.name->mg d.name=some (.ref fa)->
   s₁.heap.get? a=some {cls:=.type "list",data:=.seq vs.toArray}->Xh vs ns->ns.length<=n->s₁.gens=#[]->
   codeAny (VE l.prog w) callerA (.call (.ref fa) ⟨[.ref a],[]⟩) (λr s'=>r=.ok (.ret (.bool true))/\OldK s₁.heap s'.heap/\s'.os=s₁.os/\AllBare s'.gens) s₁) :
  WalkO q loose XP YP l.row.toRowW d [] (λf vs=>PySem.call f vs):=by
 intro w s₀ s₁ mg mb G Y fa o pm cd nv dV kV ho hd sW hD O4 hg args Ms as IH TH UP RC UQ;obtain rfl:dV=.none:=Dflts.none hD O3;obtain rfl:kV=.none:=Dflts.noKw hD;obtain⟨a,vs,ns,rfl,rfl,Mt,Gq,cZ⟩:=Ca hn IH RC;refine enter_call (Z8 (call w s₀ s₁ mg mb fa o pm cd nv a vs ns G Y ho (fd_plain hd) sW O4 Mt Gq cZ hg) λr s' hq=>?_);obtain⟨rfl,h2,h3,h4⟩:=hq;exact⟨.inl ⟨.bool true,.bool true,[],rfl,λ_=>rfl,.bool true,Cb l _,λ_=>⟨List.Pairwise.nil,λ_ hm=>(nomatch hm)⟩⟩,h2,h3,h4⟩
end Att
namespace L2
theorem nC:∀{vs:List Va} {ns:List Int},Xh vs ns->a_ (ns.map V.int) vs
 |_,_,.nil=>.nil
 |_,_,.cons n t h=>.cons ⟨t,rfl⟩ (nC h)
def Hd (H:Hp):Prop:=∀b,H b=none\/∃o xs,H b=some (.frz o (.lst xs))
theorem DU {mb:Str->Option Va}{fa:Vr}{s₁:Vo}{vs:List Va}(KX:K.In s₁.heap)(SS:s₁.heap.Ns V0 mg)(hb:s₁.heap.Ns builtinsNs mb)(TJ:∀x:Str,x≠"__name__"->mb x=We x)(RD:s₁.heap.NoLimit)(hg:s₁.gens=#[])(ha:s₁.heap.get? a=some {cls:=.type "list",data:=.seq vs.toArray})(hi:Xh vs ns)(hl:ns.length<=Vf)(hr:fh k callerA)(F:∀base:XI,K.In base->base.Ns V0 mg->k7 P w K mg base CX k fa fd [x] sp)(O5:∀(s:Vo) (u:Va),BindsTo s fd ⟨[u],[]⟩ [(x,u)])(Kh:∀H:Hp,Hd H->fH K H a (ns.map V.int)->sp [.ref a] H (λv _=>v=.bl true) λ_ _ _=>False)(RE:∀H e s',CX [] H s₁ (λ_ _ _=>False) e s'->False) :
  codeAny (VE P w) callerA (.call (.ref fa) ⟨[.ref a],[]⟩) (λr s'=>r=.ok (.ret (.bool true))/\OldK s₁.heap s'.heap/\s'.os=s₁.os/\AllBare s'.gens) s₁:=by
 have rv:=nC hi;have RF:=hi.length;have O6:∀H:Hp,Hd H->fH K H a (ns.map V.int)->kZ P w H s₁.heap->(∀b,H b≠none->b=a)->(H a≠none->K.lookup a=none)->
   codeAny (VE P w) callerA (.call (.ref fa) ⟨[.ref a],[]⟩) (λr s'=>r=.ok (.ret (.bool true))/\OldK s₁.heap s'.heap/\s'.os=s₁.os/\AllBare s'.gens) s₁:=by
  intro H hO hS hok hA hK;have BW:∀{b:Vr} {o:Obj},s₁.heap.get? b=some o->H b=none->(vi s₁.heap H).get? b=some o:=λe n=>Dj e n;have O1:∀{b:Vr} {o:Obj} {es:Array DictEntry} {ep:Nat},s₁.heap.get? b=some o->o.data=.dict es ep->H b=none:=λ{b o es ep} e d=>by
   cases q:H b with
   |none=>rfl
   |some u=>
    have e':b=a:=hA b (by rw[q];simp);subst e';rw[ha] at e;cases e;have d':Data.seq vs.toArray _=Data.dict es ep:=d;cases d'
  have P7:∀{b:Vr} {m:Str->Option Va},s₁.heap.Ns b m->(vi s₁.heap H).Ns b m:=λ{b m} ⟨o,es,ep,e,d,r⟩=>⟨o,es,ep,BW e (O1 e d),d,r⟩;have SU:K.In (vi s₁.heap H):=λb o e=>BW (KX b o e) (by
   cases q:H b with
   |none=>rfl
   |some u=>
    have e':b=a:=hA b (by rw[q];simp);subst e';rw[hK (by rw[q];simp)] at e;cases e)
  have hM:Mod K mg (vi s₁.heap H):=⟨SU,P7 SS,⟨mb,P7 hb,TJ⟩,let ⟨mc,h1,h2⟩:=RD;⟨mc,P7 h1,h2⟩⟩;have e0:G4 P w K mg (vi s₁.heap H) callerA [] s₁ H:=⟨rfl,hM,λb o e=>GQ e,Nat.le_of_eq (B3 _ _),trivial,λb hb=>absurd (show b∈([]:List Vr) from hb) (by simp),hok,.of_eq hg⟩;refine Z8 ((F _ SU (P7 SS)).run callerA [] s₁ H ⟨[.ref a],[]⟩ [.ref a] [.ref a] _ _ hr e0 (O5 s₁ (.ref a)) (.cons rfl .nil) (Kh H hO hS)) λr s' h=>?_;cases r with
  |error e=>exact (RE H e s' h).elim
  |ok fl=>
   cases fl with
   |next=>exact Yt h
   |brk=>exact Yt h
   |cont=>exact Yt h
   |ret u=>
    obtain⟨v,H',os,bare,un,hok',r',q⟩:=h;have q':v=.bl true:=q;subst q';obtain rfl:u=Value.bool true:=r';refine⟨rfl,OldK.of_keep λb o e=>?_,os,bare⟩;cases q:H b with
    |none=>exact un.keep b o e q (by intro z;exact absurd (show b∈([]:List Vr) from z) (by simp)) (by simp)
    |some u=>
     rcases hO b with z|⟨ob,xs,z⟩
     ·rw[q] at z;cases z
     ·have z2:=un.frzs b ob _ z;obtain⟨e1,_⟩:=hok b _ z;obtain⟨e2,_⟩:=hok' b _ z2;rw[e] at e1;cases e1;exact e2
 cases hk:K.lookup a with
 |some o=>
  have e:=KX a o hk;rw[ha] at e;cases e;refine O6 (λ_=>none) (λ_=>.inl rfl) (.inr ⟨_,vs.toArray,_,hk,rfl,rfl,rfl,by rw[U_,RF];exact hl,by simpa using rv⟩) (λb u z=>by have z':(none:Option HO)=some u:=z;cases z') (λb z=>absurd rfl z) λz=>absurd rfl z
 |none=>
  refine O6 (λb=>if b=a then some (.frz {cls:=.type "list",data:=.seq vs.toArray} (.lst (ns.map V.int))) else none) (λb=>?_) (.inl (.inr ⟨{cls:=.type "list",data:=.seq vs.toArray},hV rfl⟩)) (λb u z=>?_) (λb z=>?_) λ_=>hk
  ·by_cases hb:b=a
   ·exact .inr ⟨_,_,hV hb⟩
   ·exact .inl (hU hb)
  ·by_cases hb:b=a
   ·have z':=(hV hb).symm.trans z;cases z';subst hb;exact⟨ha,by rw[Vd];exact hl,vs,_,rv,ha⟩
   ·have z':=(hU hb).symm.trans z;cases z'
  ·by_cases hb:b=a
   ·exact hb
   ·exact absurd (hU hb) z
end L2
namespace L2
theorem walk_of {l:PySem.W.OpenLaw}{q:XJ}{d:DefRec}{K:Params->U7}{CX:Ya->CXT}{sp:Ya->Sp}(hn:l.most=some n)(Kk:n<=Vf)(O3:d.params.defaults=[])(hr:fh k callerA)(hY:∀(w:Ya) (h:XI),YP w h->(K w.params).In h)(F:∀(w:Ya) (mg:Str->Option Va) (fa:Vr) (h:XI),(K w.params).In h->h.Ns V0 mg->mg d.name=some (.ref fa)->
   ∃fd:ZF,(∀(s:Vo) (u:Va),BindsTo s fd ⟨[u],[]⟩ [(x,u)])/\
    ∀base:XI,(K w.params).In base->base.Ns V0 mg->k7 l.prog w (K w.params) mg base (CX w) k fa fd [x] (sp w))(Kh:∀(w:Ya) (H:Hp) (a:Vr) (ns:List Int),ns.length<=n->Hd H->fH (K w.params) H a (ns.map V.int)->sp w [.ref a] H (λv _=>v=.bl true) λ_ _ _=>False)(RE:∀(w:Ya) (H:Hp) (s:Vo) (e:Va) (s':Vo),CX w [] H s (λ_ _ _=>False) e s'->False) :
  PySem.W.WalkO q loose XP YP l.row.toRowW d [] (λf vs=>PySem.call f vs):=by
 refine Att.attach_call hn O3 λw s₀ s₁ mg mb fa o pm cd nv a vs ns G Y ho hd sW O4 Mt Gq cZ hg=>?_;have KX:=hY w _ Y;obtain⟨fd,hb,hF⟩:=F w mg fa _ KX G.T.g O4;exact DU KX G.T.g G.T.b G.T.builtins G.T.nolimit hg Mt Gq (Wa cZ Kk) hr hF hb (λH hO hS=>Kh w H a ns cZ hO hS) λH e s'=>RE w H s₁ e s'
end L2
namespace L2
noncomputable def fi (s:Zf):Arguments:=match s with
 | .FunctionDef _ a _ _ _ _ _ _ _ _=>a
 |_=>{posonlyargs:=[],args:=[],vararg:=none,kwonlyargs:=[],kw_defaults:=[],kwarg:=none,defaults:=[]}
noncomputable def cb (s:Zf):List Zf:=match s with
 | .FunctionDef _ _ b _ _ _ _ _ _ _=>b
 |_=>[]
noncomputable def aq (s:Zf):aai:=match s with
 | .FunctionDef _ _ _ _ _ _ sc _ _ _=>sc
 |_=>{kind:=.function,names:=[],isGenerator:=false,isCoroutine:=false}
abbrev xc:CXT:=λ_ _ _ _ _ _=>False
abbrev E0:XK:=λ_ _ _=>False
theorem Nv:yZ xc X E0:=λ_ _ _ _ _ _ _ h=>h.elim
structure GG (K:U7)(x qual:Str)(st:Zf)(f:Vr)(fd:ZF):Prop where
 ex:∃(oc:Va) (od:Option Vr) (kV nv pm:Va) (an:Option Vr) (cP ct:Va) (Kg:Array (Option Va)),
  fd=WY x qual (fi st) (cb st) (aq st) .none kV nv pm an cP ct/\K.lookup f=some ⟨oc,od,.func fd,Kg⟩/\aak K cP qual=true
 kp:Yc K (.ref f)=true
section
variable {base:XI}
theorem GG.ok (F:GG K x qual st f fd)(S:aS N ps (aq st))(len:∀vs H Q E,sp vs H Q E->vs.length=ps.length)(iJ:∀(cP:Va) (A:VR) (outer:List Env) (s:Vo) (H:Hp) (vs:List V) (Q:VK) (E:XK),fh k (A.deeper (Z_ qual (aq st) s.heap.objs.size f cP))->sp vs H Q E->
   ∃t,tG (pD xc P w K mg base N qual (aq st) f cP A outer s H E).nox (cb st) t/\t {nx:=λ_ H'=>Q .non H',rt:=Q} (Y1 N vs) H):k7 P w K mg base xc (k+1) f fd ps sp:=by
 obtain⟨oc,od,kV,nv,pm,an,cP,ct,Kg,rfl,lk,sW⟩:=F.ex;refine Nk lk sW S len λA outer s H vs Q E hr Kh=>?_;obtain⟨t,h,q⟩:=iJ cP A outer s H vs Q E hr Kh;exact⟨t,h.nox,q⟩
theorem GG.binds (F:GG K x qual st f fd)(h:∀(kV nv pm:Va) (an:Option Vr) (cP ct:Va) (us:List Va),us.length=ps.length->bindArgs (WY x qual (fi st) (cb st) (aq st) .none kV nv pm an cP ct) ⟨us,[]⟩=pure (ps.zip us)):ui K fd ps []:=by
 obtain⟨oc,od,kV,nv,pm,an,cP,ct,Kg,rfl,lk,sW⟩:=F.ex;exact .all (h kV nv pm an cP ct)
theorem DV {oc:Va}{od an:Option Vr}{Kg:Array (Option Va)}{kV nv pm cP ct:Va}(l:K.lookup f=some ⟨oc,od,.func (WY x qual (fi st) (cb st) (aq st) .none kV nv pm an cP ct),Kg⟩)(c:aak K cP qual=true)(k:Yc K (.ref f)=true):GG K x qual st f (WY x qual (fi st) (cb st) (aq st) .none kV nv pm an cP ct):=⟨⟨oc,od,kV,nv,pm,an,cP,ct,Kg,rfl,l,c⟩,k⟩
end
theorem bW {A:VR}(hr:fh k A):A.units+1<W9:=Y6 (Nat.add_le_add_left (by decide:1<=64) _) hr.units
def aT (H H':Hp):Prop:=∀b o,H b=some o->H' b=some o
theorem aT.refl (H:Hp):aT H H:=λ_ _ h=>h
theorem aT.trans (a:aT H H1)(b:aT H1 H2):aT H H2:=λc o h=>b c o (a c o h)
theorem aT.seq (e:aT H H')(h:fH K H a xs):fH K H' a xs:=by
 rcases h with (h|⟨o,h⟩)|h
 ·exact .inl (.inl (e _ _ h))
 ·exact .inl (.inr ⟨o,e _ _ h⟩)
 ·exact .inr h
end L2
namespace L2
section
variable {κ:Type}[DecidableEq κ]
noncomputable def qx (cn:List (κ×V))(k:κ):Option V:=(cn.find? λkv=>decide (kv.1=k)).map (·.2)
theorem qy {p:κ×V}{r:List (κ×V)}{k:κ}(e:p.1=k):qx (p::r) k=some p.2:=by simp[qx,WE,e]
theorem qz {p:κ×V}{r:List (κ×V)}{k:κ}(e:¬p.1=k):qx (p::r) k=qx r k:=by simp[qx,WE,e]
theorem pA.isSome_eq {o:Option V}{u:Option Va}(r:pA o u):o.isSome=u.isSome:=by
 cases o with
 |none=>cases u with
  |none=>rfl
  |some _=>exact (show False from r).elim
 |some _=>cases u with
  |none=>exact (show False from r).elim
  |some _=>rfl
theorem KV.val {cn:List (κ×V)}{vs:List (κ×Va)}(r:KV cn vs)(k:κ):pA (qx cn k) (valueAt vs k):=by
 unfold KV at r
 induction r with
 |nil=>exact True.intro
 | @cons p q ps qs h t ih=>
  obtain⟨h1,h2⟩:=h;by_cases e:p.1=k
  ·have e':q.1=k:=h1.symm.trans e;have b:valueAt (q::qs) k=some q.2:=by simp[valueAt,WE,e']
   rw[qy e,b];exact h2
  ·have e':¬q.1=k:=λz=>e (h1.trans z);have b:valueAt (q::qs) k=valueAt qs k:=by simp[valueAt,WE,e']
   rw[qz e,b];exact ih
end
theorem IW {k:jI}{u:Va}(r:bq (kV k) u):(ff P w).is k u=true:=by
 cases k with
 |inl i=>obtain⟨t,e⟩:=(show ∃t,u=Value.int i t from r);subst e;exact wX P w i t
 |inr x=>obtain⟨t,e⟩:=(show ∃t,u=Value.str x t from r);subst e;exact wY P w x t
theorem ur {P:XJ}{w:Ya}:∀{ks:List jI} {us:List Va},a_ (ks.map kV) us->ItemsAre (ff P w) ks us
 | [],_,r=>by rw[Xg] at r;cases r;exact .nil
 |k::ks,_,r=>by
  rw[Vp] at r;cases r with
  |cons h t=>exact .cons (IW h) (ur t)
abbrev KT (H:Hp):List (List jI×V)->List (List jI×Vr×Va)->Prop:=Z3 λp q=>p.1=q.1/\H q.2.1=some (.tup (p.1.map kV))/\bq p.2 q.2.2
theorem KT.val {cn:List (List jI×V)}{xs:List (List jI×Vr×Va)}(r:KT H cn xs)(k:List jI):pA (qx cn k) ((aav xs k).map (·.2)):=by
 induction r with
 |nil=>exact True.intro
 | @cons p q ps qs h t ih=>
  obtain⟨h1,_,h2⟩:=h;by_cases e:p.1=k
  ·have e':q.1=k:=h1.symm.trans e;have b:aav (q::qs) k=some q.2:=by simp[aav,WE,e']
   rw[qy e,b];exact h2
  ·have e':¬q.1=k:=λz=>e (h1.trans z);have b:aav (q::qs) k=aav qs k:=by simp[aav,WE,e']
   rw[qz e,b];exact ih
theorem IX {u:HO}(ok:kZ P w H h)(e:Rd H a u):dG P w H h a u:=e.ok ok
theorem DX {cn:List (jI×V)}(ok:kZ P w H h)(e:Rd H a (.dK cn)):cn.length<=Vf/\(a==Xp)=false/\∃vs,KV cn vs/\h.DictOf (ff P w) a vs:=
 show dG P w H h a (.dK cn) from IX ok e
theorem DY {ks:List jI}(ok:kZ P w H h)(e:H a=some (.tup (ks.map kV))):(tupleKind (ff P w)).is h ks a:=by
 obtain⟨_,its,r,⟨o,h1,h2,n,h3⟩,_⟩:=(show dG P w H h a (.tup (ks.map kV)) from ok a _ e);exact⟨o,its.toArray,n,h1,h2,h3,by simpa using ur r⟩
theorem DZ {cn:List (List jI×V)}(ok:kZ P w H h)(e:Rd H a (.dT cn)):cn.length<=Vf/\(a==Xp)=false/\
  ∃xs,KT H cn xs/\h.DictOfH (tupleKind (ff P w)) a xs:=by
 obtain⟨z,y,xs,r,o,es,ep,h1,h2,h3,h4,h5⟩:=(show dG P w H h a (.dT cn) from IX ok e);refine⟨z,y,xs,r,o,es,ep,h1,h2,h3,h4,λx hx=>?_,h5⟩;have all:∀{l:List (List jI×V)} {m:List (List jI×Vr×Va)},KT H l m->∀x∈m,(tupleKind (ff P w)).is h x.1 x.2.1:=by
  intro l m q
  induction q with
  |nil=>intro x hx;exact nomatch hx
  | @cons p q ps qs hq t ih=>
   intro x hx;rcases Vk.mp hx with e|hx
   ·subst e;exact DY ok (by rw[←hq.1];exact hq.2.1)
   ·exact ih x hx
 exact all r x hx
def K6 (H:Hp)(a:Vr)(y:V)(r:Option V):Prop:=
 (∃cn k,Rd H a (.dK cn)/\y=kV k/\r=qx cn k)\/∃cn k b,Rd H a (.dT cn)/\y=.ref b/\H b=some (.tup (k.map kV))/\r=qx cn k
section
variable {u r:Va}{o:Option V}{A:VR}
theorem aI.big (I:aI X pins σ H s):Xp<s.heap.objs.size:=by
 have h:V0<s.heap.objs.size:=(I.mod.glob.keeps I.bk).lt;exact Nat.lt_trans (by decide) h
theorem Cc (hu:A.units+1<W9)(I:aI X pins σ H s)(g:K6 H a y (some v))(ry:bq y u)(h:∀w' s',aI X pins σ H s'->bq v w'->Q w' s') :
  Vs (VE X.prog X.w) A (ZQ (.ref a) u) Q E s:=by
 rcases g with⟨cn,k,e,ey,l⟩|⟨cn,k,b,e,ey,eb,l⟩
 ·subst ey;obtain⟨z,hd,vs,rel,dd⟩:=DX I.hok e;obtain⟨w',hw,Ar⟩:=pA.some_of (v:=v) (o:=valueAt vs k) (by rw[l];exact rel.val k);exact wpAny_getItem_of (IW ry) dd.mapOf hw (h w' _ (I.tok _) Ar)
 ·subst ey;cases (show u=Value.ref b from ry);obtain⟨z,hd,xs,rel,dd⟩:=DZ I.hok e;obtain⟨w',hw,Ar⟩:=pA.some_of (v:=v) (o:=(aav xs k).map (·.2)) (by rw[l];exact rel.val k);obtain⟨p,hp,B0⟩:=Option.map_eq_some_iff.mp hw;refine wpAny_getItem_heap (tupleKind_room_in1 hu) (DY I.hok eb) dd hp ?_;rw[B0];exact h w' _ (I.tok _) Ar
theorem He {t':Nat}{ob:HO}(I:aI X pins σ H s)(mu:MK (H a))(hs:Xe a s.heap h')(he:∃q,h'.get? a=some q)(new:dG X.prog X.w (cQ H a ob) h' a ob) :
  aI X pins σ (cQ H a ob) {s with heap:=h',toks:=t'}:=
 I.write (x:=a) (e:=a) mu (.inl rfl) (λb q hb z=>(hs.2 b hb).trans z) he new
end
def K7 (i:W5):Prop:=∀ov iv,subscripted i false ov iv=operate [ov,iv] (ZQ ov iv)
theorem Hg {A:VR}{value slice:W5}{T id:String}(hl:typeLookup (.type T) "__getitem__"=pure (some (.builtin id)))(hs:K7 slice)(h:Vs (VE prog w) A (YD value env) (λo s₁=>Vs (VE prog w) A (YD slice env) (λi s₂=>s₂.TypeIs o T/\Vs (VE prog w) A (ZQ o i) Q E s₂) E s₁) E s) :
  Vs (VE prog w) A (YD (.Subscript value slice pos) env) Q E s:=by
 refine Subscript_ (Wm h (λo s₁ h₁=>Wm h₁ (λi s₂ h₂=>?_) λ_ _ x=>x) λ_ _ x=>x);obtain⟨hT,h₂⟩:=h₂;unfold subscriptTail;refine U3 ?_;rw[getitemInPython_of_ne hT.not_modules];refine U3 (Yj hT hl ?_);have fin:Vs (VE prog w) A (subscripted slice false o i) (λr s₃=>Vs (VE prog w) A (letTemporaryGo value o r >>= λ_=>pure r) Q E s₃) E s₂:=by
  rw[hs o i];exact wpAny_operating (Wm h₂ (λr s₃ h₃=>U3 (wpAny_letTemporaryGo (U6 h₃))) λ_ _ x=>x)
 first
  |exact U6 (U3 fin)
  |exact U3 (U6 (U3 fin))
  |exact U3 fin
theorem xf {o:Option V}(I:aI X pins σ H s)(g:K6 H a y o):s.TypeIs (.ref a) "dict":=by
 rcases g with⟨cn,k,e,_,_⟩|⟨cn,k,b,e,_,_,_⟩
 ·obtain⟨_,_,vs,_,dd⟩:=DX I.hok e;exact dd.typeIs
 ·obtain⟨_,_,xs,_,dd⟩:=DZ I.hok e;exact dd.typeIs
theorem D0 (h:XI)(hb:Xp<h.objs.size):dG P w H (h.push {cls:=.type "dict",data:=.dict #[]}) h.objs.size (.dK []):=
 ⟨Wt _,beq_eq_false_iff_ne.mpr (Ne.symm (VB hb)),[],.nil,Heap.DictOf.new h⟩
def K8:TE:=λ_ H Q=>∀p,H p=none->Q (.ref p) (cQ H p (.dK []))
theorem xg:PE X (.Dict [] [] pos) K8:=λpins s σ H Q I h=>
 wpAny_Dict_empty ⟨.ref s.heap.objs.size,_,I.laid (a:=s.heap.objs.size) (o:=.dK []) (t':=s.toks) (λ_ _ q=>U5 _ q) (Vh _) (D0 s.heap I.big),rfl,h _ (I.hok.fresh (Vh _))⟩
structure M1 (X:Cx)(o:W5)(m:Str)(gj:Pos)(e:W5)(cpos:Pos):Prop where
 base:Y5 o m X.env (YD o X.env)=YD o X.env
 few:((XR cpos (Vx [e] X.env)).all (λx=> !x.1)&&(backToKw cpos (ZR [] X.env)).all (λx=>x.1.isSome)
  && decide (([e]:List W5).length+([]:List Zz).length+(if ([]:List Zz).isEmpty then 0 else 1)<30))=true
 line:(gj.endLine==cpos.line)=true
 trees:XR cpos (Vx [e] X.env)=[(false,YD e X.env)]
structure M2 (X:Cx)(o:W5)(m:Str)(gj:Pos)(e f:W5)(cpos:Pos):Prop where
 base:Y5 o m X.env (YD o X.env)=YD o X.env
 few:((XR cpos (Vx [e,f] X.env)).all (λx=> !x.1)&&(backToKw cpos (ZR [] X.env)).all (λx=>x.1.isSome)
  && decide (([e,f]:List W5).length+([]:List Zz).length+(if ([]:List Zz).isEmpty then 0 else 1)<30))=true
 line:(gj.endLine==cpos.line)=true
 trees:XR cpos (Vx [e,f] X.env)=[(false,YD e X.env),(false,YD f X.env)]
def Sg (H:Hp)(a:Vr):Prop:=(∃cn,Rd H a (.dK cn))\/∃cn,Rd H a (.dT cn)
theorem K9 (I:aI X pins σ H s)(d:Sg H a) :
  s.TypeIs (.ref a) "dict"/\(∀b,Value.ref a=.ref b->∃ob,s.heap.get? b=some ob/\ob.dict=none)/\(a==Xp)=false:=by
 rcases d with⟨cn,e⟩|⟨cn,e⟩
 ·obtain⟨_,hd,vs,_,dd⟩:=DX I.hok e;refine⟨dd.typeIs,λb q=>?_,hd⟩;cases q;obtain⟨ob,_,_,h1,h2,_⟩:=dd;exact⟨ob,h1,h2.2.1⟩
 ·obtain⟨_,hd,xs,_,dd⟩:=DZ I.hok e;refine⟨dd.typeIs,λb q=>?_,hd⟩;cases q;obtain⟨ob,_,_,h1,h2,_⟩:=dd;exact⟨ob,h1,h2.2.1⟩
end L2
namespace L2
end L2
namespace L2
theorem zd (hf:∀x,(x,NameKind.free)∈scope.names->∃c,env.cells.lookup x=some c) :
  ∃cl:List (Str×Vr),closureFor scope env=pure cl/\(∀x c,cl.lookup x=some c->env.cells.lookup x=some c)/\∀x,(x,NameKind.free)∈scope.names->∃c,cl.lookup x=some c:=by
 have gen:∀(names:List (Str×aaB)) (cs:List (Str×Vr)),(∀x,(x,NameKind.free)∈names->∃c,env.cells.lookup x=some c)->(∀x c,cs.lookup x=some c->env.cells.lookup x=some c)->
   ∃cl:List (Str×Vr),(forIn names cs λ(x:Str×aaB) (r:List (Str×Vr))=>(match x with|(name,kind)=>if (kind==NameKind.free)=true then (do let a ←cellOf env name;pure (ForInStep.yield ((name,a)::r))) else pure (ForInStep.yield r):Sem (ForInStep (List (Str×Vr)))))=(pure cl:Sem _)/\
    (∀x c,cl.lookup x=some c->env.cells.lookup x=some c)/\(∀x c,cs.lookup x=some c->∃c',cl.lookup x=some c')/\∀x,(x,NameKind.free)∈names->∃c,cl.lookup x=some c:=by
  intro names
  induction names with
  |nil=>intro cs _ h;exact⟨cs,rfl,h,λx c e=>⟨c,e⟩,λx hx=>absurd hx (by simp)⟩
  |cons p r ih=>
   intro cs hn h;obtain⟨n,k⟩:=p;by_cases hk:k=NameKind.free
   ·subst hk;obtain⟨c,hc⟩:=hn n U8;have h':∀x c',((n,c)::cs).lookup x=some c'->env.cells.lookup x=some c':=λx c' e=>by
     rw[WZ] at e;by_cases hx:x==n
     ·rw[hx] at e;have:x=n:=by simpa using hx
      subst this;cases e;exact hc
     ·rw[Yw.mpr hx] at e;exact h x c' e
    obtain⟨cl,e1,e2,e3,e4⟩:=ih ((n,c)::cs) (λx hx=>hn x (Vc _ hx)) h';refine⟨cl,?_,e2,λx c' e=>?_,λx hx=>?_⟩
    ·rw[Y7];have:cellOf env n=pure c:=by unfold cellOf;rw[hc]
     simp only[beq_self_eq_true,if_true,this];exact e1
    ·by_cases hx:x=n
     ·subst hx;exact e3 x c (by rw[WZ];simp)
     ·exact e3 x c' (by rw[WZ,show (x==n)=false from by simpa using hx];exact e)
    ·rcases Vk.mp hx with e|hx
     ·cases e;exact e3 n c (by rw[WZ];simp)
     ·exact e4 x hx
   ·obtain⟨cl,e1,e2,e3,e4⟩:=ih cs (λx hx=>hn x (Vc _ hx)) h;refine⟨cl,?_,e2,e3,λx hx=>?_⟩
    ·rw[Y7];have:(k==NameKind.free)=false:=by simpa using hk
     simp only[this,VG,if_false];exact e1
    ·rcases Vk.mp hx with e|hx
     ·cases e;exact absurd rfl hk
     ·exact e4 x hx
 obtain⟨cl,e1,e2,_,e4⟩:=gen scope.names [] hf (λx c e=>by simp at e);refine⟨cl,?_,e2,e4⟩;unfold closureFor;exact (congrArg (λm=>m >>= λr=>pure r) e1).trans rfl
structure pF where
 C:Vr
 s:Vo
 H:Hp
 fp:List Vr
 pins:List (Vr×Obj)
 cl:List (Str×Vr)
noncomputable abbrev dI (X:Cx)(scope:aai)(N:List Str)(Y:pF):Cx where
 prog:=X.prog
 w:=X.w
 K:=X.K
 mg:=X.mg
 base:=X.base
 A:=X.A
 N:=N
 s₀:=Y.s
 H₀:=Y.H
 env:=compEnvC scope Y.cl Y.C X.env
 outer:=X.stack
 stack:=X.stack
 ex:=Y.fp
 fn:=λ_=>false
 calm:=X.calm
 pn:=X.pn++Y.pins
 xe:=λ_ _=>False
noncomputable def qA (jS:aai)(NX:List Str)(scope:aai)(N:List Str)(js:List (Option Nat)):Bool:=
 decide (scope.kind=.function)&&scope.names.all (λy=>decide (y.2≠.cell))&&scope.names.all (λy=>decide (y.2=.local->scope.names.lookup y.1=some .local))&&decide (js.length=N.length) &&
 (js.zip N).all (λp=>match p.1 with|none=>true|some j=>decide (NX[j]? = some p.2)&&decide (scope.names.lookup p.2=some .free)) &&
 scope.names.all (λy=>decide (y.2=.free->jS.names.lookup y.1=some .cell\/jS.names.lookup y.1=some .free))
structure md (jS:aai)(NX:List Str)(scope:aai)(N:List Str)(js:List (Option Nat)):Prop where
 kind:scope.kind=.function
 nocell:∀y∈scope.names,y.2≠.cell
 loc:∀y∈scope.names,y.2=.local->scope.names.lookup y.1=some .local
 len:js.length=N.length
 cap:∀(i j:Nat) (x:Str),js[i]? = some (some j)->N[i]? = some x->NX[j]? = some x/\scope.names.lookup x=some .free
 free:∀x,(x,NameKind.free)∈scope.names->jS.names.lookup x=some .cell\/jS.names.lookup x=some .free
theorem qA.to {jS:aai}{NX:List Str}(h:qA jS NX scope N js=true):md jS NX scope N js:=by
 unfold qA at h;simp only[Vw] at h;obtain⟨⟨⟨⟨⟨h1,h2⟩,h3⟩,h4⟩,h5⟩,h6⟩:=h;refine⟨of_decide_eq_true h1,λy hy=>of_decide_eq_true (VZ.mp h2 y hy),λy hy=>of_decide_eq_true (VZ.mp h3 y hy),of_decide_eq_true h4,λi j x e1 e2=>?_,λx hx=>of_decide_eq_true (VZ.mp h6 (x,NameKind.free) hx) rfl⟩;have hz:(js.zip N)[i]? = some (some j,x):=by
  rw[List.getElem?_zip_eq_some];exact⟨e1,e2⟩
 have q:=VZ.mp h5 _ (Wc hz);simp only[Vw] at q;exact⟨of_decide_eq_true q.1,of_decide_eq_true q.2⟩
noncomputable def uu (js:List (Option Nat))(σ:St):St:=js.map λo=>match o with
 |none=>none
 |some j=>match σ[j]? with
  |some v=>v
  |none=>none
theorem mf (vd:∀y∈scope.names,y.2≠.cell)(h:(relabel scope env).names.lookup x=some .cell\/(relabel scope env).names.lookup x=some .free):(x,NameKind.free)∈scope.names:=by
 have gen:∀k,(k=NameKind.cell\/k=NameKind.free)->(relabel scope env).names.lookup x=some k->(x,NameKind.free)∈scope.names:=λk hk e=>by
  have hm:=Wf e;obtain⟨⟨n,k0⟩,hy,q⟩:=V3.mp hm;dsimp only at q;split at q
  ·rename_i c;simp only[Vw,beq_iff_eq] at c;cases q;obtain⟨⟨c1,_⟩,_⟩:=c;rw[c1] at hy;exact hy
  ·cases q;rcases hk with hk|hk
   ·exact absurd hk (vd _ hy)
   ·rw[hk] at hy;exact hy
 rcases h with h|h
 ·exact gen _ (.inl rfl) h
 ·exact gen _ (.inr rfl) h
theorem eJ {env:Env}{x:Str}:∀{names:List (Str×aaB)},names.lookup x=some .free->
  (names.map λ(n,k)=>if (k==NameKind.free&&env.scope.kind==.function&&env.kindOf n==some .cell) then (n,NameKind.cell) else (n,k)).lookup x=some .cell \/
  (names.map λ(n,k)=>if (k==NameKind.free&&env.scope.kind==.function&&env.kindOf n==some .cell) then (n,NameKind.cell) else (n,k)).lookup x=some .free
 | [],h=>by simp at h
 | (n,k)::r,h=>by
  rw[Vp];by_cases hx:x==n
  ·rw[WZ,hx] at h;cases h;by_cases c:(NameKind.free==NameKind.free&&env.scope.kind==.function&&env.kindOf n==some .cell)=true
   ·refine .inl ?_;show List.lookup x ((if (NameKind.free==NameKind.free&&env.scope.kind==.function&&env.kindOf n==some .cell)=true then (n,NameKind.cell) else (n,NameKind.free))::_)=_;rw[hV c,WZ,hx]
   ·refine .inr ?_;show List.lookup x ((if (NameKind.free==NameKind.free&&env.scope.kind==.function&&env.kindOf n==some .cell)=true then (n,NameKind.cell) else (n,NameKind.free))::_)=_;rw[hU c,WZ,hx]
  ·have tw:=Yw.mpr hx;rw[WZ,tw] at h;have ih:=eJ (env:=env) (x:=x) (names:=r) h;have e:∀p:Str×aaB,p.1=n->List.lookup x (p::(r.map λ(n,k)=>if (k==NameKind.free&&env.scope.kind==.function&&env.kindOf n==some .cell) then (n,NameKind.cell) else (n,k))) =
     List.lookup x (r.map λ(n,k)=>if (k==NameKind.free&&env.scope.kind==.function&&env.kindOf n==some .cell) then (n,NameKind.cell) else (n,k)):=λp hp=>by
    obtain⟨p1,p2⟩:=p;cases hp;rw[WZ,tw]
   rw[e _ (by dsimp only;split<;>rfl)];exact ih
def Cd (X:Cx)(pz:List W5)(t:TT):Prop:=
 ∀(pins:List (Vr×Obj)) (s:Vo) (σ:St) (H:Hp) (Q:Bool->Hp->Prop),aI X pins σ H s->t σ H Q->
  Vs (VE X.prog X.w) X.A (forIn pz true λc r=>if r=true then do let ok ←isTrue c X.env (YD c X.env);pure (ForInStep.yield ok) else pure (ForInStep.yield r)) (TP X pins σ Q) X.xe s
def QC:TT:=λ_ H Q=>Q true H
theorem D1:Cd X [] QC:=λ_ _ _ H _ I h=>wpAny_tests_nil ⟨H,I,h⟩
theorem D2 {t:TT}(h:PT X c t):Cd X [c] t:=λpins s σ H Q I q=>wpAny_tests_one (h pins s σ H Q I q)
end L2
namespace L2
theorem j0 {A:VR}{R:Result->Vo->Prop}{ow:W5}{it cv:Va}(I:Nat->Vo->Prop)(turn:∀n s,I n s->Vs (VE prog w) A (ZD it) (λr s₁=>match r with
   |none=>R (.ok .next) s₁
   |some v=>Vs (VE prog w) A (ZP ow it v) (λ_ SV=>Vs (VE prog w) A (assign ow env v) (λ_ s₂=>
     Vs (VE prog w) A (forIn pz true λc r=>if r=true then do let ok ←isTrue c env (YD c env);pure (ForInStep.yield ok) else pure (ForInStep.yield r)) (λok s₃=>
      if ok=true then Vs (VE prog w) A (YD elt env) (λx s₄=>
       Vs (VE prog w) A (call (.builtin "list.append") [cv,x]) (λ_ s₅=>∃m,m<n/\I m s₅) (λ_ _=>False) s₄) (λ_ _=>False) s₃
      else ∃m,m<n/\I m s₃) (λ_ _=>False) s₂) (λ_ _=>False) SV) (λ_ _=>False) s₁) (λ_ _=>False) s)(n:Nat)(h:I n s) :
  codeAny (VE prog w) A (.compLoop (.ListComp elt [⟨ow,iter,pz,0⟩] scope pos) 0 it cv env) R s:=by
 refine codeAny_loop rfl I (λn s hI=>?_) n h;show Vs _ A ((compTurn (.ListComp elt [⟨ow,iter,pz,0⟩] scope pos) 0 it cv env).onRaise (λx=>do noteFrame x env;theTreesLotGoes x)) _ _ s;refine wpAny_noted ?_;rw[compTurn_list];have fe:∀{e:Va} {s':Vo} {Z:Prop},(λ(_:Va) (_:Vo)=>False) e s'->Z:=λh=>h.elim;refine U3 (wpAny_standAt (U3 (Wm (turn n s hI) (λr s₁ h₁=>?_) λ_ _ h'=>h'.elim)));cases r with
 |none=>exact U6 h₁
 |some v=>
  refine U3 (Wm h₁ (λ_ SV TL=>?_) λ_ _ h'=>h'.elim);refine U3 (Wm TL (λ_ s₂ h₂=>U3 (Wm h₂ (λok s₃ h₃=>?_) λ_ _ h'=>h'.elim)) λ_ _ h'=>h'.elim);cases ok with
  |false=>exact U6 ⟨rfl,h₃⟩
  |true=>
   exact U3 (U3 (Wm h₃ (λx s₄ h₄=>U3 (Wm h₄ (λ_ s₅ h₅=>U6 (U6 ⟨rfl,h₅⟩)) λ_ _ h'=>h'.elim)) λ_ _ h'=>h'.elim))
def Nw (J:It)(js:List (Option Nat))(g:pF->TG)(tt:pF->TT)(te:pF->TE)(σ:St)(H1:Hp)(P:List V->Hp->Prop):Prop:=
 ∀Y:pF,∃W:Nat->Nat->List V->Hp->Prop,(∃m,W 0 m [] H1)/\∀i m ys H2,W i m ys H2->
  (J.stop i H2/\P ys H2) \/
  (J.go i H2/\ys.length<Vf/\∃Nx:List V->Hp->Prop,(∀Kp H',Nx Kp H'->∃m',m'<m/\W (i+1) m' Kp H')/\∀x H3,J.yld i H2 x H3->g Y x (uu js σ) H3 λσ4 H4=>tt Y σ4 H4 λb H5=>
   if b=true then te Y σ4 H5 λy H6=>Nx (ys++[y]) H6 else Nx ys H5)
def Pz (wi:TI)(js:List (Option Nat))(g:pF->TG)(tt:pF->TT)(te:pF->TE):TE:=λσ H Q=>wi σ H λJ H1=>
 Nw J js g tt te σ H1 λys H2=>∀p,H2 p=none->Q (.ref p) (cQ H2 p (.lst ys))
theorem qB {E:Va->Vo->Prop}{s2:Vo}{jS:aai}{g:pF->TG}{tt:pF->TT}{te:pF->TE}{J:It}{tn:Nat->XI->Prop}{P:List V->Hp->Prop}{cl:List (Str×Vr)}{RR:Va->Vr->Result->Vo->Prop}(I:aI X pins σ H s2)(hc:X.calm=true)(T:B4 X.prog X.w X.K tg J fp it tn)(kY:tn 0 s2.heap)(f2:∀b∈fp,pB X pins H b)(sY:∀Y:pF,PG (dI X scope N Y) tg (g Y)/\Cd (dI X scope N Y) pz (tt Y)/\PE (dI X scope N Y) elt (te Y))(S:md jS X.N scope N js)(jX:X.env.scope=jS)(c1:∀x c,cl.lookup x=some c->X.env.cells.lookup x=some c)(c2:∀x,(x,NameKind.free)∈scope.names->∃c,cl.lookup x=some c)(h:Nw J js g tt te σ H P)(hR:∀(cv C:Vr) (ys:List V) (H':Hp) (s':Vo),aI X pins σ (cQ H' cv (.lst ys)) s'->(∃m,s'.heap.Ns C m)->pB X pins (cQ H' cv (.lst ys)) C->H' cv=none->P ys H'->RR (.ref cv) C (.ok .next) s') :
  Vs (VE X.prog X.w) X.A (newList []) (λcv s₃=>Vs (VE X.prog X.w) X.A (newFunctionEnv scope X.env.globals cl [] X.env.qual none .none (some X.env)) (λO7 s₄=>
   codeAny (VE X.prog X.w) X.A (.compStart (.ListComp elt [⟨tg,iter,pz,0⟩] scope pos) 0 (.ref it) cv {O7 with scope:=relabel scope X.env}) (RR cv O7.locals) s₄) E s₃) E s2:=by
 refine VX (wpAny_newFunctionEnv S.nocell (by intro y hy;simp at hy) (λh₁ Mv II=>?_) S.kind);dsimp only at Mv II ⊢;generalize hH2:s2.heap.push {cls:=.type "list",dict:=none,data:=.seq ([]:List Va).toArray}=H2 at Mv II ⊢;have hC:H2.objs.size=s2.heap.objs.size+1:=by rw[←hH2,Wo]
 have P8:s2.heap.objs.size≠H2.objs.size:=by rw[hC];exact VB (YK _)
 have IJ:s2.heap.objs.size<=H2.objs.size:=by rw[hC];exact Nat.le_succ _
 have below:∀b,b<s2.heap.objs.size->b≠H2.objs.size/\b≠s2.heap.objs.size:=λb hb=>⟨by rw[hC];exact VB (Xa hb),VB hb⟩;have old:∀b o,s2.heap.get? b=some o->h₁.get? b=some o:=λb o e=>II.extBut b o (below b (Vl e)).1 (U5 _ (hH2▸U5 _ e));have Gs:h₁.PlainList s2.heap.objs.size #[]:=⟨_,II.extBut _ _ P8 (U5 _ (hH2▸Vj _ rfl))⟩;have RG:∀b∈fp,b<s2.heap.objs.size:=λb hb=>by
  obtain⟨o,e,_⟩:=T.obj _ _ kY b hb;exact Vl e
 generalize hCg:H2.objs.size=C at *;generalize hAg:s2.heap.objs.size=cv at *
 let Y:pF:=⟨C,s2,H,fp,pins,cl⟩
 have ok:(dI X scope N Y).Ok:=by
  refine⟨I.ok.mod,S.kind,I.ok.glob,I.ok.blt,?_,λx y c e1 e2=>I.ok.inj x y c (c1 x c e1) (c1 y c e2),λx hx=>c2 x (mf S.nocell hx),λx c e=>(by cases e),I.ok.hd,I.ok.frames,.inl rfl,λb hb=>⟨?_,λx c e=>?_⟩,I.bs,Wa I.ok.bsz I.sz,λb o e hb=>?_,λb hb hf=>?_,I.stack,I.stkFree⟩
  ·show s2.heap.objs.size<=C;rw[hAg];exact IJ
  ·exact (below b (RG b hb)).1
  ·exact (f2 b hb).2.2.2.2.1 x c (c1 x c e)
  ·rcases (f2 b hb).2.2.2.1 with z|z
   ·exact I.ok.noex b o e z
   ·exact absurd (VO (Vl (I.ok.bs b o e).1) z) (Xd _)
  ·rcases Vk.mp (I.stkSub b hf) with z|z
   ·exact (f2 b hb).2.1 z
   ·exact (f2 b hb).2.2.1 z
 have RH:∀x c,X.env.cells.lookup x=some c->c<cv:=λx c e=>by
  obtain⟨v,q⟩:=I.cell x c e;rw[←hAg];exact q.lt
 have Kl:∀p∈X.pn++pins,p.1<cv:=λp hp=>by rw[←hAg];exact Vl (I.pin p hp).1
 have UR:X.env.locals<cv:=by rw[←hAg];exact I.lt
 have O8:∀b∈Aw X.stack,b<cv:=λb hb=>by
  obtain⟨_,o,ho,_⟩:=I.stack.mem hb;rw[←hAg];exact Vl ho
 have O9:∀p∈X.pn++pins,p.1∉Aw X.stack:=λp hp hf=>by
  rcases Vk.mp (I.stkSub _ hf) with z|z
  ·exact (I.pin p hp).2.2.1 z
  ·exact (I.pin p hp).2.2.2.1 z
 have BX:H cv=none:=by rw[←hAg];exact I.hok.fresh (Vh _)
 have TM:H C=none:=I.hok.fresh (by rw[hAg];exact IJ);have I4:∀tk:Nat,aI (dI X scope N Y) [] (uu js σ) H {s2 with heap:=h₁,toks:=tk}:=λtk=>by
  refine⟨ok,rfl,I.bare,Un.kept old,⟨_,Mv,λi x v e1 e2 e3=>?_⟩,λx c e=>?_,TM,λx c e=>I.freeC x c (c1 x c e),λp hp=>?_,I.hok.kept old,?_⟩
  ·
   have IK:(uu js σ)[i]? = some (some v):=e2;unfold uu at IK;rw[VL] at IK;cases hj:js[i]? with
   |none=>rw[hj] at IK;cases IK
   |some o=>
    rw[hj] at IK;cases o with
    |none=>cases IK
    |some j=>
     have e4:(match σ[j]? with|some v=>v|none=>none)=some v:=Vy IK;obtain⟨nx,fr⟩:=S.cap i j x hj e1;have e5:σ[j]? = some (some v):=by
      cases q:σ[j]? with
      |none=>rw[q] at e4;cases e4
      |some z=>rw[q] at e4;rw[show z=some v from e4]
     obtain⟨m,hn,hl⟩:=I.loc;have kx:X.env.scope.names.lookup x=some .cell\/X.env.scope.names.lookup x=some .free:=by rw[jX];exact S.free x (Wf fr)
     obtain⟨u,r,lk⟩:=hl j x v nx e5 (.inr kx);refine⟨u,r,.inr ⟨eJ fr,?_⟩⟩;obtain⟨c,hcl⟩:=c2 x (Wf fr);rcases lk with⟨k,_⟩|⟨k,c',e',z⟩
     ·have k':X.env.scope.names.lookup x=some .local:=k;rcases kx with q|q<;>· rw[q] at k';cases k'
     ·have:c'=c:=by
       have:=c1 x c hcl;rw[e'] at this;exact Vy this
      subst this;obtain⟨o,ho,hd⟩:=z;exact⟨c',hcl,o,old _ _ ho,hd⟩
  ·obtain⟨v,o,ho,hd⟩:=I.cell x c (c1 x c e);exact⟨v,o,old _ _ ho,hd⟩
  ·have BY:p∈X.pn++pins:=by simpa using hp
   obtain⟨q1,q2,q3,q4,q5⟩:=I.pin p BY;exact⟨old _ _ q1,q2,λz=>absurd (Kl p BY) (by rw[z];exact Nat.not_lt.mpr IJ),O9 p BY,q5⟩
  ·show (uu js σ).length=N.length;unfold uu;rw[Vd];exact S.len
 obtain⟨hg,ht,he⟩:=sY Y;obtain⟨W,⟨m0,w0⟩,turn⟩:=h Y;have RI:∀{H':Hp} {pl:List (Vr×Obj)},H' cv=none->(∀p∈pl,p.1≠cv)->pB (dI X scope N Y) pl H' cv:=λ{H' pl} hn hp=>by
  refine⟨hn,P8,λz=>absurd (O8 _ z) (Xd _),.inr (by show s2.heap.objs.size<=cv;rw[hAg];exact Vh _),λx c e=>VB (RH x c (c1 x c e)),λp BY=>?_⟩;rcases Vv.mp BY with z|z
  ·exact VB (Kl p z)
  ·exact hp p z
 have RJ:∀{H':Hp} {pl:List (Vr×Obj)},(∀b∈fp,H' b=none)->(∀p∈pl,p.1∉fp)->∀b∈fp,pB (dI X scope N Y) pl H' b:=λ{H' pl} hn hp b hb=>by
  refine⟨hn b hb,(below b (RG b hb)).1,λz=>?_,.inl hb,λx c e=>(f2 b hb).2.2.2.2.1 x c (c1 x c e),λp BY=>?_⟩
  ·rcases Vk.mp (I.stkSub b z) with q|q
   ·exact (f2 b hb).2.1 q
   ·exact (f2 b hb).2.2.1 q
  ·rcases Vv.mp BY with z|z
   ·exact (f2 b hb).2.2.2.2.2 p z
   ·exact λe=>hp p z (by rw[e];exact hb)
 have SW:cv∉fp:=λz=>absurd (RG cv z) (by intro q;rw[hAg] at *;exact Xd _ q);have RK:∀{i:Nat} {x:Str} {v:V},N[i]? = some x->(uu js σ)[i]? = some (some v)->∃u c o,bq v u/\scope.names.lookup x=some .free/\cl.lookup x=some c/\s2.heap.get? c=some o/\o.data=.cell (some u):=λ{i x v} e1 e2=>by
  unfold uu at e2;rw[VL] at e2;cases hj:js[i]? with
  |none=>rw[hj] at e2;cases e2
  |some o=>
   rw[hj] at e2;cases o with
   |none=>cases e2
   |some j=>
    have e4:(match σ[j]? with|some v=>v|none=>none)=some v:=Vy e2;obtain⟨nx,fr⟩:=S.cap i j x hj e1;have e5:σ[j]? = some (some v):=by
     cases q:σ[j]? with
     |none=>rw[q] at e4;cases e4
     |some z=>rw[q] at e4;rw[show z=some v from e4]
    obtain⟨m,hn,hl⟩:=I.loc;have kx:X.env.scope.names.lookup x=some .cell\/X.env.scope.names.lookup x=some .free:=by rw[jX];exact S.free x (Wf fr)
    obtain⟨u,r,lk⟩:=hl j x v nx e5 (.inr kx);obtain⟨c,hcl⟩:=c2 x (Wf fr);rcases lk with⟨k,_⟩|⟨k,c',e',z⟩
    ·have k':X.env.scope.names.lookup x=some .local:=k;rcases kx with q|q<;>· rw[q] at k';cases k'
    ·have:c'=c:=by
      have:=c1 x c hcl;rw[e'] at this;exact Vy this
     subst this;obtain⟨o,ho,hd⟩:=z;exact⟨u,c',o,r,fr,hcl,ho,hd⟩
 have O_:∀{pl:List (Vr×Obj)} {σ':St} {H':Hp} {s':Vo},aI (dI X scope N Y) pl σ' H' s'->aI (dI X scope N Y) pl (uu js σ) H' s':=λ{pl σ' H' s'} K=>by
  refine⟨K.ok,K.os,K.bare,K.base,?_,K.cell,K.free,K.freeC,K.pin,K.hok,?_⟩
  ·obtain⟨m,hn,_⟩:=K.loc;refine⟨m,hn,λi x v e1 e2 e3=>?_⟩;obtain⟨u,c,o,r,fr,hcl,ho,hd⟩:=RK e1 e2;refine⟨u,r,.inr ⟨eJ fr,c,hcl,?_⟩⟩;obtain⟨sl,q⟩:=K.base.any ho (I.freeC x c (c1 x c hcl)) λz=>(f2 c z).2.2.2.2.1 x c (c1 x c hcl) rfl;exact⟨_,q,hd⟩
  ·show (uu js σ).length=N.length;unfold uu;rw[Vd];exact S.len
 have loop:∀tk:Nat,codeAny (VE X.prog X.w) X.A (.compLoop (.ListComp elt [⟨tg,iter,pz,0⟩] scope pos) 0 (.ref it) (.ref cv) (compEnvC scope cl C X.env)) (RR (.ref cv) C) {s2 with heap:=h₁,toks:=tk}:=by
  intro tk;refine j0 (λn s'=>∃(i:Nat) (ys:List V) (its:List Va) (H':Hp),aI (dI X scope N Y) [] (uu js σ) H' s'/\tn i s'.heap/\(∀b∈fp,H' b=none)/\H' cv=none/\s'.heap.PlainList cv its.toArray/\a_ ys its/\ys.length<=Vf/\W i n ys H') ?_ m0
   ⟨0,[],[],H,I4 tk,T.keep _ _ _ kY (λb hb o e=>old b o e),λb hb=>(f2 b hb).1,BX,Gs,.nil,Wt _,w0⟩
  rintro n s3 ⟨i,ys,its,H3,I3,GP,fr3,na3,⟨nn,ea⟩,rv3,hz3,w3⟩;have Mw:∀p∈[(cv,({cls:=.type "list",data:=.seq its.toArray nn}:Obj))],p.1∉fp:=λp hp=>by
   have e:p=(cv,({cls:=.type "list",data:=.seq its.toArray nn}:Obj)):=by simpa using hp
   rw[e];exact SW
  have Ip:aI (dI X scope N Y) [(cv,({cls:=.type "list",data:=.seq its.toArray nn}:Obj))] (uu js σ) H3 s3:=I3.pins_of λp hp=>by
   have e:p=(cv,({cls:=.type "list",data:=.seq its.toArray nn}:Obj)):=by simpa using hp
   subst e;exact⟨ea,na3,P8,λz=>absurd (O8 _ z) (Xd _),λv z=>by cases z⟩
  rcases turn i n ys H3 w3 with⟨stop,p⟩|⟨go,yT,Nx,hNx,step⟩
  ·refine Wm (T.done (dI X scope N Y) rfl rfl rfl hc i _ s3 _ H3 (λ_ _=>False) Ip (RJ fr3 Mw) GP stop) (λr s4 TN=>?_) λ_ _ z=>z;obtain⟨hr,J4⟩:=TN;subst hr;have pa:=(J4.pin (cv,({cls:=.type "list",data:=.seq its.toArray nn}:Obj)) (Vm _ U8)).1;have u:Un (Aw X.stack) fp H (cQ H3 cv (.lst ys)) s2.heap s4.heap:=
    ⟨J4.base.keep,J4.base.slot,λb o e nb hx=>by rw[bg (below b (by rw[←hAg];exact Vl e)).2];exact J4.base.free b o e nb hx,J4.base.there,
     λb xs e=>by rw[bg (bM e BX)];exact J4.base.tups b xs e,λb o w' e=>by rw[bg (bM e BX)];exact J4.base.frzs b o w' e,λb ps e=>by rw[bg (bM e BX)];exact J4.base.tbls b ps e⟩
   have hok:kZ X.prog X.w (cQ H3 cv (.lst ys)) s4.heap:=λb o e=>by
    by_cases hb:b=cv
    ·subst hb;rw[bI] at e;cases e;exact⟨hz3,its,nn,rv3,pa⟩
    ·rw[bg hb] at e;refine (J4.hok b o e).stay (λ_ _ _ q=>q) (λc q=>?_) λc xs q=>?_
     ·rw[bg (bM q na3)];exact q
     ·rw[bg (bM q na3)];exact q
   have RL:aI X pins σ (cQ H3 cv (.lst ys)) s4:=I.call' (ch:=fp) J4.os u hok J4.bare λb hb=>⟨(f2 b hb).2.2.2.1,(f2 b hb).2.1,(f2 b hb).2.2.2.2.1,(f2 b hb).2.2.2.2.2⟩;have TQ:∃m,s4.heap.Ns C m:=by obtain⟨m,hn,_⟩:=J4.loc;exact⟨m,hn⟩
   exact hR cv C ys H3 s4 RL TQ (I.fpOk (by rw[hAg];exact IJ) (by rw[bg (Ne.symm P8)];exact J4.free)) na3 p
  ·refine Wm (T.item (dI X scope N Y) rfl rfl rfl hc i _ s3 _ H3 (λ_ _=>False) Ip (RJ fr3 Mw) GP go) (λr s4 h4=>?_) λ_ _ z=>z;obtain⟨u,hr,h4⟩:=h4;subst hr;refine Wm h4 (λ_ s5 h5=>?_) λ_ _ z=>z;obtain⟨x,H5,I5,r5,y5,st5,fr5⟩:=h5;have Ry:=I5.pinned (RJ fr5 Mw) (T.obj _ _ st5);refine Wm (hg _ s5 _ H5 x u _ Ry r5 (step x H5 y5)) (λ_ s6 h6=>?_) λ_ _ z=>z;obtain⟨σ6,H6,I6,q6⟩:=h6;refine Wm (ht _ s6 σ6 H6 _ I6 q6) (λb s7 h7=>?_) λ_ _ z=>z;obtain⟨H7,I7,q7⟩:=h7;have Pa:∀{H8:Hp} {σ8:St} {s8:Vo},aI (dI X scope N Y) ([(cv,({cls:=.type "list",data:=.seq its.toArray nn}:Obj))]++qj fp s5.heap) σ8 H8 s8->
     s8.heap.get? cv=some ({cls:=.type "list",data:=.seq its.toArray nn}:Obj)/\H8 cv=none/\(∀b∈fp,H8 b=none)/\(∀b∈fp,∀o,s5.heap.get? b=some o->s8.heap.get? b=some o):=λ{H8 σ8 s8} K=>by
    have q:=K.pin (cv,({cls:=.type "list",data:=.seq its.toArray nn}:Obj)) (Vm _ (VF _ U8));refine⟨q.1,q.2.1,λb hb=>?_,λb hb o e=>(K.pin (b,o) (Vm _ (Vm _ (jv hb e)))).1⟩;obtain⟨o,e,d⟩:=T.obj _ _ st5 b hb;exact (K.pin (b,o) (Vm _ (Vm _ (jv hb e)))).2.1
   have Gu:∀{H8:Hp} {σ8:St} {s8:Vo} {pl:List (Vr×Obj)},aI (dI X scope N Y) pl σ8 H8 s8->aI (dI X scope N Y) [] σ8 H8 s8:=λK=>K.pins_of λp hp=>absurd hp (by simp);cases b with
   |false=>
    rw[hU (by simp)] at q7;obtain⟨m',hm,w7⟩:=hNx _ _ q7;obtain⟨p1,p2,p3,p4⟩:=Pa I7;exact⟨m',hm,i+1,ys,its,H7,O_ (Gu I7),T.keep _ _ _ st5 p4,p3,p2,⟨nn,p1⟩,rv3,hz3,w7⟩
   |true=>
    rw[hV rfl] at q7;refine Wm (he _ s7 σ6 H7 _ I7 q7) (λv s8 h8=>?_) λ_ _ z=>z;obtain⟨y,H8,I8,r8,q8⟩:=h8;obtain⟨m',hm,w8⟩:=hNx _ _ q8;obtain⟨p1,p2,p3,p4⟩:=Pa I8;refine wpAny_list_append_plain (items:=its.toArray) ⟨nn,p1⟩ (λh' TR sb=>?_) (by rw[U_,←rv3.length];exact hz3);obtain⟨f0,f1,f2',f3,f4,f5⟩:=RI (H':=H8) (pl:=[]) p2 (by simp);have I9:aI (dI X scope N Y) [] σ6 H8 {s8 with heap:=h'}:=(Gu I8).turned (t':=s8.toks) (λb o hb e=>(sb.2 b hb).trans e) f0 f1 f3 f4 f5;refine⟨m',hm,i+1,ys++[y],its++[v],H8,O_ I9,T.keep _ _ _ st5 (λb hb o e=>(sb.2 b (λz=>SW (z▸hb))).trans (p4 b hb o e)),p3,p2,?_,rv3.append (.cons r8 .nil),?_,w8⟩
    ·rw[show (its++[v]).toArray=its.toArray.push v from by simp];exact TR
    ·rw[Ve,Yi];exact yT
 exact codeAny_compStart_list (loop _) (T.self _ _ _ _ _ (T.keep _ _ _ kY (λb hb o e=>old b o e)) (loop _))
theorem qC {jS:aai}(I:aI X pins σ H s)(S:md jS X.N scope N js)(jX:X.env.scope=jS) :
  ∃cl:List (Str×Vr),closureFor scope X.env=pure cl/\(∀x c,cl.lookup x=some c->X.env.cells.lookup x=some c)/\∀x,(x,NameKind.free)∈scope.names->∃c,cl.lookup x=some c:=
 zd λx hx=>I.ok.has x (by
  have:=S.free x hx;rw[←jX] at this;exact this)
theorem IY {g:pF->TG}{tt:pF->TT}{te:pF->TE}(jS:aai)(NX N:List Str)(js:List (Option Nat))(hc:X.calm=true)(hi:PI X tg iter wi)(sY:∀Y:pF,PG (dI X scope N Y) tg (g Y)/\Cd (dI X scope N Y) pz (tt Y)/\PE (dI X scope N Y) elt (te Y))(jX:X.env.scope=jS:=by rfl)(Gv:X.N=NX:=by rfl)(hS:qA jS NX scope N js=true:=by decide+kernel)(hs:∀x,WB iter X.env x=pure x:=by intro _;rfl):PE X (.ListComp elt [⟨tg,iter,pz,0⟩] scope pos) (Pz wi js g tt te):=by
 intro pins s σ H Q I h;have S:md jS X.N scope N js:=by rw[Gv];exact qA.to hS
 obtain⟨cl,e1,e2,e3⟩:=qC I S jX;rw[eval_ListComp];refine wpAny_comprehension_free (use:=none) rfl hs e1 S.kind S.loc (ez (hi pins s σ H _ I h) λv s1 h1=>ez h1 λP6 s2 h2=>?_);obtain⟨it,fp,tn,J,H2,e,I2,T,kY,f2,q⟩:=h2;subst e;refine qB (RR:=λcv C=>compPost (VE X.prog X.w) X.A X.xe none (EP X pins σ Q) cv C) I2 hc T kY f2 sY S jX e2 e3 q ?_;intro cv C ys H' s' I' ns fC na p;obtain⟨m,hn⟩:=ns;obtain⟨f0,f1,f2',f3,f4,f5⟩:=fC;exact⟨m,hn,λh' sb=>⟨.ref cv,_,I'.turned (t':=s'.toks) (λb o hb e=>(sb.2 b hb).trans e) f0 f1 f3 f4 f5,rfl,p cv na⟩⟩
theorem xh {k_ jY:Pos}{g:pF->TG}{tt:pF->TT}{te:pF->TE}(jS:aai)(NX N:List Str)(js:List (Option Nat))(hN:X.N.Nodup)(hx:X.N[i]? = some x)(hl:GD X.env.scope x)(hc:X.calm=true)(hi:PI X tg iter wi)(sY:∀Y:pF,PG (dI X scope N Y) tg (g Y)/\Cd (dI X scope N Y) pz (tt Y)/\PE (dI X scope N Y) elt (te Y))(jX:X.env.scope=jS:=by rfl)(Gv:X.N=NX:=by rfl)(hS:qA jS NX scope N js=true:=by decide+kernel)(hw:Zx (.ListComp elt [⟨tg,iter,pz,0⟩] scope jY) (some (.Name x k_)) pos.line X.env=pure true:=by rfl)(hf:X.fn x=true\/X.env.scope.names.lookup x=some .local:=by first|exact .inl rfl|exact .inr rfl|assumption)(hs:∀x,WB iter X.env x=pure x:=by intro _;rfl) :
  PS X (.Assign [.Name x k_] (.ListComp elt [⟨tg,iter,pz,0⟩] scope jY) pos) (Dn (Pz wi js g tt te) (w6 i)):=by
 intro pins s σ H D I h;have S:md jS X.N scope N js:=by rw[Gv];exact qA.to hS
 obtain⟨cl,e1,e2,e3⟩:=qC I S jX;rw[exec_Assign_Name_used _ _ _ _ hw];refine U3 (wpAny_standAt (U3 ?_));show Vs _ X.A (do let _ ←comprehension (.ListComp elt [⟨tg,iter,pz,0⟩] scope jY) scope X.env _ (newList []) false (YD iter X.env) (some (assign (.Name x k_) X.env))) _ _ s;refine U3 (Wm (wpAny_comprehension_free (use:=some (assign (.Name x k_) X.env)) (Q:=λ_ s'=>SP X pins D .next s') rfl hs e1 S.kind S.loc
  (ez (hi pins s σ H _ I h) λv s1 h1=>ez h1 λP6 s2 h2=>?_)) (λ_ s' hq=>U6 (U6 hq)) λ_ _ e=>e)
 obtain⟨it,fp,tn,J,H2,e,I2,T,kY,f2,q⟩:=h2;subst e;refine qB (RR:=λcv C=>compPost (VE X.prog X.w) X.A X.xe (some (assign (.Name x k_) X.env)) (λ_ s'=>SP X pins D .next s') cv C) I2 hc T kY f2 sY S jX e2 e3 q ?_;intro cv C ys H' s' I' ns fC na p;obtain⟨m,hn⟩:=ns;obtain⟨f0,f1,f2',f3,f4,f5⟩:=fC;show Vs _ X.A (assign (.Name x k_) X.env (.ref cv)) _ _ _;refine wpAny_assign_Name (uh I' hN hx hl (v:=.ref cv) rfl (λMr TU TV=>?_) hf);obtain⟨a,sb,ha⟩:=TV;have aC:C≠a:=by
  rcases ha with ha|ha
  ·rw[ha];exact f1
  ·exact λz=>f4 x a ha z.symm
 refine⟨m,hn.sameBut sb aC,λh' TX=>⟨_,_,TU.turned (t':=Mr.toks) (λb o hb e=>(TX.2 b hb).trans e) f0 f1 f3 f4 f5,?_⟩⟩;exact p cv na
def Ny (J:It)(g:TG)(tb:TS)(D:lH)(σ:St)(H1:Hp):Prop:=∃W:Nat->Nat->St->Hp->Prop,(∃m,W 0 m σ H1)/\∀i m σ H,W i m σ H->
 (J.stop i H/\D.nx σ H)\/(J.go i H/\∃N:St->Hp->Prop,(∀σ' H',N σ' H'->∃m',m'<m/\W (i+1) m' σ' H')/\∀x H',J.yld i H x H'->g x σ H' λσ2 H2=>tb {D with nx:=N,ct:=N,bk:=D.nx} σ2 H2)
def Nz (wi:TI)(g:TG)(tb:TS):TS:=λD σ H=>wi σ H λJ H1=>Ny J g tb D σ H1
theorem AH {g:TG}{tb:TS}(hp:aaD (VE X.prog X.w) X.A X.env X.xe)(hc:X.calm=true)(hi:PI X tg iter wi)(hg:PG X tg g)(hb:tG X body tb)(hs:∀x,WB iter X.env x=pure x:=by intro _;rfl):PS X (.For tg iter body [] pos) (Nz wi g tb):=KU hp hc hi hg hb hs
end L2
namespace L2
inductive D where
 |non|bl (b:Bool)|int (i:Int)|str (x:Str)|tup (xs:List D)|lst (xs:List D)
instance:Inhabited D:=⟨.non⟩
mutual
def aV (K:U7)(H:Hp):D->V->Prop
 | .non,v=>v=.non
 | .bl b,v=>v=.bl b
 | .int i,v=>v=.int i
 | .str x,v=>v=.str x
 | .tup ds,v=>∃a xs,v=.ref a/\fK K H a xs/\fI K H ds xs
 | .lst ds,v=>∃a xs,v=.ref a/\fH K H a xs/\fI K H ds xs
def fI (K:U7)(H:Hp):List D->List V->Prop
 | [],xs=>xs=[]
 |d::ds,xs=>∃x r,xs=x::r/\aV K H d x/\fI K H ds r
end
mutual
noncomputable def i5:D->D->Bool
 | .non,.non=>true
 | .bl a,.bl b=>a==b
 | .bl a,.int b=>(if a then 1 else 0)==b
 | .int a,.bl b=>a==(if b then 1 else 0)
 | .int a,.int b=>a==b
 | .str a,.str b=>a==b
 | .tup xs,.tup ys=>jw xs ys
 | .lst xs,.lst ys=>jw xs ys
 |_,_=>false
noncomputable def jw:List D->List D->Bool
 | [],[]=>true
 |x::xs,y::ys=>i5 x y&&jw xs ys
 |_,_=>false
end
mutual
noncomputable def dJ:D->Nat
 | .tup xs=>jK xs+1
 | .lst xs=>jK xs+1
 |_=>0
noncomputable def jK:List D->Nat
 | []=>0
 |x::xs=>max (dJ x) (jK xs)
end
theorem fI.length {K:U7}{H:Hp}:∀{ds:List D} {xs:List V},fI K H ds xs->ds.length=xs.length
 | [],_,h=>by unfold fI at h;subst h;rfl
 |d::ds,_,h=>by
  unfold fI at h;obtain⟨x,r,rfl,_,q⟩:=h;rw[Vi,Vi,fI.length q]
theorem fI.get {K:U7}{H:Hp}:∀{ds:List D} {xs:List V} {i:Nat} {d:D} {x:V},fI K H ds xs->ds[i]? = some d->xs[i]? = some x->aV K H d x
 | [],_,_,_,_,_,e,_=>by simp at e
 |d::ds,_,i,d',x',h,e1,e2=>by
  unfold fI at h;obtain⟨x,r,rfl,p,q⟩:=h;cases i with
  |zero=>simp at e1 e2;subst e1 e2;exact p
  |succ i=>exact fI.get q (by simpa using e1) (by simpa using e2)
theorem fL:∀{ds:List D} {i:Nat} {d:D},ds[i]? = some d->dJ d<=jK ds
 | [],_,_,e=>by simp at e
 |d::ds,i,d',e=>by
  unfold jK;cases i with
  |zero=>simp at e;subst e;exact Nat.le_max_left _ _
  |succ i=>exact Wa (fL (ds:=ds) (by simpa using e)) (Nat.le_max_right _ _)
noncomputable def dM (xs ys:List D)(j:Nat):Bool:=match xs[j]?,ys[j]? with
 |some a,some b=>i5 a b
 |_,_=>true
theorem f9:∀(xs ys:List D),((VN (min xs.length ys.length)).all (dM xs ys)&&xs.length==ys.length)=jw xs ys
 | [],[]=>by simp[jw]
 | [],_::_=>by simp[jw]
 |_::_,[]=>by simp[jw]
 |x::xs,y::ys=>by
  have ih:=f9 xs ys;unfold jw;rw[←ih,Vi,Vi,Nat.add_min_add_right,List.range_succ_eq_map,Y8,List.all_map];have e0:dM (x::xs) (y::ys) 0=i5 x y:=rfl;have e1:(dM (x::xs) (y::ys)∘Nat.succ)=dM xs ys:=by funext j;simp[dM,Function.comp]
  rw[e0,e1,Bool.and_assoc];congr 1;congr 1;rw[X1];simp
theorem qD {xs ys:List D}(h:xs.length≠ys.length):jw xs ys=false:=by
 rw[←f9,show (xs.length==ys.length)=false from by simpa using h,Zu]
mutual
theorem xi:∀d:D,i5 d d=true
 | .non=>rfl
 | .bl b=>by unfold i5;simp
 | .int b=>by unfold i5;simp
 | .str b=>by unfold i5;simp
 | .tup xs=>by unfold i5;exact nD xs
 | .lst xs=>by unfold i5;exact nD xs
theorem nD:∀ds:List D,jw ds ds=true
 | []=>rfl
 |d::ds=>by unfold jw;rw[xi d,nD ds];rfl
end
theorem NA {ys:List V}(I:aI X pins σ H s)(h:fH X.K H a xs)(h':fK X.K H a ys):False:=by
 obtain⟨its,_,p,_⟩:=I.list h;obtain⟨its',_,q,_⟩:=I.tuple h';exact absurd rfl (SeqAt.ne_of_list_tuple p.isList q)
theorem xj (I:aI X pins σ H s):∀n d1 d2 x,dJ d1<=n->aV X.K H d1 x->aV X.K H d2 x->i5 d1 d2=true:=by
 have lists:∀n,(∀d1 d2 x,dJ d1<=n->aV X.K H d1 x->aV X.K H d2 x->i5 d1 d2=true)->∀(ds es:List D) (xs:List V),jK ds<=n->fI X.K H ds xs->fI X.K H es xs->jw ds es=true:=by
  intro n ih ds
  induction ds with
  |nil=>
   intro es xs _ h1 h2;unfold fI at h1;subst h1;cases es with
   |nil=>rfl
   |cons e es=>unfold fI at h2;obtain⟨x,r,e',_⟩:=h2;cases e'
  |cons d ds ihd=>
   intro es xs hd h1 h2;unfold fI at h1;obtain⟨x,r,rfl,p,q⟩:=h1;cases es with
   |nil=>unfold fI at h2;cases h2
   |cons e es=>
    unfold fI at h2;obtain⟨x',r',e',p',q'⟩:=h2;cases e';unfold jK at hd;unfold jw;rw[ih d e x (Wa (Nat.le_max_left _ _) hd) p p',ihd es r (Wa (Nat.le_max_right _ _) hd) q q'];rfl
 intro n
 induction n with
 |zero=>
  intro d1 d2 x hd h1 h2;have fl:∀d,aV X.K H d x->(∃a,x=.ref a)\/(d=.non/\x=.non)\/(∃b,d=.bl b/\x=.bl b)\/(∃b,d=.int b/\x=.int b)\/∃b,d=.str b/\x=.str b:=λd h=>by
   cases d with
   |non=>unfold aV at h;exact .inr (.inl ⟨rfl,h⟩)
   |bl b=>unfold aV at h;exact .inr (.inr (.inl ⟨b,rfl,h⟩))
   |int b=>unfold aV at h;exact .inr (.inr (.inr (.inl ⟨b,rfl,h⟩)))
   |str b=>unfold aV at h;exact .inr (.inr (.inr (.inr ⟨b,rfl,h⟩)))
   |tup ds=>unfold aV at h;obtain⟨a,_,e,_⟩:=h;exact .inl ⟨a,e⟩
   |lst ds=>unfold aV at h;obtain⟨a,_,e,_⟩:=h;exact .inl ⟨a,e⟩
  have nr:¬∃a,x=.ref a:=λh00=>by
   obtain⟨a,e⟩:=h00;subst e;cases d1 with
   |tup ds=>unfold dJ at hd;lia
   |lst ds=>unfold dJ at hd;lia
   |_=>unfold aV at h1;cases h1
  have f1:=fl d1 h1;have f2:=fl d2 h2;rcases f1 with f1|⟨rfl,rfl⟩|⟨b,rfl,rfl⟩|⟨b,rfl,rfl⟩|⟨b,rfl,rfl⟩
  ·exact absurd f1 nr
  all_goals
   rcases f2 with f2|⟨rfl,f2⟩|⟨c,rfl,f2⟩|⟨c,rfl,f2⟩|⟨c,rfl,f2⟩
   ·exact absurd f2 nr
   all_goals first|(cases f2;exact xi _)|cases f2
 |succ n ih=>
  intro d1 d2 x hd h1 h2;cases d1 with
  |tup ds=>
   unfold aV at h1;obtain⟨a,xs,rfl,hs,hr⟩:=h1;cases d2 with
   |tup es=>
    unfold aV at h2;obtain⟨a',xs',e,hs',hr'⟩:=h2;cases e;have:=I.tuple_inj hs hs';subst this;unfold i5;exact lists n ih ds es xs (by unfold dJ at hd;lia) hr hr'
   |lst es=>
    unfold aV at h2;obtain⟨a',xs',e,hs',hr'⟩:=h2;cases e;exact (NA I hs' hs).elim
   |_=>unfold aV at h2;cases h2
  |lst ds=>
   unfold aV at h1;obtain⟨a,xs,rfl,hs,hr⟩:=h1;cases d2 with
   |lst es=>
    unfold aV at h2;obtain⟨a',xs',e,hs',hr'⟩:=h2;cases e;have:=I.list_inj hs hs';subst this;unfold i5;exact lists n ih ds es xs (by unfold dJ at hd;lia) hr hr'
   |tup es=>
    unfold aV at h2;obtain⟨a',xs',e,hs',hr'⟩:=h2;cases e;exact (NA I hs hs').elim
   |_=>unfold aV at h2;cases h2
  |_=>exact ih _ d2 x (by unfold dJ;exact Wt _) h1 h2
theorem qE (I:aI X pins σ H s):∀(n:Nat) (d1 d2:D) (x y:V) (u v:Va) (A:VR),dJ d1<=n->A.units+n<W9->aV X.K H d1 x->aV X.K H d2 y->bq x u->bq y v->XY A s u v (i5 d1 d2):=by
 intro n
 induction n with
 |zero=>
  intro d1 d2 x y u v A hd hu h1 h2 r1 r2;have c_:A.units<W9:=by lia
  cases d1 with
  |non=>
   unfold aV at h1;subst h1;cases r1;cases d2 with
   |non=>
    unfold aV at h2;subst h2;cases r2;exact ZS _
   |bl b2=>
    unfold aV at h2;subst h2;cases r2;exact SeqAt.EqAt.none_bool b2
   |int b2=>
    unfold aV at h2;subst h2;obtain⟨t2,rfl⟩:=r2;exact SeqAt.EqAt.none_int b2 t2
   |str b2=>
    unfold aV at h2;subst h2;obtain⟨t2,rfl⟩:=r2;exact SeqAt.EqAt.none_str b2 t2
   |tup b2=>
    unfold aV at h2;obtain⟨a2,xs2,rfl,cK,fA⟩:=h2;cases r2;obtain⟨its2,rv2,p2,jZ⟩:=I.tuple cK;exact SeqAt.EqAt.none_tuple p2 c_
   |lst b2=>
    unfold aV at h2;obtain⟨a2,xs2,rfl,cK,fA⟩:=h2;cases r2;obtain⟨its2,rv2,p2,jZ⟩:=I.list cK;exact SeqAt.EqAt.none_list p2.isList c_
  |bl b1=>
   unfold aV at h1;subst h1;cases r1;cases d2 with
   |non=>
    unfold aV at h2;subst h2;cases r2;exact SeqAt.EqAt.bool_none b1
   |bl b2=>
    unfold aV at h2;subst h2;cases r2;exact SeqAt.EqAt.bool_bool b1 b2
   |int b2=>
    unfold aV at h2;subst h2;obtain⟨t2,rfl⟩:=r2;exact SeqAt.EqAt.bool_int b1 b2 t2
   |str b2=>
    unfold aV at h2;subst h2;obtain⟨t2,rfl⟩:=r2;exact SeqAt.EqAt.bool_str b1 b2 t2
   |tup b2=>
    unfold aV at h2;obtain⟨a2,xs2,rfl,cK,fA⟩:=h2;cases r2;obtain⟨its2,rv2,p2,jZ⟩:=I.tuple cK;exact SeqAt.EqAt.bool_tuple b1 p2 c_
   |lst b2=>
    unfold aV at h2;obtain⟨a2,xs2,rfl,cK,fA⟩:=h2;cases r2;obtain⟨its2,rv2,p2,jZ⟩:=I.list cK;exact SeqAt.EqAt.bool_list b1 p2.isList c_
  |int b1=>
   unfold aV at h1;subst h1;obtain⟨t1,rfl⟩:=r1;cases d2 with
   |non=>
    unfold aV at h2;subst h2;cases r2;exact SeqAt.EqAt.int_none b1 t1
   |bl b2=>
    unfold aV at h2;subst h2;cases r2;exact SeqAt.EqAt.int_bool b1 t1 b2
   |int b2=>
    unfold aV at h2;subst h2;obtain⟨t2,rfl⟩:=r2;exact aaa b1 t1 b2 t2
   |str b2=>
    unfold aV at h2;subst h2;obtain⟨t2,rfl⟩:=r2;exact SeqAt.EqAt.int_str b1 t1 b2 t2
   |tup b2=>
    unfold aV at h2;obtain⟨a2,xs2,rfl,cK,fA⟩:=h2;cases r2;obtain⟨its2,rv2,p2,jZ⟩:=I.tuple cK;exact SeqAt.EqAt.int_tuple b1 t1 p2 c_
   |lst b2=>
    unfold aV at h2;obtain⟨a2,xs2,rfl,cK,fA⟩:=h2;cases r2;obtain⟨its2,rv2,p2,jZ⟩:=I.list cK;exact SeqAt.EqAt.int_list b1 t1 p2.isList c_
  |str b1=>
   unfold aV at h1;subst h1;obtain⟨t1,rfl⟩:=r1;cases d2 with
   |non=>
    unfold aV at h2;subst h2;cases r2;exact SeqAt.EqAt.str_none b1 t1
   |bl b2=>
    unfold aV at h2;subst h2;cases r2;exact SeqAt.EqAt.str_bool b1 t1 b2
   |int b2=>
    unfold aV at h2;subst h2;obtain⟨t2,rfl⟩:=r2;exact SeqAt.EqAt.str_int b1 t1 b2 t2
   |str b2=>
    unfold aV at h2;subst h2;obtain⟨t2,rfl⟩:=r2;exact SeqAt.EqAt.str_str b1 t1 b2 t2
   |tup b2=>
    unfold aV at h2;obtain⟨a2,xs2,rfl,cK,fA⟩:=h2;cases r2;obtain⟨its2,rv2,p2,jZ⟩:=I.tuple cK;exact SeqAt.EqAt.str_tuple b1 t1 p2 c_
   |lst b2=>
    unfold aV at h2;obtain⟨a2,xs2,rfl,cK,fA⟩:=h2;cases r2;obtain⟨its2,rv2,p2,jZ⟩:=I.list cK;exact SeqAt.EqAt.str_list b1 t1 p2.isList c_
  |tup ds=>unfold dJ at hd;lia
  |lst ds=>unfold dJ at hd;lia
 |succ n ih=>
  intro d1 d2 x y u v A hd hu h1 h2 r1 r2;have c_:A.units<W9:=by lia
  cases d1 with
  |tup ds=>
   unfold aV at h1;obtain⟨a1,xs1,rfl,hs1,hr1⟩:=h1;cases r1;obtain⟨its1,rv1,p1,hz1⟩:=I.tuple hs1;cases d2 with
   |non=>
    unfold aV at h2;subst h2;cases r2;exact SeqAt.EqAt.tuple_none p1 c_
   |bl b2=>
    unfold aV at h2;subst h2;cases r2;exact SeqAt.EqAt.tuple_bool b2 p1 c_
   |int b2=>
    unfold aV at h2;subst h2;obtain⟨t2,rfl⟩:=r2;exact SeqAt.EqAt.tuple_int b2 t2 p1 c_
   |str b2=>
    unfold aV at h2;subst h2;obtain⟨t2,rfl⟩:=r2;exact SeqAt.EqAt.tuple_str b2 t2 p1 c_
   |tup es=>
    unfold aV at h2;obtain⟨a2,xs2,rfl,cK,fA⟩:=h2;cases r2;obtain⟨its2,rv2,p2,jZ⟩:=I.tuple cK;by_cases vg:a1=a2
    ·subst vg;rw[xj I (n+1) (.tup ds) (.tup es) (.ref a1) hd (by unfold aV;exact⟨a1,xs1,rfl,hs1,hr1⟩) (by unfold aV;exact⟨a1,xs2,rfl,cK,fA⟩)];exact ZS _
    ·refine aac vg ?_;have l1:its1.toArray.size=ds.length:=by rw[U_,←rv1.length,hr1.length]
     have l2:its2.toArray.size=es.length:=by rw[U_,←rv2.length,fA.length]
     have k1:xs1.length=ds.length:=hr1.length.symm;have k2:xs2.length=es.length:=fA.length.symm;have he:∀j (h1:j<its1.toArray.size) (h2:j<its2.toArray.size),XY A.in1 s its1.toArray[j] its2.toArray[j] (dM ds es j):=λj g1 g2=>by
      have q1:ds[j]? = some ds[j]:=U4 (by lia);have q2:es[j]? = some es[j]:=U4 (by lia);have e1:xs1[j]? = some xs1[j]:=U4 (by lia);have e2:xs2[j]? = some xs2[j]:=U4 (by lia);obtain⟨u1,z1,w1⟩:=rv1.get e1;obtain⟨u2,z2,w2⟩:=rv2.get e2;have y1:its1.toArray[j]=u1:=by
       have:=Vg.mp z1;obtain⟨_,q⟩:=this;simpa using q
      have y2:its2.toArray[j]=u2:=by
       have:=Vg.mp z2;obtain⟨_,q⟩:=this;simpa using q
      rw[y1,y2];have:dM ds es j=i5 ds[j] es[j]:=by unfold dM;rw[q1,q2]
      rw[this];refine ih ds[j] es[j] xs1[j] xs2[j] u1 u2 A.in1 ?_ (by show A.units+1+n<W9;lia) (hr1.get q1 e1) (fA.get q2 e2) w1 w2;have:=fL q1;unfold dJ at hd;lia
     have q:=aaw (A:=A) p1 p2 c_ he;rw[l1,l2,f9] at q;unfold i5;exact q
   |lst es=>
    unfold aV at h2;obtain⟨a2,xs2,rfl,cK,fA⟩:=h2;cases r2;obtain⟨its2,rv2,p2,jZ⟩:=I.list cK;exact SeqAt.EqAt.tuple_list p1 p2.isList c_
  |lst ds=>
   unfold aV at h1;obtain⟨a1,xs1,rfl,hs1,hr1⟩:=h1;cases r1;obtain⟨its1,rv1,p1,hz1⟩:=I.list hs1;cases d2 with
   |non=>
    unfold aV at h2;subst h2;cases r2;exact SeqAt.EqAt.list_none p1.isList c_
   |bl b2=>
    unfold aV at h2;subst h2;cases r2;exact SeqAt.EqAt.list_bool b2 p1.isList c_
   |int b2=>
    unfold aV at h2;subst h2;obtain⟨t2,rfl⟩:=r2;exact SeqAt.EqAt.list_int b2 t2 p1.isList c_
   |str b2=>
    unfold aV at h2;subst h2;obtain⟨t2,rfl⟩:=r2;exact SeqAt.EqAt.list_str b2 t2 p1.isList c_
   |tup es=>
    unfold aV at h2;obtain⟨a2,xs2,rfl,cK,fA⟩:=h2;cases r2;obtain⟨its2,rv2,p2,jZ⟩:=I.tuple cK;exact SeqAt.EqAt.list_tuple p1.isList p2 c_
   |lst es=>
    unfold aV at h2;obtain⟨a2,xs2,rfl,cK,fA⟩:=h2;cases r2;obtain⟨its2,rv2,p2,jZ⟩:=I.list cK;by_cases vg:a1=a2
    ·subst vg;rw[xj I (n+1) (.lst ds) (.lst es) (.ref a1) hd (by unfold aV;exact⟨a1,xs1,rfl,hs1,hr1⟩) (by unfold aV;exact⟨a1,xs2,rfl,cK,fA⟩)];exact ZS _
    ·refine aac vg ?_;have l1:its1.toArray.size=ds.length:=by rw[U_,←rv1.length,hr1.length]
     have l2:its2.toArray.size=es.length:=by rw[U_,←rv2.length,fA.length]
     have k1:xs1.length=ds.length:=hr1.length.symm;have k2:xs2.length=es.length:=fA.length.symm;have he:∀j (h1:j<its1.toArray.size) (h2:j<its2.toArray.size),XY A.in1 s its1.toArray[j] its2.toArray[j] (dM ds es j):=λj g1 g2=>by
      have q1:ds[j]? = some ds[j]:=U4 (by lia);have q2:es[j]? = some es[j]:=U4 (by lia);have e1:xs1[j]? = some xs1[j]:=U4 (by lia);have e2:xs2[j]? = some xs2[j]:=U4 (by lia);obtain⟨u1,z1,w1⟩:=rv1.get e1;obtain⟨u2,z2,w2⟩:=rv2.get e2;have y1:its1.toArray[j]=u1:=by
       have:=Vg.mp z1;obtain⟨_,q⟩:=this;simpa using q
      have y2:its2.toArray[j]=u2:=by
       have:=Vg.mp z2;obtain⟨_,q⟩:=this;simpa using q
      rw[y1,y2];have:dM ds es j=i5 ds[j] es[j]:=by unfold dM;rw[q1,q2]
      rw[this];refine ih ds[j] es[j] xs1[j] xs2[j] u1 u2 A.in1 ?_ (by show A.units+1+n<W9;lia) (hr1.get q1 e1) (fA.get q2 e2) w1 w2;have:=fL q1;unfold dJ at hd;lia
     unfold i5;by_cases hl:ds.length=es.length
     ·have q:=SeqAt.RcAt.lists (A:=A) p1.isList p2.isList (by rw[l1,l2,hl]) c_ he;rw[l1] at q;have z:=f9 ds es;rw[hl,Nat.min_self,beq_self_eq_true,Bool.and_true] at z;rw[hl,z] at q;exact q
     ·rw[qD hl];exact aax (A:=A) p1.isList p2.isList (by rw[l1,l2];simpa using hl) c_
  |non=>exact ih _ d2 x y u v A (by unfold dJ;exact Wt _) (by lia) h1 h2 r1 r2
  |bl b1=>exact ih _ d2 x y u v A (by unfold dJ;exact Wt _) (by lia) h1 h2 r1 r2
  |int b1=>exact ih _ d2 x y u v A (by unfold dJ;exact Wt _) (by lia) h1 h2 r1 r2
  |str b1=>exact ih _ d2 x y u v A (by unfold dJ;exact Wt _) (by lia) h1 h2 r1 r2
theorem K_ (I:aI X pins σ H s)(n:Nat)(d1 d2:D)(x y:V)(u v:Va)(A:VR)(hd:dJ d1<=n)(hu:A.units+n<W9)(h1:aV X.K H d1 x)(h2:aV X.K H d2 y)(r1:bq x u)(r2:bq y v):SeqAt.RcAt A s u v (i5 d1 d2):=by
  have c_:A.units<W9:=by lia
  cases d1 with
  |non=>
   unfold aV at h1;subst h1;cases r1;cases d2 with
   |non=>
    unfold aV at h2;subst h2;cases r2;exact SeqAt.RcAt.none_none
   |bl b2=>
    unfold aV at h2;subst h2;cases r2;exact SeqAt.RcAt.none_bool b2
   |int b2=>
    unfold aV at h2;subst h2;obtain⟨t2,rfl⟩:=r2;exact SeqAt.RcAt.none_int b2 t2
   |str b2=>
    unfold aV at h2;subst h2;obtain⟨t2,rfl⟩:=r2;exact SeqAt.RcAt.none_str b2 t2
   |tup es=>
    unfold aV at h2;obtain⟨a2,xs2,rfl,cK,fA⟩:=h2;cases r2;obtain⟨its2,rv2,p2,jZ⟩:=I.tuple cK;exact SeqAt.RcAt.none_tuple p2 c_
   |lst es=>
    unfold aV at h2;obtain⟨a2,xs2,rfl,cK,fA⟩:=h2;cases r2;obtain⟨its2,rv2,p2,jZ⟩:=I.list cK;exact SeqAt.RcAt.none_list p2.isList c_
  |bl b1=>
   unfold aV at h1;subst h1;cases r1;cases d2 with
   |non=>
    unfold aV at h2;subst h2;cases r2;exact SeqAt.RcAt.bool_none b1
   |bl b2=>
    unfold aV at h2;subst h2;cases r2;exact SeqAt.RcAt.bool_bool b1 b2
   |int b2=>
    unfold aV at h2;subst h2;obtain⟨t2,rfl⟩:=r2;exact SeqAt.RcAt.bool_int b1 b2 t2
   |str b2=>
    unfold aV at h2;subst h2;obtain⟨t2,rfl⟩:=r2;exact SeqAt.RcAt.bool_str b1 b2 t2
   |tup es=>
    unfold aV at h2;obtain⟨a2,xs2,rfl,cK,fA⟩:=h2;cases r2;obtain⟨its2,rv2,p2,jZ⟩:=I.tuple cK;exact SeqAt.RcAt.bool_tuple b1 p2 c_
   |lst es=>
    unfold aV at h2;obtain⟨a2,xs2,rfl,cK,fA⟩:=h2;cases r2;obtain⟨its2,rv2,p2,jZ⟩:=I.list cK;exact SeqAt.RcAt.bool_list b1 p2.isList c_
  |int b1=>
   unfold aV at h1;subst h1;obtain⟨t1,rfl⟩:=r1;cases d2 with
   |non=>
    unfold aV at h2;subst h2;cases r2;exact SeqAt.RcAt.int_none b1 t1
   |bl b2=>
    unfold aV at h2;subst h2;cases r2;exact SeqAt.RcAt.int_bool b1 t1 b2
   |int b2=>
    unfold aV at h2;subst h2;obtain⟨t2,rfl⟩:=r2;exact SeqAt.RcAt.int_int b1 t1 b2 t2
   |str b2=>
    unfold aV at h2;subst h2;obtain⟨t2,rfl⟩:=r2;exact SeqAt.RcAt.int_str b1 t1 b2 t2
   |tup es=>
    unfold aV at h2;obtain⟨a2,xs2,rfl,cK,fA⟩:=h2;cases r2;obtain⟨its2,rv2,p2,jZ⟩:=I.tuple cK;exact SeqAt.RcAt.int_tuple b1 t1 p2 c_
   |lst es=>
    unfold aV at h2;obtain⟨a2,xs2,rfl,cK,fA⟩:=h2;cases r2;obtain⟨its2,rv2,p2,jZ⟩:=I.list cK;exact SeqAt.RcAt.int_list b1 t1 p2.isList c_
  |str b1=>
   unfold aV at h1;subst h1;obtain⟨t1,rfl⟩:=r1;cases d2 with
   |non=>
    unfold aV at h2;subst h2;cases r2;exact SeqAt.RcAt.str_none b1 t1
   |bl b2=>
    unfold aV at h2;subst h2;cases r2;exact SeqAt.RcAt.str_bool b1 t1 b2
   |int b2=>
    unfold aV at h2;subst h2;obtain⟨t2,rfl⟩:=r2;exact SeqAt.RcAt.str_int b1 t1 b2 t2
   |str b2=>
    unfold aV at h2;subst h2;obtain⟨t2,rfl⟩:=r2;exact SeqAt.RcAt.str_str b1 t1 b2 t2
   |tup es=>
    unfold aV at h2;obtain⟨a2,xs2,rfl,cK,fA⟩:=h2;cases r2;obtain⟨its2,rv2,p2,jZ⟩:=I.tuple cK;exact SeqAt.RcAt.str_tuple b1 t1 p2 c_
   |lst es=>
    unfold aV at h2;obtain⟨a2,xs2,rfl,cK,fA⟩:=h2;cases r2;obtain⟨its2,rv2,p2,jZ⟩:=I.list cK;exact SeqAt.RcAt.str_list b1 t1 p2.isList c_
  |tup ds=>
   unfold aV at h1;obtain⟨a1,xs1,rfl,hs1,hr1⟩:=h1;cases r1;obtain⟨its1,rv1,p1,hz1⟩:=I.tuple hs1;cases d2 with
   |non=>
    unfold aV at h2;subst h2;cases r2;exact SeqAt.RcAt.tuple_none p1 c_
   |bl b2=>
    unfold aV at h2;subst h2;cases r2;exact SeqAt.RcAt.tuple_bool b2 p1 c_
   |int b2=>
    unfold aV at h2;subst h2;obtain⟨t2,rfl⟩:=r2;exact SeqAt.RcAt.tuple_int b2 t2 p1 c_
   |str b2=>
    unfold aV at h2;subst h2;obtain⟨t2,rfl⟩:=r2;exact SeqAt.RcAt.tuple_str b2 t2 p1 c_
   |tup es=>
    unfold aV at h2;obtain⟨a2,xs2,rfl,cK,fA⟩:=h2;cases r2;obtain⟨its2,rv2,p2,jZ⟩:=I.tuple cK;have l1:its1.toArray.size=ds.length:=by rw[U_,←rv1.length,hr1.length]
    have l2:its2.toArray.size=es.length:=by rw[U_,←rv2.length,fA.length]
    have k1:xs1.length=ds.length:=hr1.length.symm;have k2:xs2.length=es.length:=fA.length.symm;have he:∀j (h1:j<its1.toArray.size) (h2:j<its2.toArray.size),XY A.in1 s its1.toArray[j] its2.toArray[j] (dM ds es j):=λj g1 g2=>by
     have q1:ds[j]? = some ds[j]:=U4 (by lia);have q2:es[j]? = some es[j]:=U4 (by lia);have e1:xs1[j]? = some xs1[j]:=U4 (by lia);have e2:xs2[j]? = some xs2[j]:=U4 (by lia);obtain⟨u1,z1,w1⟩:=rv1.get e1;obtain⟨u2,z2,w2⟩:=rv2.get e2;have y1:its1.toArray[j]=u1:=by
      obtain⟨_,q⟩:=Vg.mp z1;simpa using q
     have y2:its2.toArray[j]=u2:=by
      obtain⟨_,q⟩:=Vg.mp z2;simpa using q
     rw[y1,y2];have:dM ds es j=i5 ds[j] es[j]:=by unfold dM;rw[q1,q2]
     rw[this];have dl:=fL q1;unfold dJ at hd;exact qE I (n-1) ds[j] es[j] xs1[j] xs2[j] u1 u2 A.in1 (by lia) (by show A.units+1+(n-1)<W9;lia) (hr1.get q1 e1) (fA.get q2 e2) w1 w2
    have q:=aaw (A:=A) p1 p2 c_ he;rw[l1,l2,f9] at q;unfold i5;exact q
   |lst es=>
    unfold aV at h2;obtain⟨a2,xs2,rfl,cK,fA⟩:=h2;cases r2;obtain⟨its2,rv2,p2,jZ⟩:=I.list cK;exact SeqAt.RcAt.tuple_list p1 p2.isList c_
  |lst ds=>
   unfold aV at h1;obtain⟨a1,xs1,rfl,hs1,hr1⟩:=h1;cases r1;obtain⟨its1,rv1,p1,hz1⟩:=I.list hs1;cases d2 with
   |non=>
    unfold aV at h2;subst h2;cases r2;exact SeqAt.RcAt.list_none p1.isList c_
   |bl b2=>
    unfold aV at h2;subst h2;cases r2;exact SeqAt.RcAt.list_bool b2 p1.isList c_
   |int b2=>
    unfold aV at h2;subst h2;obtain⟨t2,rfl⟩:=r2;exact SeqAt.RcAt.list_int b2 t2 p1.isList c_
   |str b2=>
    unfold aV at h2;subst h2;obtain⟨t2,rfl⟩:=r2;exact SeqAt.RcAt.list_str b2 t2 p1.isList c_
   |tup es=>
    unfold aV at h2;obtain⟨a2,xs2,rfl,cK,fA⟩:=h2;cases r2;obtain⟨its2,rv2,p2,jZ⟩:=I.tuple cK;exact SeqAt.RcAt.list_tuple p1.isList p2 c_
   |lst es=>
    unfold aV at h2;obtain⟨a2,xs2,rfl,cK,fA⟩:=h2;cases r2;obtain⟨its2,rv2,p2,jZ⟩:=I.list cK;have l1:its1.toArray.size=ds.length:=by rw[U_,←rv1.length,hr1.length]
    have l2:its2.toArray.size=es.length:=by rw[U_,←rv2.length,fA.length]
    have k1:xs1.length=ds.length:=hr1.length.symm;have k2:xs2.length=es.length:=fA.length.symm;have he:∀j (h1:j<its1.toArray.size) (h2:j<its2.toArray.size),XY A.in1 s its1.toArray[j] its2.toArray[j] (dM ds es j):=λj g1 g2=>by
     have q1:ds[j]? = some ds[j]:=U4 (by lia);have q2:es[j]? = some es[j]:=U4 (by lia);have e1:xs1[j]? = some xs1[j]:=U4 (by lia);have e2:xs2[j]? = some xs2[j]:=U4 (by lia);obtain⟨u1,z1,w1⟩:=rv1.get e1;obtain⟨u2,z2,w2⟩:=rv2.get e2;have y1:its1.toArray[j]=u1:=by
      obtain⟨_,q⟩:=Vg.mp z1;simpa using q
     have y2:its2.toArray[j]=u2:=by
      obtain⟨_,q⟩:=Vg.mp z2;simpa using q
     rw[y1,y2];have:dM ds es j=i5 ds[j] es[j]:=by unfold dM;rw[q1,q2]
     rw[this];have dl:=fL q1;unfold dJ at hd;exact qE I (n-1) ds[j] es[j] xs1[j] xs2[j] u1 u2 A.in1 (by lia) (by show A.units+1+(n-1)<W9;lia) (hr1.get q1 e1) (fA.get q2 e2) w1 w2
    unfold i5;by_cases hl:ds.length=es.length
    ·have q:=SeqAt.RcAt.lists (A:=A) p1.isList p2.isList (by rw[l1,l2,hl]) c_ he;rw[l1] at q;have z:=f9 ds es;rw[hl,Nat.min_self,beq_self_eq_true,Bool.and_true] at z;rw[hl,z] at q;exact q
    ·rw[qD hl];exact aax (A:=A) p1.isList p2.isList (by rw[l1,l2];simpa using hl) c_
theorem D3 (I:aI X pins σ H s)(n:Nat)(d1 d2:D)(x y:V)(u v:Va)(A:VR)(hd:dJ d1<=n)(hu:A.units+n<W9)(h1:aV X.K H d1 x)(h2:aV X.K H d2 y)(r1:bq x u)(r2:bq y v):SeqAt.RcNeAt A s u v (!i5 d1 d2):=by
  have c_:A.units<W9:=by lia
  cases d1 with
  |non=>
   unfold aV at h1;subst h1;cases r1;cases d2 with
   |non=>
    unfold aV at h2;subst h2;cases r2;exact SeqAt.RcNeAt.none_none
   |bl b2=>
    unfold aV at h2;subst h2;cases r2;exact SeqAt.RcNeAt.none_bool b2
   |int b2=>
    unfold aV at h2;subst h2;obtain⟨t2,rfl⟩:=r2;exact SeqAt.RcNeAt.none_int b2 t2
   |str b2=>
    unfold aV at h2;subst h2;obtain⟨t2,rfl⟩:=r2;exact SeqAt.RcNeAt.none_str b2 t2
   |tup es=>
    unfold aV at h2;obtain⟨a2,xs2,rfl,cK,fA⟩:=h2;cases r2;obtain⟨its2,rv2,p2,jZ⟩:=I.tuple cK;exact SeqAt.RcNeAt.none_tuple p2 c_
   |lst es=>
    unfold aV at h2;obtain⟨a2,xs2,rfl,cK,fA⟩:=h2;cases r2;obtain⟨its2,rv2,p2,jZ⟩:=I.list cK;exact SeqAt.RcNeAt.none_list p2.isList c_
  |bl b1=>
   unfold aV at h1;subst h1;cases r1;cases d2 with
   |non=>
    unfold aV at h2;subst h2;cases r2;exact SeqAt.RcNeAt.bool_none b1
   |bl b2=>
    unfold aV at h2;subst h2;cases r2;exact SeqAt.RcNeAt.bool_bool b1 b2
   |int b2=>
    unfold aV at h2;subst h2;obtain⟨t2,rfl⟩:=r2;exact SeqAt.RcNeAt.bool_int b1 b2 t2
   |str b2=>
    unfold aV at h2;subst h2;obtain⟨t2,rfl⟩:=r2;exact SeqAt.RcNeAt.bool_str b1 b2 t2
   |tup es=>
    unfold aV at h2;obtain⟨a2,xs2,rfl,cK,fA⟩:=h2;cases r2;obtain⟨its2,rv2,p2,jZ⟩:=I.tuple cK;exact SeqAt.RcNeAt.bool_tuple b1 p2 c_
   |lst es=>
    unfold aV at h2;obtain⟨a2,xs2,rfl,cK,fA⟩:=h2;cases r2;obtain⟨its2,rv2,p2,jZ⟩:=I.list cK;exact SeqAt.RcNeAt.bool_list b1 p2.isList c_
  |int b1=>
   unfold aV at h1;subst h1;obtain⟨t1,rfl⟩:=r1;cases d2 with
   |non=>
    unfold aV at h2;subst h2;cases r2;exact SeqAt.RcNeAt.int_none b1 t1
   |bl b2=>
    unfold aV at h2;subst h2;cases r2;exact SeqAt.RcNeAt.int_bool b1 t1 b2
   |int b2=>
    unfold aV at h2;subst h2;obtain⟨t2,rfl⟩:=r2;exact SeqAt.RcNeAt.int_int b1 t1 b2 t2
   |str b2=>
    unfold aV at h2;subst h2;obtain⟨t2,rfl⟩:=r2;exact SeqAt.RcNeAt.int_str b1 t1 b2 t2
   |tup es=>
    unfold aV at h2;obtain⟨a2,xs2,rfl,cK,fA⟩:=h2;cases r2;obtain⟨its2,rv2,p2,jZ⟩:=I.tuple cK;exact SeqAt.RcNeAt.int_tuple b1 t1 p2 c_
   |lst es=>
    unfold aV at h2;obtain⟨a2,xs2,rfl,cK,fA⟩:=h2;cases r2;obtain⟨its2,rv2,p2,jZ⟩:=I.list cK;exact SeqAt.RcNeAt.int_list b1 t1 p2.isList c_
  |str b1=>
   unfold aV at h1;subst h1;obtain⟨t1,rfl⟩:=r1;cases d2 with
   |non=>
    unfold aV at h2;subst h2;cases r2;exact SeqAt.RcNeAt.str_none b1 t1
   |bl b2=>
    unfold aV at h2;subst h2;cases r2;exact SeqAt.RcNeAt.str_bool b1 t1 b2
   |int b2=>
    unfold aV at h2;subst h2;obtain⟨t2,rfl⟩:=r2;exact SeqAt.RcNeAt.str_int b1 t1 b2 t2
   |str b2=>
    unfold aV at h2;subst h2;obtain⟨t2,rfl⟩:=r2;exact SeqAt.RcNeAt.str_str b1 t1 b2 t2
   |tup es=>
    unfold aV at h2;obtain⟨a2,xs2,rfl,cK,fA⟩:=h2;cases r2;obtain⟨its2,rv2,p2,jZ⟩:=I.tuple cK;exact SeqAt.RcNeAt.str_tuple b1 t1 p2 c_
   |lst es=>
    unfold aV at h2;obtain⟨a2,xs2,rfl,cK,fA⟩:=h2;cases r2;obtain⟨its2,rv2,p2,jZ⟩:=I.list cK;exact SeqAt.RcNeAt.str_list b1 t1 p2.isList c_
  |tup ds=>
   unfold aV at h1;obtain⟨a1,xs1,rfl,hs1,hr1⟩:=h1;cases r1;obtain⟨its1,rv1,p1,hz1⟩:=I.tuple hs1;cases d2 with
   |non=>
    unfold aV at h2;subst h2;cases r2;exact SeqAt.RcNeAt.tuple_none p1 c_
   |bl b2=>
    unfold aV at h2;subst h2;cases r2;exact SeqAt.RcNeAt.tuple_bool b2 p1 c_
   |int b2=>
    unfold aV at h2;subst h2;obtain⟨t2,rfl⟩:=r2;exact SeqAt.RcNeAt.tuple_int b2 t2 p1 c_
   |str b2=>
    unfold aV at h2;subst h2;obtain⟨t2,rfl⟩:=r2;exact SeqAt.RcNeAt.tuple_str b2 t2 p1 c_
   |tup es=>
    unfold aV at h2;obtain⟨a2,xs2,rfl,cK,fA⟩:=h2;cases r2;obtain⟨its2,rv2,p2,jZ⟩:=I.tuple cK;have l1:its1.toArray.size=ds.length:=by rw[U_,←rv1.length,hr1.length]
    have l2:its2.toArray.size=es.length:=by rw[U_,←rv2.length,fA.length]
    have k1:xs1.length=ds.length:=hr1.length.symm;have k2:xs2.length=es.length:=fA.length.symm;have he:∀j (h1:j<its1.toArray.size) (h2:j<its2.toArray.size),XY A.in1 s its1.toArray[j] its2.toArray[j] (dM ds es j):=λj g1 g2=>by
     have q1:ds[j]? = some ds[j]:=U4 (by lia);have q2:es[j]? = some es[j]:=U4 (by lia);have e1:xs1[j]? = some xs1[j]:=U4 (by lia);have e2:xs2[j]? = some xs2[j]:=U4 (by lia);obtain⟨u1,z1,w1⟩:=rv1.get e1;obtain⟨u2,z2,w2⟩:=rv2.get e2;have y1:its1.toArray[j]=u1:=by
      obtain⟨_,q⟩:=Vg.mp z1;simpa using q
     have y2:its2.toArray[j]=u2:=by
      obtain⟨_,q⟩:=Vg.mp z2;simpa using q
     rw[y1,y2];have:dM ds es j=i5 ds[j] es[j]:=by unfold dM;rw[q1,q2]
     rw[this];have dl:=fL q1;unfold dJ at hd;exact qE I (n-1) ds[j] es[j] xs1[j] xs2[j] u1 u2 A.in1 (by lia) (by show A.units+1+(n-1)<W9;lia) (hr1.get q1 e1) (fA.get q2 e2) w1 w2
    have q:=SeqAt.RcNeAt.tuples (A:=A) p1 p2 c_ he;rw[l1,l2,f9] at q;unfold i5;exact q
   |lst es=>
    unfold aV at h2;obtain⟨a2,xs2,rfl,cK,fA⟩:=h2;cases r2;obtain⟨its2,rv2,p2,jZ⟩:=I.list cK;exact SeqAt.RcNeAt.tuple_list p1 p2.isList c_
  |lst ds=>
   unfold aV at h1;obtain⟨a1,xs1,rfl,hs1,hr1⟩:=h1;cases r1;obtain⟨its1,rv1,p1,hz1⟩:=I.list hs1;cases d2 with
   |non=>
    unfold aV at h2;subst h2;cases r2;exact SeqAt.RcNeAt.list_none p1.isList c_
   |bl b2=>
    unfold aV at h2;subst h2;cases r2;exact SeqAt.RcNeAt.list_bool b2 p1.isList c_
   |int b2=>
    unfold aV at h2;subst h2;obtain⟨t2,rfl⟩:=r2;exact SeqAt.RcNeAt.list_int b2 t2 p1.isList c_
   |str b2=>
    unfold aV at h2;subst h2;obtain⟨t2,rfl⟩:=r2;exact SeqAt.RcNeAt.list_str b2 t2 p1.isList c_
   |tup es=>
    unfold aV at h2;obtain⟨a2,xs2,rfl,cK,fA⟩:=h2;cases r2;obtain⟨its2,rv2,p2,jZ⟩:=I.tuple cK;exact SeqAt.RcNeAt.list_tuple p1.isList p2 c_
   |lst es=>
    unfold aV at h2;obtain⟨a2,xs2,rfl,cK,fA⟩:=h2;cases r2;obtain⟨its2,rv2,p2,jZ⟩:=I.list cK;have l1:its1.toArray.size=ds.length:=by rw[U_,←rv1.length,hr1.length]
    have l2:its2.toArray.size=es.length:=by rw[U_,←rv2.length,fA.length]
    have k1:xs1.length=ds.length:=hr1.length.symm;have k2:xs2.length=es.length:=fA.length.symm;have he:∀j (h1:j<its1.toArray.size) (h2:j<its2.toArray.size),XY A.in1 s its1.toArray[j] its2.toArray[j] (dM ds es j):=λj g1 g2=>by
     have q1:ds[j]? = some ds[j]:=U4 (by lia);have q2:es[j]? = some es[j]:=U4 (by lia);have e1:xs1[j]? = some xs1[j]:=U4 (by lia);have e2:xs2[j]? = some xs2[j]:=U4 (by lia);obtain⟨u1,z1,w1⟩:=rv1.get e1;obtain⟨u2,z2,w2⟩:=rv2.get e2;have y1:its1.toArray[j]=u1:=by
      obtain⟨_,q⟩:=Vg.mp z1;simpa using q
     have y2:its2.toArray[j]=u2:=by
      obtain⟨_,q⟩:=Vg.mp z2;simpa using q
     rw[y1,y2];have:dM ds es j=i5 ds[j] es[j]:=by unfold dM;rw[q1,q2]
     rw[this];have dl:=fL q1;unfold dJ at hd;exact qE I (n-1) ds[j] es[j] xs1[j] xs2[j] u1 u2 A.in1 (by lia) (by show A.units+1+(n-1)<W9;lia) (hr1.get q1 e1) (fA.get q2 e2) w1 w2
    unfold i5;by_cases hl:ds.length=es.length
    ·have q:=SeqAt.RcNeAt.lists (A:=A) p1.isList p2.isList (by rw[l1,l2,hl]) c_ he;rw[l1] at q;have z:=f9 ds es;rw[hl,Nat.min_self,beq_self_eq_true,Bool.and_true] at z;rw[hl,z] at q;exact q
    ·rw[qD hl];exact SeqAt.RcNeAt.lists_lengths (A:=A) p1.isList p2.isList (by rw[l1,l2];simpa using hl) c_
def La (K:U7)(f:Bool->Bool):R2:=λx y H Q=>∃d1 d2,aV K H d1 x/\aV K H d2 y/\dJ d1<=30/\Q (.bl (f (i5 d1 d2))) H
theorem cF (hu:X.A.units+64<W9):jJ X (WO .Eq) (La X.K id):=by
 intro pins s σ H x y v u Q I rx ry h;obtain⟨d1,d2,h1,h2,hd,q⟩:=h;exact K_ I 30 d1 d2 x y v u X.A hd (by lia) h1 h2 rx ry X.prog X.w X.xe _ ⟨.bl _,H,I,rfl,q⟩
theorem fM (hu:X.A.units+64<W9):jJ X (WO .NotEq) (La X.K not):=by
 intro pins s σ H x y v u Q I rx ry h;obtain⟨d1,d2,h1,h2,hd,q⟩:=h;exact D3 I 30 d1 d2 x y v u X.A hd (by lia) h1 h2 rx ry X.prog X.w X.xe _ ⟨.bl _,H,I,rfl,q⟩
end L2
namespace L2
noncomputable def iU (n m:String):Bool:=(n==m)||(n=="bool"&&m=="int")
inductive Hh (K:U7)(H:Hp):V->String->Prop where
 |non:Hh K H .non "NoneType"
 |bl (x:Bool):Hh K H (.bl x) "bool"
 |int (i:Int):Hh K H (.int i) "int"
 |str (x:Str):Hh K H (.str x) "str"
 |lst {a:Vr} {xs:List V} (e:H a=some (.lst xs)):Hh K H (.ref a) "list"
 |frz {a:Vr} {o:Obj} {xs:List V} (e:H a=some (.frz o (.lst xs))):Hh K H (.ref a) "list"
 |tup {a:Vr} {xs:List V} (e:H a=some (.tup xs)):Hh K H (.ref a) "tuple"
 |dK {a:Vr} {cn:List (jI×V)} (e:H a=some (.dK cn)):Hh K H (.ref a) "dict"
 |dT {a:Vr} {cn:List (List jI×V)} (e:H a=some (.dT cn)):Hh K H (.ref a) "dict"
theorem xk:eH X (.type "range") (λxs H Q=>∃j,xs=[.int j]/\∀p,H p=none->Q (.ref p) (cQ H p (.rng 0 j))):=by
 intro pins s σ H xs us Q I r h;obtain⟨j,rfl,q⟩:=h;obtain⟨u,rfl,rx⟩:=ig r;obtain⟨t,rfl⟩:=rx;refine call_range_1 ⟨.ref s.heap.objs.size,cQ H s.heap.objs.size (.rng 0 j),I.laid (λb u e=>U5 _ e) (Vh _) ?_,rfl,q _ (I.hok.fresh (Vh _))⟩;exact⟨_,_,_,Vj _ rfl⟩
theorem ze {a:Int}{cv:Array Va}(h:ItemsOf (λi v=>∃t,v=Value.int (a+i*1) t) cv n):a_ ((VN n).map λi=>V.int (a+(i:Nat))) cv.toList:=by
 obtain⟨hs,hi⟩:=h;have gen:∀(l:List Va) (k:Nat),(∀(i:Nat) v,l[i]? = some v->∃t,v=Value.int (a+((k+i:Nat):Int)*1) t)->a_ ((List.range' k l.length).map λi=>V.int (a+(i:Nat))) l:=by
  intro l
  induction l with
  |nil=>intro k _;exact .nil
  |cons v r ih=>
   intro k hk;rw[Vi,List.range'_succ,Vp];refine .cons ?_ (ih (k+1) λi v e=>?_)
   ·obtain⟨t,e⟩:=hk 0 v rfl;exact⟨t,by rw[e];simp⟩
   ·obtain⟨t,e'⟩:=hk (i+1) v (by simpa using e);refine⟨t,?_⟩;rw[e',show k+(i+1)=k+1+i by lia]
 have q:=gen cv.toList 0 (λi v e=>by
  obtain⟨t,e'⟩:=hi i v (by simpa using e);exact⟨t,by rw[e',XB]⟩)
 rw[U9,hs] at q;rw[List.range_eq_range'];exact q
theorem tL (hc:X.calm=true):eH X (.type "list") (λxs H Q=>∃p lo hi,xs=[.ref p]/\H p=some (.rng lo hi)/\(-(2 ^ 62)<=lo/\lo<2 ^ 62/\ -(2 ^ 62)<=hi/\hi<2 ^ 62)/\(hi-lo).toNat<=2 ^ 20/\
  ∀l,H l=none->Q (.ref l) (cQ H l (.lst ((VN (hi-lo).toNat).map λi=>V.int (lo+(i:Nat)))))):=by
 intro pins s σ H xs us Q I r h;obtain⟨p,lo,hi,rfl,hp,⟨h1,h2,h3,h4⟩,hz,q⟩:=h;obtain⟨u,rfl,rx⟩:=ig r;cases rx;obtain⟨t,u,v,e⟩:=I.hok p _ hp;refine call_list_range (n:=(hi-lo).toNat) (I.ok.hd hc) (c:=1) (show IsRange s.heap p lo hi 1 t u v from e) (small_one h1 h2 h3 h4) (by rw[rangeSize_one];split<;>lia) (by lia) λh' tk RM c' hk Km Gs=>?_;have hl:((VN (hi-lo).toNat).map λi=>V.int (lo+(i:Nat))).length<=Vf:=by
  rw[Vd,WC,W8];lia
 refine⟨.ref s.heap.objs.size,_,I.laid hk (Vh _) (show dG X.prog X.w _ _ _ (.lst _) from ⟨hl,RM.toList,c',ze Gs,by simpa using Km⟩),rfl,q _ (I.hok.fresh (Vh _))⟩
def D4 (i j:Int):Prop:=0<j/\j<18446744073709551616
theorem zf (h:n<18446744073709551616):n.log2<9000:=by
 by_cases h0:n=0
 ·subst h0;decide
 ·have:=(Nat.log2_lt h0 (k:=64)).mpr (by lia);lia
theorem gW:jJ X (Yu .FloorDiv) (rI D4 λi j=>.int (i / j)):=Py λi j _ _ _ _ _ hc q=>by
 refine floordiv_int (by have:=hc.1;lia) ?_ (.inl (PyProof.noPylong_of_log2 (zf (by have:=hc.1;have:=hc.2;lia))));rw[Int.fdiv_eq_ediv_of_nonneg _ (by have:=hc.1;lia)];exact q
theorem Hi:We "list"=some (.type "list"):=by decide+kernel
theorem jg:We "tuple"=some (.type "tuple"):=by decide+kernel
theorem D5:We "range"=some (.type "range"):=by decide+kernel
theorem df:We "len"=some (.builtin "len"):=by decide+kernel
theorem D6:We "max"=some (.builtin "max"):=by decide+kernel
theorem D7:We "min"=some (.builtin "min"):=by decide+kernel
theorem D8:We "abs"=some (.builtin "abs"):=by decide+kernel
theorem jh:We "sorted"=some (.builtin "sorted"):=by decide+kernel
theorem Lb:We "sum"=some (.builtin "sum"):=by decide+kernel
end L2
namespace HT
open L2
section
variable {A:VR}
theorem getItem_tuple_whole {t sl:Vr}{vl vu:Va}{lo:Option Int}(ht:IsTup s.heap t items)(hs:s.heap.IsSliceOf sl vl vu .none)(pl:IsPart vl lo)(pu:IsPart vu hi)(hw:sIx items.size 0 lo=0/\sIx items.size items.size hi=items.size)(h:Q (.ref t) s):Vs (VE prog w) A (ZQ (.ref t) (.ref sl)) Q E s:=by
 obtain⟨os,hos,hcs,hds⟩:=id hs;have Rz:s.TypeIs (.ref sl) "slice":=⟨os,hos,hcs⟩;unfold ZQ
 try with_reducible refine WA ?_
 first|refine U3 (U6 ?_)|skip
 refine U3 (wpAny_sequenceKey ht.typeIs (by decide) ?_);refine U3 (V1 (name:=Xf "__getitem__") ht.typeIs W_
  (VY W_ ht.typeIs entry_tuple_getitem ?_ (args_tuple_getitem _ _)))
 show Vs _ _ (YA (.ref t) >>= _) _ _ s;refine U3 (tupleItemsOf_ ht ?_);refine U3 (aab Rz ?_);rw[hV (by decide)];refine U3 (jf hs pl pu ?_);obtain⟨w1,w2⟩:=hw;rw[w1,w2];show Vs _ _ (if (((0:Nat):Int)==0&&(1:Int)==1&&(items.size-0)==items.size)=true then _ else _) _ _ s;rw[hV (by simp)];have GK:Vs (VE prog w) A.in1 (Z0 (.ref t)) (λb s'=>b=true/\s'=s) E s:=by
  unfold Z0;exact U3 (aab ht.typeIs (U6 ⟨by decide,rfl⟩))
 refine U3 (Wm GK (λb s' hb=>?_) λ_ _ e=>e);obtain⟨rfl,rfl⟩:=hb;rw[hV rfl];exact U3 (Xq (U6 ⟨_,rfl,U6 h⟩))
end
end HT
namespace L2
theorem qF (h:H p=none)(o:HO):aT H (cQ H p o):=λb u q=>by rw[bg (bM q h)];exact q
end L2
namespace HT
open L2
end HT
namespace L2
def xl:V->List V->Hp->VK->Prop:=λx vs H Q=>∃l b xs zs,x=.ref l/\vs=[.ref b]/\H l=some (.lst xs)/\H b=some (.tup zs)/\xs.length+zs.length<=Vf/\Q .non (cQ H l (.lst (xs++zs)))
theorem zg:QB X "list.extend" xl:=by
 intro pins s σ H x vs v us Q I rx rv h;obtain⟨l,b,xs,zs,rfl,rfl,hH,hB,hz,q⟩:=h;cases rx;obtain⟨u,rfl,ru⟩:=rv.one;cases ru;obtain⟨z,its,n,r,hl,e⟩:=I.lstM hH;obtain⟨z2,its2,r2,_,n2,e2⟩:=I.hok b _ hB;have Mx:=r2.length;have hsz:its.toArray.size+its2.toArray.size<=Vf:=by rw[U_,U_];lia
 have Gw:¬(!its.toArray.isEmpty&&X0 (its.toArray.size+its2.toArray.size))=true:=by
  rw[qw hsz,Zu];exact Vb
 refine aau F.slot_list_extend ⟨_,e,rfl⟩ F.entry_list_extend (F.args_list_extend_2 _ _)
  (AutoSeq1.list_extend_list_tuple_0 l its.toArray n b its2.toArray n2 Gw (by rw[U_];lia) (by lia)) ⟨e,e2,?_⟩
 refine⟨.non,_,I.lset (its':=its++its2) hH e (by simp) (r.append r2) ?_,rfl,q⟩;rw[Ve];lia
theorem vt:eH X (.builtin "sorted") (λxs H Q=>∃(p:Vr) (ns:List Int),xs=[.ref p]/\(fH X.K H p (ns.map V.int)\/fK X.K H p (ns.map V.int))/\ns.length<64/\
  ∀(l:Vr) (ox:List Int),H l=none->ox.Perm ns->ox.Pairwise (·<=·)->Q (.ref l) (cQ H l (.lst (ox.map V.int)))):=by
 intro pins s σ H xs us Q I r h;obtain⟨p,ns,rfl,hq,h64,q⟩:=h;obtain⟨u,rfl,rx⟩:=ig r;cases rx;have Di:∃(T:String) (o:Obj) (its:List Va) (n:Nat),(T="list"\/T="tuple")/\s.heap.get? p=some o/\o.cls=.type T/\o.data=.seq its.toArray n/\Xh its ns:=by
  rcases hq with hq|hq
  ·obtain⟨its,rv,pl,hz⟩:=I.list hq;obtain⟨o,e,c,n,d⟩:=pl.isList;exact⟨"list",o,its,n,.inl rfl,e,c,d,de rv⟩
  ·obtain⟨its,rv,pl,hz⟩:=I.tuple hq;obtain⟨o,e,c,n,d⟩:=pl;exact⟨"tuple",o,its,n,.inr rfl,e,c,d,de rv⟩
 obtain⟨T,o,its,n,hT,ho,hc,hd,hI⟩:=Di;have cZ:its.length=ns.length:=hI.length;refine aal kind_sorted plain_sorted entry_sorted (args_sorted1 _) ?_;unfold Builtin.«sorted»;refine U3 (m:=checkCount "sorted" 1 1 _) (U6 ?_);refine U3 (Yx p hT ho hc hd (λh1 k1=>?_) (by rw[U_,W8];lia));refine U3 (wpAny_newList ?_);have My:(h1.push (aad "list" its.toArray 0)).get? h1.objs.size=some (aad "list" its.toArray 0):=Vj _ rfl;have Mz:(h1.push {cls:=.type "list",data:=.seq (its.toArray.toList).toArray}).get? h1.objs.size=some (aad "list" its.toArray 0):=by simpa using My
 refine U3 (WA (VY slot_list_sort ⟨_,Mz,rfl⟩ entry_list_sort (list_sort_tree Mz hI (by lia) λout ox a1 a2 a3=>⟨_,rfl,?_⟩) (args_list_sort _)));refine U6 ⟨_,rfl,?_⟩;obtain⟨e,he⟩:=sortedHeap_at (out:=out) Mz;have keep:∀b o,h1.get? b=some o->(sortedHeap (h1.push {cls:=.type "list",data:=.seq (its.toArray.toList).toArray}) h1.objs.size its out).get? b=some o:=λb o e=>by
  have hb:=Vl e;rw[sortedHeap_old (VB hb) (by rw[Wo];exact Xa hb)];exact U5 _ e
 have I1:aI X pins σ H {s with heap:=h1}:=I.kept (t':=s.toks) k1;have Mx:(ox.map V.int).length<=Vf:=by rw[Vd,a2.length_eq,W8];lia
 exact⟨.ref h1.objs.size,_,I1.laid (t':=s.toks) keep (Vh _) (show dG X.prog X.w _ _ _ (.lst _) from ⟨Mx,out.toList,e,nC a1,by simpa using he⟩),rfl,q _ ox (I1.hok.fresh (Vh _)) a2 a3⟩
def D9 (K:U7):V->Option Int->Option Int->Hp->VK->Prop:=λx lo hi H Q=>∃a xs,x=.ref a/\H a=some (.tup xs)/\∀r H',aT H H'->H' r=some (.tup (qv xs lo hi))->Q (.ref r) H'
theorem Hj:DL X (D9 X.K):=by
 have base:DL X (Nm X.K):=K2;intro pins s σ H x v vl vu lo hi sl Q I rx hs pl pu h;obtain⟨a,xs,rfl,tw,q⟩:=h;have hx:fK X.K H a xs:=fK.of tw;by_cases hw:HT.sIx xs.length 0 lo=0/\HT.sIx xs.length xs.length hi=xs.length
 ·cases rx;obtain⟨its,r,ht,hz⟩:=I.tuple hx;have hl:its.toArray.size=xs.length:=by rw[U_,r.length]
  refine⟨"tuple",_,PyProof.Rows.slot_tuple_getitem.lookup,ht.typeIs,HT.getItem_tuple_whole ht hs pl pu (by rw[hl];exact hw) ⟨.ref a,H,I,rfl,q a H (aT.refl _) ?_⟩⟩;have e:qv xs lo hi=xs:=by unfold qv;rw[hw.1,hw.2];simp
  rw[e];exact tw
 ·exact base pins s σ H _ v vl vu lo hi sl Q I rx hs pl pu ⟨a,xs,rfl,hx,hw,λp hp=>q p _ (qF hp _) bI⟩
def D_:R2:=λx y H Q=>∃a b xs ys,x=.ref a/\y=.ref b/\H a=some (.tup xs)/\H b=some (.tup ys)/\xs.length+ys.length<=Vf/\∀r H',aT H H'->H' r=some (.tup (xs++ys))->Q (.ref r) H'
theorem Ea:jJ X (Yu .Add) D_:=by
 intro pins s σ H x y v u Q I rx ry h;obtain⟨a,b,xs,ys,rfl,rfl,Au,s9,hz,q⟩:=h;have ha:fK X.K H a xs:=fK.of Au;have hb:fK X.K H b ys:=fK.of s9;by_cases hx:xs=[]
 ·subst hx;cases rx;cases ry;obtain⟨its,r1,p1,_⟩:=I.tuple ha;obtain⟨its2,r2,p2,_⟩:=I.tuple hb;have e1:its=[]:=(a_.nil_iff r1).mpr rfl;subst e1;obtain⟨⟨cls,dd,data,sl⟩,ho,hc,n,hd⟩:=id p1;obtain⟨⟨cls2,Ki,data2,Kj⟩,ho2,hc2,n2,Av⟩:=id p2;simp only at hc hd hc2 Av;subst hc hd hc2 Av;exact concat_meets ⟨_,ho,rfl⟩ ⟨_,ho2,rfl⟩ noFill_tuple_add seq_tuple_add Zg Y4 (YW _ _)
   (tuple_addW0 a b ([]:List Va).toArray its2.toArray n n2 dd Ki sl Kj (by simp)) ⟨ho,ho2,⟨.ref b,H,I,rfl,q b H (aT.refl _) (by simpa using s9)⟩⟩
 ·refine G9 pins s σ H _ _ v u Q I rx ry ⟨a,b,xs,ys,rfl,rfl,ha,hb,hx,hz,λe=>?_,λ_ p hp=>q p _ (qF hp _) bI⟩;subst e;exact q a H (aT.refl _) (by simpa using Au)
end L2
namespace L2
structure Fn (P:XJ)(w:Ya)(K:U7)(mg:Str->Option Va)(base:XI)(x:Str)(k:Nat)(ps:List Str)(sp:Sp):Prop where
 ex:∃(f:Vr) (fd:ZF),mg x=some (.ref f)/\Yc K (.ref f)=true/\ui K fd ps []/\k7 P w K mg base xc k f fd ps sp
structure Df (K:U7)(mg:Str->Option Va)(x:Str)(st:Zf):Prop where
 ex:∃(f:Vr) (fd:ZF),mg x=some (.ref f)/\GG K x x st f fd
section
variable {base:XI}
theorem Df.fn (d:Df K mg x st)(S:aS N ps (aq st))(hb:∀(kV nv pm:Va) (an:Option Vr) (cP ct:Va) (us:List Va),us.length=ps.length->bindArgs (WY x x (fi st) (cb st) (aq st) .none kV nv pm an cP ct) ⟨us,[]⟩=pure (ps.zip us))(len:∀vs H Q E,sp vs H Q E->vs.length=ps.length)(iJ:∀(f:Vr) (cP:Va) (A:VR) (outer:List Env) (s:Vo) (H:Hp) (vs:List V) (Q:VK) (E:XK),fh k (A.deeper (Z_ x (aq st) s.heap.objs.size f cP))->sp vs H Q E->
   ∃t,tG (pD xc P w K mg base N x (aq st) f cP A outer s H E).nox (cb st) t/\t {nx:=λ_ H'=>Q .non H',rt:=Q} (Y1 N vs) H):Fn P w K mg base x (k+1) ps sp:=by
 obtain⟨f,fd,m,F⟩:=d.ex;exact⟨f,fd,m,F.kp,F.binds hb,F.ok S len (iJ f)⟩
end
section
variable {p:Pos}{e:W5}{es:List W5}{t:TA}
theorem xm (F:Fn X.prog X.w X.K X.mg X.base x k ps sp)(hr:fh k X.A)(ha:PA X (e::es) t)(hg:Gl X x:=by rfl)(Aq:(x==("__debug__":Str))=false:=by decide)
  (he:Vx (e::es) X.env=(false,YD e X.env)::Vx es X.env:=by rfl) (tE:(XR pos (Vx es X.env)).any (·.1)=false:=by rfl) :
  PE X (.Call (.Name x p) (e::es) [] pos) (IT sp [] E0 t):=by
 obtain⟨f,fd,hm,hk,hb,G⟩:=F.ex;exact G5 G hr hg hm hk hb .nil Nv ha Aq he tE
end
theorem aT.seqT (e:aT H H')(h:fK K H a xs):fK K H' a xs:=by
 rcases h with (h|⟨o,h⟩)|h
 ·exact .inl (.inl (e _ _ h))
 ·exact .inl (.inr ⟨o,e _ _ h⟩)
 ·exact .inr h
mutual
theorem aT.rep {K:U7}{H H':Hp}(e:aT H H'):∀{d:D} {v:V},aV K H d v->aV K H' d v
 | .non,v,h=>by unfold aV at h ⊢;exact h
 | .bl b,v,h=>by unfold aV at h ⊢;exact h
 | .int b,v,h=>by unfold aV at h ⊢;exact h
 | .str b,v,h=>by unfold aV at h ⊢;exact h
 | .tup ds,v,h=>by
  unfold aV at h ⊢;obtain⟨a,xs,r,q,z⟩:=h;exact⟨a,xs,r,e.seqT q,aT.reps e z⟩
 | .lst ds,v,h=>by
  unfold aV at h ⊢;obtain⟨a,xs,r,q,z⟩:=h;exact⟨a,xs,r,e.seq q,aT.reps e z⟩
theorem aT.reps {K:U7}{H H':Hp}(e:aT H H'):∀{ds:List D} {vs:List V},fI K H ds vs->fI K H' ds vs
 | [],vs,h=>by unfold fI at h ⊢;exact h
 |d::ds,vs,h=>by
  unfold fI at h ⊢;obtain⟨x,r,q,p,z⟩:=h;exact⟨x,r,q,aT.rep e p,aT.reps e z⟩
end
end L2
namespace L2
inductive U where
 |non|bl (b:Bool)|int (i:Int)|str (x:Str)|tup (xs:List U)|lst (xs:List U)|dct (ks vs:List U)|scr (xs:List U)
instance:Inhabited U:=⟨.non⟩
inductive R (α:Type) where
 |ok (a:α)|exc (c:String) (u:U)|stk
noncomputable def R.bind {α β:Type}:R α->(α->R β)->R β
 | .ok a,f=>f a
 | .exc c u,_=>.exc c u
 | .stk,_=>.stk
noncomputable abbrev Ev:=List (Option U)
inductive SR where
 |nx (ρ:Ev)|rt (u:U) (ρ:Ev)|bk (ρ:Ev)|ct (ρ:Ev)|exc (c:String) (u:U)|stk
end L2
variable {us ks:List L2.U}{u u' row:L2.U}{es:List (List L2.U×Vr×L2.V)}{ρ:L2.Ev}{sg:L2.U->L2.Ev->L2.R L2.Ev}{F:L2.U->L2.U}{y3 y5 y6 y0 y4:Option L2.U}
namespace L2
open Sem (wp)
mutual
noncomputable def uv:U->U->Bool
 | .non,.non=>true
 | .bl a,.bl b=>decide (a=b)
 | .int a,.int b=>decide (a=b)
 | .str a,.str b=>decide (a=b)
 | .tup a,.tup b=>nE a b
 | .lst a,.lst b=>nE a b
 | .dct a b,.dct c d=>nE a c&&nE b d
 | .scr a,.scr b=>nE a b
 |_,_=>false
noncomputable def nE:List U->List U->Bool
 | [],[]=>true
 |x::xs,y::ys=>uv x y&&nE xs ys
 |_,_=>false
end
mutual
theorem zh:∀{a b:U},uv a b=true->a=b
 | .non,b,h=>by cases b<;>first|rfl|(unfold uv at h;cases h)
 | .bl a,b,h=>by cases b<;>unfold uv at h<;>first|(cases h;done)|rw[of_decide_eq_true h]
 | .int a,b,h=>by cases b<;>unfold uv at h<;>first|(cases h;done)|rw[of_decide_eq_true h]
 | .str a,b,h=>by cases b<;>unfold uv at h<;>first|(cases h;done)|rw[of_decide_eq_true h]
 | .tup a,b,h=>by cases b<;>unfold uv at h<;>first|(cases h;done)|rw[kI h]
 | .lst a,b,h=>by cases b<;>unfold uv at h<;>first|(cases h;done)|rw[kI h]
 | .scr a,b,h=>by cases b<;>unfold uv at h<;>first|(cases h;done)|rw[kI h]
 | .dct a c,b,h=>by
  cases b<;>unfold uv at h<;>first|(cases h;done)|skip
  rw[Vw] at h;rw[kI h.1,kI h.2]
theorem kI:∀{a b:List U},nE a b=true->a=b
 | [],[],_=>rfl
 | [],_::_,h=>by unfold nE at h;cases h
 |_::_,[],h=>by unfold nE at h;cases h
 |x::xs,y::ys,h=>by
  unfold nE at h;rw[Vw] at h;rw[zh h.1,kI h.2]
end
mutual
theorem xn:∀(a:U),uv a a=true
 | .non=>rfl
 | .bl a=>by unfold uv;exact hG rfl
 | .int a=>by unfold uv;exact hG rfl
 | .str a=>by unfold uv;exact hG rfl
 | .tup a=>by unfold uv;exact gX a
 | .lst a=>by unfold uv;exact gX a
 | .scr a=>by unfold uv;exact gX a
 | .dct a b=>by unfold uv;rw[gX a,gX b];rfl
theorem gX:∀(a:List U),nE a a=true
 | []=>by unfold nE;rfl
 |x::xs=>by unfold nE;rw[xn x,gX xs];rfl
end
noncomputable instance Tj:DecidableEq U:=λa b=>if h:uv a b=true then .isTrue (zh h) else .isFalse λe=>h (by rw[e];exact xn b)
mutual
def gb (h:XI):U->Va->Prop
 | .int i,v=>∃t,v=.int i t
 | .tup us,v=>∃a items,v=.ref a/\h.IsTuple a items/\dg h us items.toList
 |_,_=>False
def dg (h:XI):List U->List Va->Prop
 | [],vs=>vs=[]
 |u::us,vs=>∃v r,vs=v::r/\gb h u v/\dg h us r
end
mutual
noncomputable def hK:U->Int
 | .int i=>hashInt i
 | .tup us=>reduceHash (WG (wW us))
 |_=>0
noncomputable def wW:List U->List Int
 | []=>[]
 |u::us=>hK u::wW us
end
mutual
noncomputable def Dd:U->Nat
 | .tup us=>nF us+1
 |_=>1
noncomputable def nF:List U->Nat
 | []=>0
 |u::us=>Dd u+nF us
end
mutual
noncomputable def xo:U->Nat
 | .tup us=>qG us+1
 |_=>0
noncomputable def qG:List U->Nat
 | []=>0
 |u::us=>max (xo u) (qG us)
end
theorem zi {x y:Array Va}(h1:h.IsTuple a x)(h2:h.IsTuple a y):x=y:=by
 obtain⟨o,e,_,n,d⟩:=h1;obtain⟨o',e',_,n',d'⟩:=h2;rw[e] at e';cases e';rw[d] at d';cases d';rfl
mutual
theorem gb.inj {h:XI}:∀{x y:U} {v:Va},gb h x v->gb h y v->x=y
 | .int i,y,v,h1,h2=>by
  unfold gb at h1;obtain⟨t,rfl⟩:=h1;cases y<;>unfold gb at h2<;>first|exact h2.elim|skip
  ·obtain⟨u,e⟩:=h2;cases e;rfl
  ·obtain⟨_,_,e,_⟩:=h2;cases e
 | .str i,y,v,h1,h2=>by unfold gb at h1;exact h1.elim
 | .tup us,y,v,h1,h2=>by
  unfold gb at h1;obtain⟨a,its,rfl,q,z⟩:=h1;cases y<;>unfold gb at h2<;>first|exact h2.elim|skip
  ·obtain⟨u,e⟩:=h2;cases e
  ·obtain⟨a',its',e,q',z'⟩:=h2;cases e;have:=zi q q';subst this;rw[dg.inj z z']
 | .non,y,v,h1,h2=>by unfold gb at h1;exact h1.elim
 | .bl _,y,v,h1,h2=>by unfold gb at h1;exact h1.elim
 | .lst _,y,v,h1,h2=>by unfold gb at h1;exact h1.elim
 | .dct _ _,y,v,h1,h2=>by unfold gb at h1;exact h1.elim
 | .scr _,y,v,h1,h2=>by unfold gb at h1;exact h1.elim
theorem dg.inj {h:XI}:∀{x y:List U} {vs:List Va},dg h x vs->dg h y vs->x=y
 | [],y,vs,h1,h2=>by
  unfold dg at h1;subst h1;cases y with
  |nil=>rfl
  |cons=>unfold dg at h2;obtain⟨_,_,e,_⟩:=h2;cases e
 |u::us,y,vs,h1,h2=>by
  unfold dg at h1;obtain⟨v,r,rfl,p,q⟩:=h1;cases y with
  |nil=>unfold dg at h2;cases h2
  |cons=>
   unfold dg at h2;obtain⟨v',r',e,p',q'⟩:=h2;cases e;rw[gb.inj p p',dg.inj q q']
end
mutual
theorem gb.keep {h h':XI}(k:∀a its,h.IsTuple a its->h'.IsTuple a its):∀{x:U} {v:Va},gb h x v->gb h' x v
 | .int i,v,h1=>by unfold gb at h1 ⊢;exact h1
 | .str i,v,h1=>by unfold gb at h1;exact h1.elim
 | .tup us,v,h1=>by
  unfold gb at h1 ⊢;obtain⟨a,its,e,q,z⟩:=h1;exact⟨a,its,e,k a its q,dg.keep k z⟩
 | .non,v,h1=>by unfold gb at h1;exact h1.elim
 | .bl _,v,h1=>by unfold gb at h1;exact h1.elim
 | .lst _,v,h1=>by unfold gb at h1;exact h1.elim
 | .dct _ _,v,h1=>by unfold gb at h1;exact h1.elim
 | .scr _,v,h1=>by unfold gb at h1;exact h1.elim
theorem dg.keep {h h':XI}(k:∀a its,h.IsTuple a its->h'.IsTuple a its):∀{x:List U} {vs:List Va},dg h x vs->dg h' x vs
 | [],vs,h1=>by unfold dg at h1 ⊢;exact h1
 |u::us,vs,h1=>by
  unfold dg at h1 ⊢;obtain⟨v,r,e,p,q⟩:=h1;exact⟨v,r,e,gb.keep k p,dg.keep k q⟩
end
theorem dg.length {h:XI}:∀{us:List U} {vs:List Va},dg h us vs->us.length=vs.length
 | [],vs,h1=>by unfold dg at h1;subst h1;rfl
 |u::us,vs,h1=>by
  unfold dg at h1;obtain⟨v,r,rfl,p,q⟩:=h1;rw[Vi,Vi,dg.length q]
theorem dg.get {h:XI}:∀{us:List U} {vs:List Va} {i:Nat} {u:U} {v:Va},dg h us vs->us[i]? = some u->vs[i]? = some v->gb h u v
 | [],_,_,_,_,_,e,_=>by simp at e
 |w::us,_,i,u,v,h,e1,e2=>by
  unfold dg at h;obtain⟨x,r,rfl,p,q⟩:=h;cases i with
  |zero=>simp at e1 e2;subst e1 e2;exact p
  |succ i=>exact dg.get q (by simpa using e1) (by simpa using e2)
theorem mj:∀{us:List U} {i:Nat} {u:U},us[i]? = some u->xo u<=qG us
 | [],_,_,e=>by simp at e
 |w::us,i,u,e=>by
  unfold qG;cases i with
  |zero=>simp at e;subst e;exact Nat.le_max_left _ _
  |succ i=>exact Wa (mj (us:=us) (by simpa using e)) (Nat.le_max_right _ _)
theorem qH:∀(a b:List U),wW (a++b)=wW a++wW b
 | [],b=>by unfold wW;rfl
 |x::a,b=>by rw[XA,wW,wW,qH a b];rfl
theorem oA:∀(a b:List U),nF (a++b)=nF a+nF b
 | [],b=>by rw[WS];show _=0+_;lia
 |x::a,b=>by rw[XA,nF,nF,oA a b];lia
theorem Lc:∀(n:Nat) (u:U) (v:Va) (A:VR) (E:Va->Vo->Prop) (s:Vo) (Q:Int->Vo->Prop),xo u<=n->A.units+n<W9->gb s.heap u v->Q (hK u) {s with toks:=s.toks+Dd u} ->
  Vs (VE prog w) A (pyHash v) Q E s:=by
 intro n
 induction n with
 |zero=>
  intro u v A E s Q hd hu hk h;cases u<;>unfold gb at hk<;>first|exact hk.elim|skip
  ·obtain⟨t,rfl⟩:=hk;unfold hK Dd at h;exact wpAny_pyHash_int h
  ·unfold xo at hd;lia
 |succ n ih=>
  intro u v A E s Q hd hu hk h;cases u<;>unfold gb at hk<;>first|exact hk.elim|skip
  ·obtain⟨t,rfl⟩:=hk;unfold hK Dd at h;exact wpAny_pyHash_int h
  ·rename_i us;unfold xo at hd;obtain⟨a,items,rfl,ht,hi⟩:=hk;have hT:s.TypeIs (.ref a) "tuple":=let ⟨o,e,c,_⟩:=ht;⟨o,e,c⟩
   obtain⟨o,ho,_,nn,hdat⟩:=ht;unfold pyHash
   first|unfold pyHashByItsType|skip
   first|refine U3 (wpAny_cRoomFor_or (.inr (by lia)) ?_)|skip
   refine U3 (Yj hT F.slot_tuple_hash.lookup ?_);show Vs _ _ (if (some (Value.builtin "tuple.__hash__")==some Value.none)=true then _ else _) Q E s;rw[hU (by rw[beq_builtin_none];exact Vb)];refine U3 (Yj hT F.slot_tuple_hash.lookup ?_);show Vs _ _ (callSpecialIfBoundUnlessNone? (.ref a) "__hash__" _ >>= _) Q E s;refine U3 (wpAny_callSpecialIfBoundUnlessNone?_slot hT F.slot_tuple_hash (VY F.slot_tuple_hash hT F.entry_tuple_hash ?_ (F.args_tuple_hash_1 _)));show Vs _ _ (YA (.ref a) >>= _) _ _ s;refine U3 (wpAny_tupleItemsOf ho hdat ?_);refine U3 ?_;rw[←aae];refine ZA _
    (λrest (b:Array Int) s'=>∃done left,us=done++left/\dg s.heap left rest/\b.toList=wW done/\s'={s with toks:=s.toks+nF done})
    _ ?_ ?_ _ _ ⟨[],us,rfl,hi,by unfold wW;rfl,by unfold nF;rfl⟩
   ·rintro x rest b s' ⟨done,left,rfl,hl,hb,rfl⟩;cases left with
    |nil=>unfold dg at hl;cases hl
    |cons k ks'=>
     unfold dg at hl;obtain⟨v',r',e,h1,hl'⟩:=hl;cases e;have RN:xo k<=n:=by
      have:=mj (us:=done++k::ks') (i:=done.length) (u:=k) (by simp);lia
     refine U3 (ih k x A.in1 E _ _ RN (by show A.units+1+n<W9;lia) h1 ?_);have e2:wW (done++[k])=wW done++[hK k]:=by rw[qH];unfold wW wW;rfl
     have e3:nF (done++[k])=nF done+Dd k:=by rw[oA];show _+(Dd k+nF [])=_;unfold nF;lia
     first
      |exact U6 ⟨done++[k],ks',by simp,hl',by simp[hb,e2],by simp[e3,X8]⟩
      |exact U3 (U6 (U6 ⟨done++[k],ks',by simp,hl',by simp[hb,e2],by simp[e3,X8]⟩))
   ·rintro b s' ⟨done,left,rfl,hl,hb,rfl⟩;cases left with
    |cons k ks'=>unfold dg at hl;obtain⟨_,_,e,_⟩:=hl;cases e
    |nil=>
     rw[VU] at h;show Vs _ _ (retInt (WG b.toList)) _ _ _;rw[hb];refine wpAny_ret_mkInt ?_;show Vs _ _ (if (decide (-(2:Int) ^ 63<=WG (wW done))&&decide (WG (wW done)<2 ^ 63))=true then _ else _) Q E _;unfold hK Dd reduceHash at h;by_cases hr:(decide (-(2:Int) ^ 63<=WG (wW done))&&decide (WG (wW done)<2 ^ 63))=true
     ·rw[hV hr];rw[hV hr] at h;exact U6 (by simpa [X8] using h)
     ·rw[hU hr];rw[hU hr] at h;exact U3 (Xq (U6 (by simpa [X8] using h)))
theorem QD:∀(n:Nat) (x y:U) (u v:Va) (A:VR),xo x<=n->A.units+n<W9->gb s.heap x u->gb s.heap y v->XY A s u v (decide (x=y)):=by
 intro n
 induction n with
 |zero=>
  intro x y u v A hd hu h1 h2;have c_:A.units<W9:=by lia
  cases x<;>(try (unfold gb at h1;exact h1.elim))
  case int i=>
   unfold gb at h1;obtain⟨t,rfl⟩:=h1;cases y<;>(try (unfold gb at h2;exact h2.elim))
   case int j=>
    unfold gb at h2;obtain⟨t',rfl⟩:=h2;have:=aaa (A:=A) (s:=s) i t j t';have e:decide (U.int i=U.int j)=(i==j):=by rw[X1];simp
    rw[e];exact this
   case tup us=>
    unfold gb at h2;obtain⟨a,its,rfl,ht,_⟩:=h2;rw[hJ (by intro z;cases z)];exact SeqAt.EqAt.int_tuple i t ht c_
  case tup us=>unfold xo at hd;lia
 |succ n ih=>
  intro x y u v A hd hu h1 h2;have c_:A.units<W9:=by lia
  cases x<;>(try (unfold gb at h1;exact h1.elim))
  case int i=>exact ih _ y u v A (by unfold xo;lia) (by lia) h1 h2
  case tup us=>
   unfold xo at hd;have Pb:=h1;unfold gb at h1;obtain⟨a,its,rfl,p1,z1⟩:=h1;cases y<;>(try (unfold gb at h2;exact h2.elim))
   case int j=>
    unfold gb at h2;obtain⟨t',rfl⟩:=h2;rw[hJ (by intro z;cases z)];exact SeqAt.EqAt.tuple_int j t' p1 c_
   case tup ws=>
    have Kn:=h2;unfold gb at h2;obtain⟨b,its2,rfl,p2,z2⟩:=h2;by_cases vg:a=b
    ·subst vg;rw[gb.inj Pb Kn,hG rfl];exact ZS _
    ·refine aac vg ?_;have l1:its.size=us.length:=by rw[z1.length,U9]
     have l2:its2.size=ws.length:=by rw[z2.length,U9]
     have he:∀j (g1:j<its.size) (g2:j<its2.size),XY A.in1 s its[j] its2[j] (decide (us[j]? = ws[j]?)):=λj g1 g2=>by
      have q1:us[j]? = some us[j]:=U4 (by lia);have q2:ws[j]? = some ws[j]:=U4 (by lia);have y1:its.toList[j]? = some its[j]:=by rw[Vq];exact VD g1
      have y2:its2.toList[j]? = some its2[j]:=by rw[Vq];exact VD g2
      have e:decide (us[j]? = ws[j]?)=decide (us[j]=ws[j]):=by rw[q1,q2,X1];simp
      rw[e];refine ih us[j] ws[j] its[j] its2[j] A.in1 ?_ (by show A.units+1+n<W9;lia) (z1.get q1 y1) (z2.get q2 y2);have:=mj q1;lia
     have q:=aaw (A:=A) p1 p2 c_ he;rw[l1,l2] at q;have fin:((VN (min us.length ws.length)).all (λj=>decide (us[j]? = ws[j]?))&&us.length==ws.length)=decide (U.tup us=U.tup ws):=by
      rw[X1,Vw,VZ,decide_eq_true_eq];constructor
      ·rintro⟨ha,hl⟩;have hl:us.length=ws.length:=by simpa using hl
       congr 1;refine X2 λj=>?_;by_cases hj:j<us.length
       ·exact of_decide_eq_true (ha j (VJ.mpr (by lia)))
       ·rw[WH.mpr (by lia),WH.mpr (by lia)]
      ·intro e;cases e;exact⟨λj _=>hG rfl,by simp⟩
     rw[←fin];exact q
theorem Hk:∀(n:Nat) (x:U) (v:Va) (A:VR) (E:Va->Vo->Prop) (s:Vo) (Q:Bool->Vo->Prop),xo x<=n->gb s.heap x v->Q true s->Vs (VE prog w) A (eqIsQuiet n v) Q E s:=by
 intro n
 induction n with
 |zero=>
  intro x v A E s Q hd hk h;cases x<;>unfold gb at hk<;>first|exact hk.elim|skip
  ·obtain⟨t,rfl⟩:=hk;rw[eqIsQuiet_byValue _ rfl];exact U6 h
  ·unfold xo at hd;lia
 |succ n ih=>
  intro x v A E s Q hd hk h;cases x<;>unfold gb at hk<;>first|exact hk.elim|skip
  ·obtain⟨t,rfl⟩:=hk;rw[eqIsQuiet_byValue _ rfl];exact U6 h
  ·rename_i us;unfold xo at hd;obtain⟨a,items,rfl,ht,hi⟩:=hk;have hT:s.TypeIs (.ref a) "tuple":=let ⟨o,e,c,_⟩:=ht;⟨o,e,c⟩
   obtain⟨o,ho,_,nn,hdat⟩:=ht;unfold eqIsQuiet;refine U3 (Yj hT F.slot_tuple_eq.lookup ?_);show Vs _ _ (isInstance (.ref a) (.type "tuple") >>= _) _ _ s;refine U3 (YL hT isSubtype_tuple_tuple ?_);simp only[Yy,VG,if_false];refine U3 (Xn ho hdat ?_);refine U3 ?_;show Vs _ _ (forIn items _ _) _ _ s;rw[←aae];refine ZA _ (λrest r s'=>r.1=none/\s'=s/\∃done left,us=done++left/\dg s.heap left rest) _ ?_ ?_ _ _ ⟨rfl,rfl,[],us,rfl,hi⟩
   ·rintro v rest r s' ⟨hr,rfl,done,left,rfl,hl⟩;cases left with
    |nil=>unfold dg at hl;cases hl
    |cons k ks'=>
     unfold dg at hl;obtain⟨v',r',e,h1,hl'⟩:=hl;cases e;have RN:xo k<=n:=by
      have:=mj (us:=done++k::ks') (i:=done.length) (u:=k) (by simp);lia
     refine U3 (ih k v A E _ _ RN h1 ?_);simp only[Yy,VG,if_false];exact U6 ⟨rfl,rfl,done++[k],ks',by simp,hl'⟩
   ·rintro⟨r1,r2⟩ s' ⟨hr,rfl,_⟩;simp only at hr;subst hr;exact U6 h
def TK (h:XI)(us:List U)(a:Vr):Prop:=qG us<=6/\∃items,h.IsTuple a items/\dg h us items.toList
theorem TK.is (x:TK h us a):xo (.tup us)<=7/\gb h (.tup us) (.ref a):=by
 obtain⟨l,its,t,z⟩:=x;exact⟨by unfold xo;lia,by unfold gb;exact⟨a,its,rfl,t,z⟩⟩
theorem mm {x y:List U}:(U.tup x=U.tup y)↔x=y:=⟨λh=>by cases h;rfl,λh=>by rw[h]⟩
noncomputable def bP (prog:XJ)(w:Ya):Y9 prog w (List U) where
 is:=TK
 hash:=λus=>hK (.tup us)
 draws:=λus=>Dd (.tup us)
 room:=λA=>A.units+20<W9
 inj:=λhx hy=>mm.mp (gb.inj hx.is.2 hy.is.2)
 keeps:=λ{h h' k a d o es ep} x ho hd hs=>by
  have kp:∀b its,h.IsTuple b its->h'.IsTuple b its:=λb its h00=>by
   obtain⟨o',e,c,n,z⟩:=h00;have GL:b≠d:=by
    rintro rfl;obtain rfl:o'=o:=Vy (e.symm.trans ho);rw[hd] at z;exact nomatch z
   exact⟨o',(hs.2 b GL).trans e,c,n,z⟩
  obtain⟨l,its,t,z⟩:=x;exact⟨l,its,kp _ _ t,z.keep kp⟩
 pyHash:=λ{A E s k a Q} hu hk h=>Lc 7 (.tup k) (.ref a) A E s Q hk.is.1 (by lia) hk.is.2 h
 eqBool:=λ{A E s x y a b Q} hu hx hy h=>QD 7 (.tup x) (.tup y) (.ref a) (.ref b) A hx.is.1 (by lia) hx.is.2 hy.is.2 prog w E Q (by
  have e:decide (U.tup x=U.tup y)=decide (x=y):=by rw[X1,decide_eq_true_eq,decide_eq_true_eq];exact mm
  rw[e];exact h)
 quiet:=λ{A E s k a Q} hk h=>Hk 8 (.tup k) (.ref a) A E s Q (Wa hk.is.1 (by lia)) hk.is.2 h
def Ld (p:List U×Vr×V)(q:List U×Vr×Va):Prop:=p.1=q.1/\p.2.1=q.2.1/\bq p.2.2 q.2.2
noncomputable def NB (e:List U×Vr×Va):DictEntry:=⟨hK (.tup e.1),.ref e.2.1,e.2.2⟩
def NC (a:Vr)(ep:Nat)(es:List (List U×Vr×V))(h:XI):Prop:=(a==Xp)=false/\∃o ds,∃xs:List (List U×Vr×Va),h.get? a=some o/\o.ExactDict/\o.data=.dict ds ep/\Z3 Ld es xs/\ds.toList=xs.map NB
noncomputable def DN (a:Vr)(ep:Nat)(es:List (List U×Vr×V)):HO:=.ext (NC a ep es)
mutual
def KH (H:Hp):U->V->Prop
 | .int i,v=>v=.int i
 | .tup us,v=>∃b ys,v=.ref b/\H b=some (.tup ys)/\us.length<=Vf/\qI H us ys
 |_,_=>False
def qI (H:Hp):List U->List V->Prop
 | [],vs=>vs=[]
 |u::us,vs=>∃v r,vs=v::r/\KH H u v/\qI H us r
end
mutual
theorem KH.to {H H':Hp}(e:∀b ys,H b=some (.tup ys)->H' b=some (.tup ys)):∀{u:U} {v:V},KH H u v->KH H' u v
 | .int i,v,h=>by unfold KH at h ⊢;exact h
 | .tup us,v,h=>by
  unfold KH at h ⊢;obtain⟨b,ys,r,q,l,z⟩:=h;exact⟨b,ys,r,e b ys q,l,qI.to e z⟩
 | .non,v,h=>by unfold KH at h;exact h.elim
 | .bl _,v,h=>by unfold KH at h;exact h.elim
 | .str _,v,h=>by unfold KH at h;exact h.elim
 | .lst _,v,h=>by unfold KH at h;exact h.elim
 | .dct _ _,v,h=>by unfold KH at h;exact h.elim
 | .scr _,v,h=>by unfold KH at h;exact h.elim
theorem qI.to {H H':Hp}(e:∀b ys,H b=some (.tup ys)->H' b=some (.tup ys)):∀{us:List U} {vs:List V},qI H us vs->qI H' us vs
 | [],vs,h=>by unfold qI at h ⊢;exact h
 |u::us,vs,h=>by
  unfold qI at h ⊢;obtain⟨v,r,q,p,z⟩:=h;exact⟨v,r,q,KH.to e p,qI.to e z⟩
end
mutual
theorem KH.is (ok:kZ P w H h):∀{u:U} {v:V} {x:Va},KH H u v->bq v x->gb h u x
 | .int i,v,x,k,r=>by
  unfold KH at k;subst k;obtain⟨t,rfl⟩:=r;unfold gb;exact⟨t,rfl⟩
 | .tup us,v,x,k,r=>by
  unfold KH at k;obtain⟨b,ys,rfl,q,_,z⟩:=k;cases r;obtain⟨_,its,rv,it,_⟩:=ok b _ q;unfold gb;exact⟨b,its.toArray,rfl,it,by simpa using qI.is ok z rv⟩
 | .non,v,x,k,r=>by unfold KH at k;exact k.elim
 | .bl _,v,x,k,r=>by unfold KH at k;exact k.elim
 | .str _,v,x,k,r=>by unfold KH at k;exact k.elim
 | .lst _,v,x,k,r=>by unfold KH at k;exact k.elim
 | .dct _ _,v,x,k,r=>by unfold KH at k;exact k.elim
 | .scr _,v,x,k,r=>by unfold KH at k;exact k.elim
theorem qI.is (ok:kZ P w H h):∀{us:List U} {vs:List V} {xs:List Va},qI H us vs->a_ vs xs->dg h us xs
 | [],vs,xs,k,r=>by
  unfold qI at k;subst k;cases r;unfold dg;rfl
 |u::us,vs,xs,k,r=>by
  unfold qI at k;obtain⟨v,vr,rfl,p,z⟩:=k;cases r with
  |cons r1 r2=>
   unfold dg;exact⟨_,_,rfl,KH.is ok p r1,qI.is ok z r2⟩
end
def zj (H:Hp)(us:List U)(b:Vr):Prop:=qG us<=6/\∃ys,H b=some (.tup ys)/\us.length<=Vf/\qI H us ys
theorem zj.tk (ok:kZ P w H h)(k:zj H us b):TK h us b:=by
 obtain⟨l,ys,q,_,z⟩:=k;obtain⟨_,its,rv,it,_⟩:=ok b _ q;exact⟨l,its.toArray,it,by simpa using qI.is ok z rv⟩
theorem zj.to (e:∀b ys,H b=some (.tup ys)->H' b=some (.tup ys))(k:zj H us b):zj H' us b:=by
 obtain⟨l,ys,q,n,z⟩:=k;exact⟨l,ys,e b ys q,n,z.to e⟩
structure fj (H:Hp)(a:Vr)(es:List (List U×Vr×V)):Prop where
 ob:(∃ep,H a=some (DN a ep es))\/(es=[]/\H a=some (.dK []))
 nd:(es.map (·.1)).Nodup
 key:∀e∈es,zj H e.1 e.2.1
theorem qJ {α β:Type}{R:α->β->Prop}:∀{xs:List α} {ys:List β} {y:β},Z3 R xs ys->y∈ys->∃x∈xs,R x y
 |_,_,_,.nil,h=>by cases h
 |x::xs,y'::ys,y,.cons r t,h=>by
  rcases Vk.mp h with e|h
  ·subst e;exact⟨x,U8,r⟩
  ·obtain⟨x',m,q⟩:=qJ t h;exact⟨x',Vc _ m,q⟩
theorem qK:∀{es:List (List U×Vr×V)} {xs:List (List U×Vr×Va)},Z3 Ld es xs->es.map (·.1)=xs.map (·.1)
 |_,_,.nil=>rfl
 |_::_,_::_,.cons r t=>by rw[Vp,Vp,qK t,r.1]
theorem fj.of (ok:kZ P w H h)(d:fj H a es):∃xs,Z3 Ld es xs/\h.DictOfH (bP P w) a xs:=by
 rcases d.ob with⟨ep,q⟩|⟨e,q⟩
 ·obtain⟨⟨_,o,ds,xs,h1,h2,h3,h4,h5⟩,_⟩:=ok a _ q;refine⟨xs,h4,o,ds,ep,h1,h2,h3,h5,λx hx=>?_,by rw[←qK h4];exact d.nd⟩;obtain⟨e,he,r⟩:=qJ h4 hx;have:=(d.key e he).tk ok;rw[r.1,r.2.1] at this;exact this
 ·subst e;obtain⟨_,_,vs,rel,dd⟩:=ok a _ q;cases rel;obtain⟨o,ds,ep,h1,h2,h3,h4,h5,h6⟩:=dd;have e0:ds.toList=[]:=by
   generalize ds.toList=l at h5;cases h5;rfl
  exact⟨[],.nil,o,ds,ep,h1,h2,h3,by rw[e0];rfl,(λx hx=>by cases hx),Zv⟩
theorem fj.lo (ok:kZ P w H h)(d:fj H a es):(a==Xp)=false:=by
 rcases d.ob with⟨ep,q⟩|⟨e,q⟩
 ·obtain⟨⟨l,_⟩,_⟩:=ok a _ q;exact l
 ·obtain⟨_,l,_⟩:=ok a _ q;exact l
noncomputable def gy (es:List (List U×Vr×V))(k:List U):Option V:=(es.find? λe=>decide (e.1=k)).map (·.2.2)
noncomputable def zk (es:List (List U×Vr×V))(k:List U)(b:Vr)(v:V):List (List U×Vr×V):=
 if (gy es k).isSome then es.map (λe=>if e.1=k then (e.1,e.2.1,v) else e) else es++[(k,b,v)]
theorem j1 (k:List U):∀{es:List (List U×Vr×V)} {xs:List (List U×Vr×Va)},Z3 Ld es xs->pA (gy es k) ((aav xs k).map (·.2))
 |_,_,.nil=>trivial
 |e::es,x::xs,.cons r t=>by
  have ih:=j1 k t;unfold gy aav at ih ⊢;rw[WE,WE];by_cases c:e.1=k
  ·have c':x.1=k:=by rw[←r.1];exact c
   rw[hG c,hG c'];exact r.2.2
  ·have c':¬x.1=k:=by rw[←r.1];exact c
   rw[hJ c,hJ c'];exact ih
theorem Eb (k:List U){u:Va}(rv:bq v u){xs:List (List U×Vr×Va)}(p:Z3 Ld es xs):Z3 Ld (zk es k b v) (storedH xs k b u):=by
 have e:(gy es k).isSome=(aav xs k).isSome:=by
  have:=(j1 k p).isSome_eq;rw[Option.isSome_map] at this;exact this
 unfold zk storedH;rw[e];split
 ·rename_i hh;clear hh e
  induction p with
  |nil=>exact .nil
  | @cons q x es xs r t ih=>
   refine .cons ?_ ih;unfold putAt;dsimp only;by_cases c:q.1=k
   ·have c':x.1=k:=by rw[←r.1];exact c
    rw[hV c,hV c'];exact⟨r.1,r.2.1,rv⟩
   ·have c':¬x.1=k:=by rw[←r.1];exact c
    rw[hU c,hU c'];exact r
 ·rename_i hh;clear hh e
  induction p with
  |nil=>exact .cons ⟨rfl,rfl,rv⟩ .nil
  |cons r t ih=>exact .cons r ih
section
variable {d:V}{r:Va}{k:List U}{A:VR}
theorem Ec (hu:A.units+64<W9):(bP X.prog X.w).room A.in1:=by show A.units+1+20<W9;lia
theorem Ce (hu:A.units+64<W9)(I:aI X pins σ H s)(g:fj H a es)(kb:zj H k b)(e:gy es k=some v)(h:∀w' s',aI X pins σ H s'->bq v w'->Q w' s') :
  Vs (VE X.prog X.w) A (ZQ (.ref a) (.ref b)) Q E s:=by
 obtain⟨xs,rel,dd⟩:=g.of I.hok;obtain⟨w',hw,Ar⟩:=pA.some_of (v:=v) (o:=(aav xs k).map (·.2)) (by rw[←e];exact j1 k rel);obtain⟨p,hp,B0⟩:=Option.map_eq_some_iff.mp hw;refine wpAny_getItem_heap (Ec hu) (kb.tk I.hok) dd hp ?_;rw[B0];exact h w' _ (I.tok _) Ar
theorem fj.typeIs (I:aI X pins σ H s)(g:fj H a es):s.TypeIs (.ref a) "dict":=by
 obtain⟨xs,rel,dd⟩:=g.of I.hok;exact dd.typeIs
theorem fj.noDict (I:aI X pins σ H s)(g:fj H a es):∀b,Value.ref a=.ref b->∃ob,s.heap.get? b=some ob/\ob.dict=none:=λb q=>by
 cases q;obtain⟨xs,rel,ob,_,_,h1,h2,_⟩:=g.of I.hok;exact⟨ob,h1,h2.2.1⟩
theorem fj.mut (g:fj H a es):MK (H a):=by
 rcases g.ob with⟨ep,q⟩|⟨_,q⟩<;>(rw[q];exact True.intro)
end
end L2
namespace L2
noncomputable def kU:jI->U
 | .inl i=>.int i
 | .inr x=>.str x
def Cf (H:Hp)(a:Vr)(ks:List U)(xs:List V):Prop:=
 (∃cn:List (jI×V),H a=some (.dK cn)/\ks=cn.map (λp=>kU p.1)/\xs=cn.map (·.2)) \/
 ∃es:List (List U×Vr×V),es≠[]/\fj H a es/\ks=es.map (λp=>.tup p.1)/\xs=es.map (·.2.2)
noncomputable abbrev ND:=Cf
theorem Cf.at (h:ND H a ks xs):Cf H a ks xs:=h
theorem fj.ne (h:fj H a es)(n:es≠[]):∃ep,H a=some (DN a ep es):=by
 rcases h.ob with q|⟨e,_⟩
 ·exact q
 ·exact absurd e n
def Hl (K:U7)(H:Hp)(a:Vr)(xs:List V):Prop:=(∃o,H a=some (.frz o (.lst xs))) \/
  ∃(o:Obj) (its:Array Va) (n:Nat),K.lookup a=some o/\o.cls=.type "list"/\o.dict=none/\o.data=.seq its n/\its.size<=Vf/\a_ xs its.toList
theorem Hl.sq (h:Hl K H a xs):fH K H a xs:=by
 rcases h with⟨o,h⟩|h
 ·exact .inl (.inr ⟨o,h⟩)
 ·exact .inr h
theorem Hl.to (h:Hl K H a xs)(e:∀o y,H a=some (.frz o y)->H' a=some (.frz o y)):Hl K H' a xs:=by
 rcases h with⟨o,h⟩|h
 ·exact .inl ⟨o,e _ _ h⟩
 ·exact .inr h
mutual
def Rp (K:U7)(H:Hp)(A:Vr->Prop):U->V->Prop
 | .non,v=>v=.non
 | .bl b,v=>v=.bl b
 | .int i,v=>v=.int i
 | .str x,v=>v=.str x
 | .tup us,v=>∃a xs,v=.ref a/\H a=some (.tup xs)/\us.length<=Vf/\aK K H A us xs
 | .lst us,v=>∃a xs,v=.ref a/\¬A a/\H a=some (.lst xs)/\us.length<=Vf/\aK K H A us xs
 | .dct ks us,v=>∃a xs,v=.ref a/\¬A a/\Cf H a ks xs/\us.length<=Vf/\aK K H A us xs
 | .scr us,v=>∃a xs,v=.ref a/\Hl K H a xs/\us.length<=Vf/\aK K H A us xs
def aK (K:U7)(H:Hp)(A:Vr->Prop):List U->List V->Prop
 | [],xs=>xs=[]
 |u::us,xs=>∃x r,xs=x::r/\Rp K H A u x/\aK K H A us r
end
def j2 (K:U7)(H:Hp)(A:Vr->Prop):U->Vr->Prop
 | .lst us,a=>∃xs,H a=some (.lst xs)/\us.length<=Vf/\aK K H A us xs
 | .dct ks us,a=>∃xs,ND H a ks xs/\us.length<=Vf/\aK K H A us xs
 |_,_=>False
def Pk (K:U7)(H:Hp)(A:Vr->Prop):U->V->Prop
 | .non,v=>v=.non
 | .bl b,v=>v=.bl b
 | .int i,v=>v=.int i
 | .str x,v=>v=.str x
 | .tup us,v=>∃a xs,v=.ref a/\H a=some (.tup xs)/\us.length<=Vf/\aK K H A us xs
 | .lst us,v=>∃a xs,v=.ref a/\H a=some (.lst xs)/\us.length<=Vf/\aK K H A us xs
 | .dct ks us,v=>∃a xs,v=.ref a/\Cf H a ks xs/\us.length<=Vf/\aK K H A us xs
 | .scr us,v=>∃a xs,v=.ref a/\Hl K H a xs/\us.length<=Vf/\aK K H A us xs
def Mu:Option HO->Prop
 |some (.lst _)=>True
 |some (.dK _)=>True
 |some (.dT _)=>True
 |some (.ext _)=>True
 |_=>False
theorem Mu.ex {o:Option HO}(h:Mu o):∃x,o=.some x:=by
 cases o with
 |none=>exact h.elim
 |some x=>exact⟨x,rfl⟩
def eT (A:Vr->Prop)(H H':Hp):Prop:=∀b o,¬A b->H b=some o->H' b=some o
theorem eT.refl:eT A H H:=λ_ _ _ h=>h
theorem eT.trans (a:eT A H H1)(b:eT A H1 H2):eT A H H2:=λc o n h=>b c o n (a c o n h)
theorem eT.same (h:aT H H'):eT A H H':=λb o _ e=>h b o e
section
variable {A':Vr->Prop}
theorem Cf.ex (h:Cf H a ks xs):∃o,H a=some o:=by
 rcases h with⟨k,h,_⟩|⟨k,n,h,_⟩
 ·exact⟨_,h⟩
 ·obtain⟨ep,q⟩:=h.ne n;exact⟨_,q⟩
theorem Cf.to (h:Cf H a ks xs)(e:∀o,H a=some o->H' a=some o)(t:∀b ys,H b=some (.tup ys)->H' b=some (.tup ys)):Cf H' a ks xs:=by
 rcases h with⟨k,h,z⟩|⟨k,n,h,z⟩
 ·exact .inl ⟨k,e _ h,z⟩
 ·exact .inr ⟨k,n,⟨h.ob.imp (fun⟨ep,q⟩=>⟨ep,e _ q⟩) (λq=>⟨q.1,e _ q.2⟩),h.nd,λy hy=>(h.key y hy).to t⟩,z⟩
mutual
theorem Rp.re (m:∀b,A b->Mu (H b))(e:eT A H H')(n:∀b,A' b->A b\/H b=none):∀{u:U} {v:V},Rp K H A u v->Rp K H' A' u v
 | .non,v,h=>by unfold Rp at h ⊢;exact h
 | .bl b,v,h=>by unfold Rp at h ⊢;exact h
 | .int b,v,h=>by unfold Rp at h ⊢;exact h
 | .str b,v,h=>by unfold Rp at h ⊢;exact h
 | .tup us,v,h=>by
  unfold Rp at h ⊢;obtain⟨a,xs,r,q,l,z⟩:=h;exact⟨a,xs,r,e a _ (λz=>by have:=m a z;rw[q] at this;exact this) q,l,aK.re m e n z⟩
 | .lst us,v,h=>by
  unfold Rp at h ⊢;obtain⟨a,xs,r,na,q,l,z⟩:=h;refine⟨a,xs,r,λy=>?_,e a _ na q,l,aK.re m e n z⟩;rcases n a y with y|y
  ·exact na y
  ·rw[q] at y;cases y
 | .scr us,v,h=>by
  unfold Rp at h ⊢;obtain⟨a,xs,r,q,l,z⟩:=h;exact⟨a,xs,r,q.to λo y w=>e a _ (λz=>by have:=m a z;rw[w] at this;exact this) w,l,aK.re m e n z⟩
 | .dct ks us,v,h=>by
  unfold Rp at h ⊢;obtain⟨a,xs,r,na,q,l,z⟩:=h;refine⟨a,xs,r,λy=>?_,q.to (λo w=>e a o na w) (λb ys w=>e b _ (λy=>by have:=m b y;rw[w] at this;exact this) w),l,aK.re m e n z⟩;obtain⟨o,w⟩:=q.ex;rcases n a y with y|y
  ·exact na y
  ·rw[w] at y;cases y
theorem aK.re (m:∀b,A b->Mu (H b))(e:eT A H H')(n:∀b,A' b->A b\/H b=none):∀{us:List U} {vs:List V},aK K H A us vs->aK K H' A' us vs
 | [],vs,h=>by unfold aK at h ⊢;exact h
 |u::us,vs,h=>by
  unfold aK at h ⊢;obtain⟨x,r,q,p,z⟩:=h;exact⟨x,r,q,Rp.re m e n p,aK.re m e n z⟩
end
mutual
theorem Rp.mono (n:∀b,A' b->A b):∀{u:U} {v:V},Rp K H A u v->Rp K H A' u v
 | .non,v,h=>by unfold Rp at h ⊢;exact h
 | .bl b,v,h=>by unfold Rp at h ⊢;exact h
 | .int b,v,h=>by unfold Rp at h ⊢;exact h
 | .str b,v,h=>by unfold Rp at h ⊢;exact h
 | .tup us,v,h=>by
  unfold Rp at h ⊢;obtain⟨a,xs,r,q,l,z⟩:=h;exact⟨a,xs,r,q,l,aK.mono n z⟩
 | .lst us,v,h=>by
  unfold Rp at h ⊢;obtain⟨a,xs,r,na,q,l,z⟩:=h;exact⟨a,xs,r,λy=>na (n a y),q,l,aK.mono n z⟩
 | .scr us,v,h=>by
  unfold Rp at h ⊢;obtain⟨a,xs,r,q,l,z⟩:=h;exact⟨a,xs,r,q,l,aK.mono n z⟩
 | .dct ks us,v,h=>by
  unfold Rp at h ⊢;obtain⟨a,xs,r,na,q,l,z⟩:=h;exact⟨a,xs,r,λy=>na (n a y),q,l,aK.mono n z⟩
theorem aK.mono (n:∀b,A' b->A b):∀{us:List U} {vs:List V},aK K H A us vs->aK K H A' us vs
 | [],vs,h=>by unfold aK at h ⊢;exact h
 |u::us,vs,h=>by
  unfold aK at h ⊢;obtain⟨x,r,q,p,z⟩:=h;exact⟨x,r,q,Rp.mono n p,aK.mono n z⟩
end
mutual
theorem Rp.same (e:aT H H'):∀{u:U} {v:V},Rp K H A u v->Rp K H' A u v
 | .non,v,h=>by unfold Rp at h ⊢;exact h
 | .bl b,v,h=>by unfold Rp at h ⊢;exact h
 | .int b,v,h=>by unfold Rp at h ⊢;exact h
 | .str b,v,h=>by unfold Rp at h ⊢;exact h
 | .tup us,v,h=>by
  unfold Rp at h ⊢;obtain⟨a,xs,r,q,l,z⟩:=h;exact⟨a,xs,r,e a _ q,l,aK.same e z⟩
 | .lst us,v,h=>by
  unfold Rp at h ⊢;obtain⟨a,xs,r,na,q,l,z⟩:=h;exact⟨a,xs,r,na,e a _ q,l,aK.same e z⟩
 | .scr us,v,h=>by
  unfold Rp at h ⊢;obtain⟨a,xs,r,q,l,z⟩:=h;exact⟨a,xs,r,q.to λo y w=>e a _ w,l,aK.same e z⟩
 | .dct ks us,v,h=>by
  unfold Rp at h ⊢;obtain⟨a,xs,r,na,q,l,z⟩:=h;exact⟨a,xs,r,na,q.to (λo w=>e a o w) (λb ys w=>e b _ w),l,aK.same e z⟩
theorem aK.same (e:aT H H'):∀{us:List U} {vs:List V},aK K H A us vs->aK K H' A us vs
 | [],vs,h=>by unfold aK at h ⊢;exact h
 |u::us,vs,h=>by
  unfold aK at h ⊢;obtain⟨x,r,q,p,z⟩:=h;exact⟨x,r,q,Rp.same e p,aK.same e z⟩
end
theorem aK.length:∀{us:List U} {vs:List V},aK K H A us vs->us.length=vs.length
 | [],_,h=>by unfold aK at h;subst h;rfl
 |u::us,_,h=>by
  unfold aK at h;obtain⟨x,r,rfl,_,q⟩:=h;rw[Vi,Vi,aK.length q]
theorem aK.get:∀{us:List U} {vs:List V} {i:Nat} {u:U},aK K H A us vs->us[i]? = some u->∃v,vs[i]? = some v/\Rp K H A u v
 | [],_,_,_,_,e=>by simp at e
 |w::us,_,i,u,h,e=>by
  unfold aK at h;obtain⟨x,r,rfl,p,q⟩:=h;cases i with
  |zero=>simp at e;subst e;exact⟨x,by simp,p⟩
  |succ i=>
   obtain⟨v,a,b⟩:=aK.get q (i:=i) (by simpa using e);exact⟨v,by simpa using a,b⟩
theorem aK.nil:aK K H A [] []:=by unfold aK;rfl
theorem aK.cons (h:Rp K H A u v)(t:aK K H A us vs):aK K H A (u::us) (v::vs):=by unfold aK;exact⟨v,vs,rfl,h,t⟩
theorem aK.append:∀{us ws:List U} {vs xs:List V},aK K H A us vs->aK K H A ws xs->aK K H A (us++ws) (vs++xs)
 | [],ws,vs,xs,h,t=>by unfold aK at h;subst h;exact t
 |u::us,ws,vs,xs,h,t=>by
  unfold aK at h;obtain⟨x,r,rfl,p,q⟩:=h;exact aK.cons p (aK.append q t)
theorem aK.take:∀{us:List U} {vs:List V} (n:Nat),aK K H A us vs->aK K H A (us.take n) (vs.take n)
 | [],vs,n,h=>by unfold aK at h;subst h;simp;exact aK.nil
 |u::us,vs,0,h=>by simp;exact aK.nil
 |u::us,vs,n+1,h=>by
  unfold aK at h;obtain⟨x,r,rfl,p,q⟩:=h;exact aK.cons p (aK.take n q)
theorem aK.drop:∀{us:List U} {vs:List V} (n:Nat),aK K H A us vs->aK K H A (us.drop n) (vs.drop n)
 | [],vs,n,h=>by unfold aK at h;subst h;simp;exact aK.nil
 |u::us,vs,0,h=>h
 |u::us,vs,n+1,h=>by
  unfold aK at h;obtain⟨x,r,rfl,p,q⟩:=h;exact aK.drop n q
theorem aK.set:∀{us:List U} {vs:List V} (n:Nat) {u:U} {v:V},Rp K H A u v->aK K H A us vs->aK K H A (us.set n u) (vs.set n v)
 | [],vs,n,_,_,_,h=>by unfold aK at h;subst h;simp;exact aK.nil
 |u::us,vs,0,_,_,p',h=>by
  unfold aK at h;obtain⟨x,r,rfl,p,q⟩:=h;exact aK.cons p' q
 |u::us,vs,n+1,_,_,p',h=>by
  unfold aK at h;obtain⟨x,r,rfl,p,q⟩:=h;exact aK.cons p (aK.set n p' q)
theorem Rp.pk (h:Rp K H A u v):Pk K H A u v:=by
 cases u<;>(unfold Rp at h;unfold Pk)
 case lst us=>obtain⟨a,xs,r,na,q⟩:=h;exact⟨a,xs,r,q⟩
 case dct ks us=>obtain⟨a,xs,r,na,q⟩:=h;exact⟨a,xs,r,q⟩
 all_goals exact h
theorem Pk.same (e:aT H H')(h:Pk K H A u v):Pk K H' A u v:=by
 cases u<;>(unfold Pk at h ⊢)
 case tup us=>obtain⟨a,xs,r,q,l,z⟩:=h;exact⟨a,xs,r,e a _ q,l,z.same e⟩
 case lst us=>obtain⟨a,xs,r,q,l,z⟩:=h;exact⟨a,xs,r,e a _ q,l,z.same e⟩
 case scr us=>obtain⟨a,xs,r,q,l,z⟩:=h;exact⟨a,xs,r,q.to λo y w=>e a _ w,l,z.same e⟩
 case dct ks us=>obtain⟨a,xs,r,q,l,z⟩:=h;exact⟨a,xs,r,q.to (λo w=>e a o w) (λb ys w=>e b _ w),l,z.same e⟩
 all_goals exact h
theorem j2.pk (h:j2 K H A u a):Pk K H A u (.ref a):=by
 cases u<;>(unfold j2 at h;unfold Pk)
 case lst us=>obtain⟨xs,q,l,z⟩:=h;exact⟨a,xs,rfl,q,l,z⟩
 case dct ks us=>obtain⟨xs,q,l,z⟩:=h;exact⟨a,xs,rfl,q.at,l,z⟩
 all_goals exact h.elim
theorem j2.rp (h:j2 K H A u a)(n:∀b,A' b->A b)(na:¬A' a):Rp K H A' u (.ref a):=by
 cases u<;>(unfold j2 at h;unfold Rp)
 case lst us=>obtain⟨xs,q,l,z⟩:=h;exact⟨a,xs,rfl,na,q,l,z.mono n⟩
 case dct ks us=>obtain⟨xs,q,l,z⟩:=h;exact⟨a,xs,rfl,na,q.at,l,z.mono n⟩
 all_goals exact h.elim
theorem j2.re (m:∀b,A b->Mu (H b))(e:eT A H H')(n:∀b,A' b->A b\/H b=none)(ea:∀o,H a=some o->H' a=some o)(h:j2 K H A u a):j2 K H' A' u a:=by
 cases u<;>(unfold j2 at h ⊢)
 case lst us=>obtain⟨xs,q,l,z⟩:=h;exact⟨xs,ea _ q,l,z.re m e n⟩
 case dct ks us=>obtain⟨xs,q,l,z⟩:=h;exact⟨xs,q.to ea (λb ys w=>e b _ (λy=>by have:=m b y;rw[w] at this;exact this) w),l,z.re m e n⟩
 all_goals exact h.elim
theorem j2.mu (h:j2 K H A u a):Mu (H a):=by
 cases u<;>(unfold j2 at h)
 case lst us=>obtain⟨xs,q,_⟩:=h;rw[q];trivial
 case dct ks us=>
  obtain⟨xs,q,_⟩:=h;rcases q with⟨k,q,_⟩|⟨k,n,q,_⟩
  ·rw[q];trivial
  ·obtain⟨ep,q⟩:=q.ne n;rw[q];trivial
 all_goals exact h.elim
end
structure Pkg where
 A0:Vr->Prop
 B:Hp
 a0:Vr
structure Gm where
 own:List Bool
 io:Bool
 W:Hp->Prop
noncomputable def Gm.is (G:Gm)(i:Nat):Bool:=G.own.getD i false
structure cu (K:U7)(G:Gm)(Z:Pkg)(A:Vr->Prop)(ρ:Ev)(σ:St)(H:Hp):Prop where
 slot:∀i u,ρ[i]? = some (some u)->∃v,σ[i]? = some (some v)/\if G.is i=true then (∃a,v=.ref a/\A a/\Z.B a=none/\(¬Z.A0 a\/(G.io=true/\i=0))/\j2 K H A u a) else Rp K H A u v
 dis:∀i j u w a,G.is i=true->G.is j=true->i≠j->ρ[i]? = some (some u)->ρ[j]? = some (some w)->σ[i]? = some (some (.ref a))->σ[j]? = some (some (.ref a))->False
 mu:∀a,A a->Mu (H a)
 sup:∀a,Z.A0 a->A a
 out:∀a,A a->Z.A0 a\/Z.B a=none
 bas:∀a o,Z.B a=some o->H a=some o
 io0:G.io=true->σ[0]? = some (some (.ref Z.a0))/\G.is 0=true
 len:ρ.length=σ.length
section
variable {A':Vr->Prop}{G:Gm}{Z:Pkg}{ρ':Ev}
theorem cu.same (r:cu K G Z A ρ σ H)(e:aT H H'):cu K G Z A ρ σ H' where
 slot:=λi u h=>by
  obtain⟨v,h1,h2⟩:=r.slot i u h;refine⟨v,h1,?_⟩;by_cases c:G.is i=true
  ·rw[hV c] at h2 ⊢;obtain⟨a,e1,e2,e3,e4,e5⟩:=h2;exact⟨a,e1,e2,e3,e4,e5.re r.mu (eT.same e) (λb z=>.inl z) λo w=>e a o w⟩
  ·rw[hU c] at h2 ⊢;exact h2.same e
 dis:=r.dis
 mu:=λa h=>by
  have m:=r.mu a h;obtain⟨o,q⟩:=m.ex;rw[e a o q,←q];exact m
 sup:=r.sup
 out:=r.out
 bas:=λa o h=>e a o (r.bas a o h)
 io0:=r.io0
 len:=r.len
theorem cu.add (r:cu K G Z A ρ σ H)(e:aT H H')(n:H a=none)(m:Mu (H' a)):cu K G Z (λb=>A b\/b=a) ρ σ H' where
 slot:=λi u h=>by
  have q:∀b,(A b\/b=a)->A b\/H b=none:=λb z=>by
   rcases z with z|z
   ·exact .inl z
   ·subst z;exact .inr n
  obtain⟨v,h1,h2⟩:=r.slot i u h;refine⟨v,h1,?_⟩;by_cases c:G.is i=true
  ·rw[hV c] at h2 ⊢;obtain⟨b,e1,e2,e3,e4,e5⟩:=h2;exact⟨b,e1,.inl e2,e3,e4,e5.re r.mu (eT.same e) q λo w=>e b o w⟩
  ·rw[hU c] at h2 ⊢;exact h2.re r.mu (eT.same e) q
 dis:=r.dis
 mu:=λb h=>by
  rcases h with h|h
  ·exact (r.same e).mu b h
  ·subst h;exact m
 sup:=λb h=>.inl (r.sup b h)
 out:=λb h=>by
  rcases h with h|h
  ·exact r.out b h
  ·subst h;refine .inr ?_;cases q:Z.B b with
   |none=>rfl
   |some o=>rw[r.bas b o q] at n;cases n
 bas:=λa o h=>e a o (r.bas a o h)
 io0:=r.io0
 len:=r.len
theorem cu.notA (r:cu K G Z A ρ σ H)(n:H a=none):¬A a:=λz=>by
 have:=r.mu a z;rw[n] at this;exact this
theorem cu.notB (r:cu K G Z A ρ σ H)(n:H a=none):Z.B a=none:=by
 cases q:Z.B a with
 |none=>rfl
 |some o=>rw[r.bas a o q] at n;cases n
theorem cu.val (r:cu K G Z A ρ σ H)(c:G.is i=false)(h:ρ[i]? = some (some u)):∃v,σ[i]? = some (some v)/\Rp K H A u v:=by
 obtain⟨v,h1,h2⟩:=r.slot i u h;rw[hU (by rw[c];exact Vb)] at h2;exact⟨v,h1,h2⟩
theorem cu.own (r:cu K G Z A ρ σ H)(c:G.is i=true)(h:ρ[i]? = some (some u)):∃a,σ[i]? = some (some (.ref a))/\A a/\Z.B a=none/\(¬Z.A0 a\/(G.io=true/\i=0))/\j2 K H A u a:=by
 obtain⟨v,h1,h2⟩:=r.slot i u h;rw[hV c] at h2;obtain⟨a,rfl,z⟩:=h2;exact⟨a,h1,z⟩
end
end L2
variable {Z:L2.Pkg}{G:L2.Gm}
namespace L2
inductive Md where
 |S|O|P
 deriving DecidableEq
def zm (K:U7)(G:Gm)(Z:Pkg)(m:Md)(A:Vr->Prop)(ρ:Ev)(σ:St)(H:Hp)(u:U)(v:V):Prop:=match m with
 | .S=>Rp K H A u v
 | .P=>Pk K H A u v
 | .O=>∃a,v=.ref a/\¬A a/\Z.B a=none/\cu K G Z (λb=>A b\/b=a) ρ σ H/\j2 K H (λb=>A b\/b=a) u a
def De (K:U7)(m:Md)(A:Vr->Prop)(H H':Hp)(u:U)(v:V):Prop:=match m with
 | .S=>Rp K H' A u v
 | .P=>Pk K H' A u v
 | .O=>∃a,v=.ref a/\H a=none/\j2 K H' (λb=>A b\/b=a) u a
def Hm (K:U7)(G:Gm)(Z:Pkg)(A:Vr->Prop)(b:Bool)(m:Md)(ρ:Ev)(σ:St)(H:Hp):R (U×Ev)->VK->Prop
 | .ok (u,ρ'),Q=>∀v H',cu K G Z A ρ' σ H'->eT A H H'->(b=false->ρ'=ρ/\aT H H')->zm K G Z m A ρ' σ H' u v->Q v H'
 |_,_=>False
def tD (K:U7)(G:Gm)(b:Bool)(m:Md)(g:Ev->R (U×Ev)):TE:=λσ H Q=>∃Z A ρ,cu K G Z A ρ σ H/\Hm K G Z A b m ρ σ H (g ρ) Q
structure DE (X:Cx)(G:Gm)(e:W5)(b:Bool)(m:Md)(g:Ev->R (U×Ev)):Prop where
 un:PE X e (tD X.K G b m g)
def Hn (K:U7)(G:Gm)(Z:Pkg)(A:Vr->Prop)(b:Bool)(ρ:Ev)(σ:St)(H:Hp):R (Bool×Ev)->(Bool->Hp->Prop)->Prop
 | .ok (c,ρ'),Q=>∀H',cu K G Z A ρ' σ H'->eT A H H'->(b=false->ρ'=ρ/\aT H H')->Q c H'
 |_,_=>False
def Dg (K:U7)(G:Gm)(b:Bool)(g:Ev->R (Bool×Ev)):TT:=λσ H Q=>∃Z A ρ,cu K G Z A ρ σ H/\Hn K G Z A b ρ σ H (g ρ) Q
structure DT (X:Cx)(G:Gm)(e:W5)(b:Bool)(g:Ev->R (Bool×Ev)):Prop where
 un:PT X e (Dg X.K G b g)
def zo (K:U7)(H:Hp)(A:Vr->Prop):List U->List V->Prop
 | [],vs=>vs=[]
 |u::us,vs=>∃x r,vs=x::r/\Pk K H A u x/\zo K H A us r
def Ho (K:U7)(p:Bool)(A:Vr->Prop)(H:Hp)(us:List U)(vs:List V):Prop:=if p=true then zo K H A us vs else aK K H A us vs
def Hq (K:U7)(G:Gm)(Z:Pkg)(A:Vr->Prop)(b p:Bool)(ρ:Ev)(σ:St)(H:Hp):R (List U×Ev)->(List V->Hp->Prop)->Prop
 | .ok (us,ρ'),Q=>∀vs H',cu K G Z A ρ' σ H'->eT A H H'->(b=false->ρ'=ρ/\aT H H')->Ho K p A H' us vs->Q vs H'
 |_,_=>False
def QE (K:U7)(G:Gm)(b p:Bool)(g:Ev->R (List U×Ev)):TA:=λσ H Q=>∃Z A ρ,cu K G Z A ρ σ H/\Hq K G Z A b p ρ σ H (g ρ) Q
structure DA (X:Cx)(G:Gm)(es:List W5)(b p:Bool)(g:Ev->R (List U×Ev)):Prop where
 un:PA X es (QE X.K G b p g)
section
variable {e:W5}{t t':TE}
theorem PE.to (h:PE X e t)(i:∀σ H Q,t' σ H Q->t σ H Q):PE X e t':=λpins s σ H Q I q=>h pins s σ H Q I (i _ _ _ q)
theorem PT.to {t t':TT}(h:PT X e t)(i:∀σ H Q,t' σ H Q->t σ H Q):PT X e t':=λpins s σ H Q I q=>h pins s σ H Q I (i _ _ _ q)
theorem PW.to {t t':TT}(h:PW X e t)(i:∀σ H Q,t' σ H Q->t σ H Q):PW X e t':=λwhole pins s σ H Q I q=>h whole pins s σ H Q I (i _ _ _ q)
theorem PA.to {es:List W5}{t t':TA}(h:PA X es t)(i:∀σ H Q,t' σ H Q->t σ H Q):PA X es t':=λpos pins s σ H Q I q=>h pos pins s σ H Q I (i _ _ _ q)
theorem PS.to {t t':TS}(h:PS X st t)(i:∀D σ H,t' D σ H->t D σ H):PS X st t':=λpins s σ H D I q=>h pins s σ H D I (i _ _ _ q)
theorem tG.to {st:List Zf}{t t':TS}(h:tG X st t)(i:∀D σ H,t' D σ H->t D σ H):tG X st t':=λpins s σ H D I q=>h pins s σ H D I (i _ _ _ q)
theorem PG.to {t t':TG}(h:PG X e t)(i:∀v σ H Q,t' v σ H Q->t v σ H Q):PG X e t':=λpins s σ H v u Q I r q=>h pins s σ H v u Q I r (i _ _ _ _ q)
end
section
variable {A':Vr->Prop}{ρ':Ev}{m:Md}{b:Bool}
theorem zm.rp (h:zm K G Z m A ρ σ H u v)(n:m≠.P):Rp K H A u v:=by
 cases m with
 |S=>exact h
 |O=>
  obtain⟨a,rfl,na,_,_,t⟩:=h;exact t.rp (λb z=>.inl z) na
 |P=>exact absurd rfl n
theorem zm.pk (h:zm K G Z m A ρ σ H u v):Pk K H A u v:=by
 by_cases c:m=.P
 ·subst c;exact h
 ·exact (h.rp c).pk
theorem De.e (r:cu K G Z A ρ σ H)(s:aT H H')(h:De K m A H H' u v):zm K G Z m A ρ σ H' u v:=by
 cases m with
 |S=>exact h
 |P=>exact h
 |O=>
  obtain⟨a,rfl,n,t⟩:=h;exact⟨a,rfl,r.notA n,r.notB n,r.add s n t.mu,t⟩
theorem zm.later (r:cu K G Z A ρ σ H)(h:zm K G Z m A ρ σ H u v)(x:eT A H H')(s:b=false->ρ'=ρ/\aT H H')(c:m=.P->b=false):Pk K H' A u v:=by
 by_cases d:m=.P
 ·exact h.pk.same (s (c d)).2
 ·exact ((h.rp d).re r.mu x λb z=>.inl z).pk
theorem zm.laterS (r:cu K G Z A ρ σ H)(h:zm K G Z m A ρ σ H u v)(x:eT A H H')(d:m≠.P):Rp K H' A u v:=(h.rp d).re r.mu x λb z=>.inl z
theorem two {b1 b2:Bool}{ρ1 ρ2:Ev}(h1:b1=false->ρ1=ρ/\aT H H1)(h2:b2=false->ρ2=ρ1/\aT H1 H2):(b1||b2)=false->ρ2=ρ/\aT H H2:=λh=>by
 rw[Ws] at h;obtain⟨a,b⟩:=h1 h.1;obtain⟨c,d⟩:=h2 h.2;exact⟨c.trans a,b.trans d⟩
theorem pG {b1:Bool}{ρ1:Ev}(h1:b1=false->ρ1=ρ/\aT H H1)(h2:aT H1 H2):b1=false->ρ1=ρ/\aT H H2:=λh=>⟨(h1 h).1,(h1 h).2.trans h2⟩
end
noncomputable def ag (i:Nat):Ev->R (U×Ev):=λρ=>match ρ[i]? with
 |some (some u)=>.ok (u,ρ)
 |_=>.stk
noncomputable def gC (u:U):Ev->R (U×Ev):=λρ=>.ok (u,ρ)
section
variable {e a b:W5}{es:List W5}
theorem NF {b:Bool}{m:Md}(h:PE X e (Kz i))(c:G.is i=false):DE X G e false .S (ag i):=by
 refine⟨h.to λσ H Q ⟨Z,A,ρ,r,f⟩=>?_⟩;unfold ag at f;split at f
 ·rename_i u hu;obtain⟨v,h1,h2⟩:=r.val c hu;exact⟨v,h1,f v H r eT.refl (λ_=>⟨rfl,aT.refl _⟩) h2⟩
 ·exact f.elim
theorem aj (i:Nat)(hN:X.N[i]? = some x:=by rfl)(hv:GR X.env.scope x:=by first|exact Or.inl rfl|exact Or.inr (Or.inl rfl)|exact Or.inr (Or.inr rfl))(hd:(x==("__debug__":Str))=false:=by decide)
  (sW:(x==("__classdict__":Str))=false:=by decide) (c:G.is i=false:=by rfl):DE X G (.Name x pos) false .S (ag i):=NF (b:=false) (m:=.S) (lJ hN hv hd sW) c
theorem fN (i:Nat)(hN:X.N[i]? = some x:=by rfl)(hv:GR X.env.scope x:=by first|exact Or.inl rfl|exact Or.inr (Or.inl rfl)|exact Or.inr (Or.inr rfl))(hd:(x==("__debug__":Str))=false:=by decide)
  (sW:(x==("__classdict__":Str))=false:=by decide) (c:G.is i=true:=by rfl):DE X G (.Name x pos) false .P (ag i):=by
 refine⟨(lJ hN hv hd sW).to λσ H Q ⟨Z,A,ρ,r,f⟩=>?_⟩;unfold ag at f;split at f
 ·rename_i u hu;obtain⟨a,h1,_,_,_,h2⟩:=r.own c hu;exact⟨.ref a,h1,f _ H r eT.refl (λ_=>⟨rfl,aT.refl _⟩) h2.pk⟩
 ·exact f.elim
theorem Ed (h:PE X e (tC v))(r:∀K H A,Rp K H A u v):DE X G e false .S (gC u):=by
 refine⟨h.to λσ H Q ⟨Z,A,ρ,q,f⟩=>?_⟩;exact f v H q eT.refl (λ_=>⟨rfl,aT.refl _⟩) (r _ _ _)
theorem ak {i j pos}:DE X G (.Constant (.int i) j pos) false .S (gC (.int i)):=Ed KA λ_ _ _=>by unfold Rp;rfl
theorem oB {i j pos}:DE X G (.Constant (.bool i) j pos) false .S (gC (.bl i)):=Ed MY λ_ _ _=>by unfold Rp;rfl
theorem fm {j pos}:DE X G (.Constant .none j pos) false .S (gC .non):=Ed KC λ_ _ _=>by unfold Rp;rfl
theorem dD {i j pos}:DE X G (.Constant (.str i) j pos) false .S (gC (.str i)):=Ed KD λ_ _ _=>by unfold Rp;rfl
theorem Ee {i:Int}{tk:Tok}(hg:Gl X x)(hm:X.mg x=some (.int i tk))(hd:(x==("__debug__":Str))=false:=by decide):DE X G (.Name x pos) false .S (gC (.int i)):=Ed (v:=.int i) (GU hg hm ⟨_,rfl⟩ hd) λ_ _ _=>by unfold Rp;rfl
noncomputable def aG (p:U->U->R U)(g1 g2:Ev->R (U×Ev)):Ev->R (U×Ev):=λρ=>(g1 ρ).bind λx=>(g2 x.2).bind λy=>(p x.1 y.1).bind λz=>.ok (z,y.2)
def fo (K:U7)(r:R2)(m:Md)(p:U->U->R U):Prop:=∀A H x y u w z Q,Pk K H A u x->Pk K H A w y->(∀a,A a->Mu (H a))->p u w=.ok z->(∀v H',aT H H'->De K m A H H' z v->Q v H')->r x y H Q
variable {b1 b2 b3:Bool}{m1 m2 m3 mr:Md}{g1 g2 g3:Ev->R (U×Ev)}
theorem mn {p:U->U->R U}(hp:fo X.K r mr p)(hm:m1=.P->b2=false){Q:VK}(h:tD X.K G (b1||b2) mr (aG p g1 g2) σ H Q) :
  Nb r (tD X.K G b1 m1 g1) (tD X.K G b2 m2 g2) σ H Q:=by
 obtain⟨Z,A,ρ,q,f⟩:=h;unfold aG at f;refine⟨Z,A,ρ,q,?_⟩;cases e1:g1 ρ with
 |stk=>rw[e1] at f;exact f.elim
 |exc=>rw[e1] at f;exact f.elim
 |ok x=>
  obtain⟨u,ρ1⟩:=x;rw[e1] at f;intro v1 H1 q1 x1 s1 tF;refine⟨Z,A,ρ1,q1,?_⟩;cases e2:g2 ρ1 with
  |stk=>simp only[R.bind,e2] at f;exact f.elim
  |exc=>simp only[R.bind,e2] at f;exact f.elim
  |ok y=>
   obtain⟨w,ρ2⟩:=y;simp only[R.bind,e2] at f;intro v2 H2 q2 x2 s2 vf;cases e3:p u w with
   |stk=>rw[e3] at f;exact f.elim
   |exc=>rw[e3] at f;exact f.elim
   |ok z=>
    rw[e3] at f;refine hp A H2 v1 v2 u w z Q (tF.later q1 x2 s2 hm) vf.pk q2.mu e3 λv H' sm vm=>?_;exact f v H' (q2.same sm) ((x1.trans x2).trans (eT.same sm)) (pG (two s1 s2) sm) (vm.e q2 sm)
theorem aX {op:Operator}{p:U->U->R U}(ho:jJ X (Yu op) r)(hp:fo X.K r mr p)(ha:DE X G a b1 m1 g1)(hb:DE X G b b2 m2 g2)(hm:m1=.P->b2=false:=by first|exact λ_=>rfl|exact λh=>nomatch h) :
  DE X G (.BinOp a op b pos) (b1||b2) mr (aG p g1 g2):=⟨(Nc ho ha.un hb.un).to λ_ _ _=>mn hp hm⟩
theorem Le {p:U->U->R U}(ho:jJ X (WO op) r)(hp:fo X.K r mr p)(ha:DE X G a b1 m1 g1)(hb:DE X G b b2 m2 g2)(hk:Ys op b=false)(hm:m1=.P->b2=false:=by first|exact λ_=>rfl|exact λh=>nomatch h) :
  DE X G (.Compare a [op] [b] pos) (b1||b2) mr (aG p g1 g2):=⟨(G2 ho ha.un hb.un hk).to λ_ _ _=>mn hp hm⟩
theorem aH {p:U->U->R U}(ho:GF X r)(hp:fo X.K r mr p)(ha:DE X G a b1 m1 g1)(hb:DE X G b b2 m2 g2)(hs:AF b)(hm:m1=.P->b2=false:=by first|exact λ_=>rfl|exact λh=>nomatch h) :
  DE X G (.Subscript a b pos) (b1||b2) mr (aG p g1 g2):=⟨(Np ho ha.un hb.un hs).to λ_ _ _=>mn hp hm⟩
noncomputable def gB (g:Ev->R (U×Ev)):Ev->R (Bool×Ev):=λρ=>(g ρ).bind λx=>match x.1 with
 | .bl c=>.ok (c,x.2)
 |_=>.stk
theorem nG {g:Ev->R (U×Ev)}{m:Md}{Q:Bool->Hp->Prop}(h:Dg X.K G b1 (gB g) σ H Q):tD X.K G b1 m g σ H λx H'=>∃k,x=.bl k/\Q k H':=by
 obtain⟨Z,A,ρ,q,f⟩:=h;refine⟨Z,A,ρ,q,?_⟩;unfold gB at f;cases e1:g ρ with
 |stk=>rw[e1] at f;exact f.elim
 |exc=>rw[e1] at f;exact f.elim
 |ok x=>
  obtain⟨u,ρ1⟩:=x;rw[e1] at f;intro v H1 q1 x1 s1 vm;cases u with
  |bl c=>
   have e:v=.bl c:=by have:=vm.pk;unfold Pk at this;exact this
   exact⟨c,e,f H1 q1 x1 s1⟩
  |_=>exact f.elim
theorem zp (h:DE X G e b1 m1 g1)(he:∀whole,isTrue e X.env whole=(do let v ←whole;standAt e.pos;holding [v] (truthy v)):=by intro _;rfl):DT X G e b1 (gB g1):=⟨(KG h.un he).to λ_ _ _ h=>nG h⟩
theorem aN {p:U->U->R U}(ho:jJ X (WO op) r)(hp:fo X.K r mr p)(ha:DE X G a b1 m1 g1)(hb:DE X G b b2 m2 g2)(hk:Ys op b=false)(hm:m1=.P->b2=false:=by first|exact λ_=>rfl|exact λh=>nomatch h) :
  DT X G (.Compare a [op] [b] pos) (b1||b2) (gB (aG p g1 g2)):=⟨(G3 ho ha.un hb.un hk).to λ_ _ _ h=>mn hp hm (nG (m:=mr) h)⟩
end
end L2
namespace L2
section
variable {A':Vr->Prop}{ρ':Ev}{b p:Bool}{m:Md}{α:Type}
theorem Hm.bind {x:R α}{k:α->R (U×Ev)}{Q:VK}(f:Hm K G Z A b m ρ σ H (x.bind k) Q):∃a,x=.ok a/\Hm K G Z A b m ρ σ H (k a) Q:=by
 cases x with
 |ok a=>exact⟨a,rfl,f⟩
 |exc=>exact f.elim
 |stk=>exact f.elim
theorem Hn.bind {x:R α}{k:α->R (Bool×Ev)}{Q:Bool->Hp->Prop}(f:Hn K G Z A b ρ σ H (x.bind k) Q):∃a,x=.ok a/\Hn K G Z A b ρ σ H (k a) Q:=by
 cases x with
 |ok a=>exact⟨a,rfl,f⟩
 |exc=>exact f.elim
 |stk=>exact f.elim
theorem Hq.bind {x:R α}{k:α->R (List U×Ev)}{Q:List V->Hp->Prop}(f:Hq K G Z A b p ρ σ H (x.bind k) Q):∃a,x=.ok a/\Hq K G Z A b p ρ σ H (k a) Q:=by
 cases x with
 |ok a=>exact⟨a,rfl,f⟩
 |exc=>exact f.elim
 |stk=>exact f.elim
theorem Pk.bl {c:Bool}(h:Pk K H A (.bl c) v):v=.bl c:=by unfold Pk at h;exact h
theorem Pk.int {i:Int}(h:Pk K H A (.int i) v):v=.int i:=by unfold Pk at h;exact h
theorem Pk.str {i:Str}(h:Pk K H A (.str i) v):v=.str i:=by unfold Pk at h;exact h
theorem qL {c:Bool}:Rp K H A (.bl c) (.bl c):=by unfold Rp;rfl
theorem dN {c:Int}:Rp K H A (.int c) (.int c):=by unfold Rp;rfl
theorem zm.ofS (h:Rp K H A u v):zm K G Z .S A ρ σ H u v:=h
theorem qM:Rp K H A .non .non:=by unfold Rp;rfl
theorem Lf {c:Str}:Rp K H A (.str c) (.str c):=by unfold Rp;rfl
theorem aK.pks:∀{us:List U} {vs:List V},aK K H A us vs->zo K H A us vs
 | [],_,h=>by unfold aK at h;unfold zo;exact h
 |u::us,_,h=>by
  unfold aK at h;unfold zo;obtain⟨x,r,e,z,q⟩:=h;exact⟨x,r,e,z.pk,aK.pks q⟩
end
section
variable {e a b:W5}{es rest:List W5}{b1 b2 b3:Bool}{m1 m2 m3 mr:Md}{g1 g2 g3:Ev->R (U×Ev)}{h1 h2:Ev->R (Bool×Ev)}
noncomputable def nH (g1 g2:Ev->R (Bool×Ev)):Ev->R (Bool×Ev):=λρ=>(g1 ρ).bind λx=>if x.1=true then g2 x.2 else .ok (false,x.2)
noncomputable def yQ (g1 g2:Ev->R (Bool×Ev)):Ev->R (Bool×Ev):=λρ=>(g1 ρ).bind λx=>if x.1=true then .ok (true,x.2) else g2 x.2
noncomputable def Ef (g1:Ev->R (Bool×Ev)):Ev->R (Bool×Ev):=λρ=>(g1 ρ).bind λx=>.ok (!x.1,x.2)
structure DW (X:Cx)(G:Gm)(e:W5)(b:Bool)(g:Ev->R (Bool×Ev)):Prop where
 un:PW X e (Dg X.K G b g)
theorem DW.dt (h:DW X G e b1 h1):DT X G e b1 h1:=⟨PW.pt h.un⟩
theorem Eg {Q:Bool->Hp->Prop}(h:Dg X.K G (b1||b2) (nH h1 h2) σ H Q):MZ (Dg X.K G b1 h1) (Dg X.K G b2 h2) σ H Q:=by
 obtain⟨Z,A,ρ,q,f⟩:=h;obtain⟨⟨k,ρ1⟩,e1,f⟩:=f.bind;refine⟨Z,A,ρ,q,?_⟩;rw[e1];intro H1 q1 x1 s1;cases k with
 |true=>
  rw[hV rfl] at f ⊢;refine⟨Z,A,ρ1,q1,?_⟩;dsimp only at f;cases e2:h2 ρ1 with
  |ok y=>rw[e2] at f;exact λH2 q2 x2 s2=>f H2 q2 (x1.trans x2) (two s1 s2)
  |exc=>rw[e2] at f;exact f.elim
  |stk=>rw[e2] at f;exact f.elim
 |false=>
  rw[hU Vb] at f ⊢;exact f H1 q1 x1 λz=>s1 (Ws.mp z).1
theorem Hr {Q:Bool->Hp->Prop}(h:Dg X.K G (b1||b2) (yQ h1 h2) σ H Q):Sb (Dg X.K G b1 h1) (Dg X.K G b2 h2) σ H Q:=by
 obtain⟨Z,A,ρ,q,f⟩:=h;obtain⟨⟨k,ρ1⟩,e1,f⟩:=f.bind;refine⟨Z,A,ρ,q,?_⟩;rw[e1];intro H1 q1 x1 s1;cases k with
 |false=>
  rw[hU Vb] at f ⊢;refine⟨Z,A,ρ1,q1,?_⟩;dsimp only at f;cases e2:h2 ρ1 with
  |ok y=>rw[e2] at f;exact λH2 q2 x2 s2=>f H2 q2 (x1.trans x2) (two s1 s2)
  |exc=>rw[e2] at f;exact f.elim
  |stk=>rw[e2] at f;exact f.elim
 |true=>
  rw[hV rfl] at f ⊢;exact f H1 q1 x1 λz=>s1 (Ws.mp z).1
theorem jx (ha:DT X G a b1 h1):DW X G (.BoolOp .And [a] pos) b1 h1:=⟨GV ha.un⟩
theorem qN (ha:DT X G a b1 h1):DW X G (.BoolOp .Or [a] pos) b1 h1:=⟨KI ha.un⟩
theorem jy (ha:DT X G a b1 h1)(hb:DW X G (.BoolOp .And (b::rest) pos) b2 h2):DW X G (.BoolOp .And (a::b::rest) pos) (b1||b2) (nH h1 h2):=⟨(KJ ha.un hb.un).to λ_ _ _=>Eg⟩
theorem oC (ha:DT X G a b1 h1)(hb:DW X G (.BoolOp .Or (b::rest) pos) b2 h2):DW X G (.BoolOp .Or (a::b::rest) pos) (b1||b2) (yQ h1 h2):=⟨(M5 ha.un hb.un).to λ_ _ _=>Hr⟩
theorem Eh (ha:DT X G a b1 h1):DT X G (.UnaryOp .Not a pos) b1 (Ef h1):=⟨(KL ha.un).to λσ H Q h=>by
 obtain⟨Z,A,ρ,q,f⟩:=h;obtain⟨⟨k,ρ1⟩,e1,f⟩:=f.bind;refine⟨Z,A,ρ,q,?_⟩;rw[e1];exact λH1 q1 x1 s1=>f H1 q1 x1 s1⟩
noncomputable def QF (g1 g2:Ev->R (U×Ev)):Ev->R (U×Ev):=λρ=>(gB g1 ρ).bind λx=>if x.1=true then g2 x.2 else .ok (.bl false,x.2)
noncomputable def Tn (g1 g2:Ev->R (U×Ev)):Ev->R (U×Ev):=λρ=>(gB g1 ρ).bind λx=>if x.1=true then .ok (.bl true,x.2) else g2 x.2
noncomputable def QG (g1:Ev->R (U×Ev)):Ev->R (U×Ev):=λρ=>(gB g1 ρ).bind λx=>.ok (.bl (!x.1),x.2)
noncomputable def QH (h:Ev->R (Bool×Ev))(g1 g2:Ev->R (U×Ev)):Ev->R (U×Ev):=λρ=>(h ρ).bind λx=>if x.1=true then g1 x.2 else g2 x.2
theorem Ei (TY:m1≠.P:=by decide)(Kk:m2≠.P:=by decide)(hc:DT X G c b1 h1)(ha:DE X G a b2 m1 g1)(hb:DE X G b b3 m2 g2):DE X G (.IfExp c a b pos) (b1||(b2||b3)) .S (QH h1 g1 g2):=⟨(Dk hc.un ha.un hb.un).to λσ H Q h=>by
 obtain⟨Z,A,ρ,q,f⟩:=h;obtain⟨⟨k,ρ1⟩,e1,f⟩:=f.bind;refine⟨Z,A,ρ,q,?_⟩;rw[e1];intro H1 q1 x1 s1;cases k with
 |true=>
  rw[hV rfl] at f ⊢;refine⟨Z,A,ρ1,q1,?_⟩;dsimp only at f;cases e2:g1 ρ1 with
  |ok y=>rw[e2] at f;exact λv2 H2 q2 x2 s2 vf=>f v2 H2 q2 (x1.trans x2) (two s1 λz=>s2 (Ws.mp z).1) (vf.rp TY)
  |exc=>rw[e2] at f;exact f.elim
  |stk=>rw[e2] at f;exact f.elim
 |false=>
  rw[hU Vb] at f ⊢;refine⟨Z,A,ρ1,q1,?_⟩;dsimp only at f;cases e2:g2 ρ1 with
  |ok y=>rw[e2] at f;exact λv2 H2 q2 x2 s2 vf=>f v2 H2 q2 (x1.trans x2) (two s1 λz=>s2 (Ws.mp z).2) (vf.rp Kk)
  |exc=>rw[e2] at f;exact f.elim
  |stk=>rw[e2] at f;exact f.elim⟩
noncomputable def qO (p p':U->U->R U)(g1 g2 g3:Ev->R (U×Ev)):Ev->R (U×Ev):=λρ=>(g1 ρ).bind λx=>(g2 x.2).bind λy=>(p x.1 y.1).bind λz=>match z with
 | .bl k=>if k=true then (g3 y.2).bind λw=>(p' y.1 w.1).bind λz'=>.ok (z',w.2) else .ok (.bl false,y.2)
 |_=>.stk
theorem zq {p p':U->U->R U}(hp:fo X.K r .S p)(BY:fo X.K r' .S p')(n1:m1≠.P)(n2:m2≠.P){Q:VK}(h:tD X.K G (b1||(b2||b3)) .S (qO p p' g1 g2 g3) σ H Q) :
  DB r r' (tD X.K G b1 m1 g1) (tD X.K G b2 m2 g2) (tD X.K G b3 m3 g3) σ H Q:=by
 obtain⟨Z,A,ρ,q,f⟩:=h;obtain⟨⟨u,ρ1⟩,e1,f⟩:=f.bind;obtain⟨⟨w,ρ2⟩,e2,f⟩:=f.bind;obtain⟨z,e3,f⟩:=f.bind;refine⟨Z,A,ρ,q,?_⟩;rw[e1];intro v1 H1 q1 x1 s1 tF;refine⟨Z,A,ρ1,q1,?_⟩;dsimp only at e2;rw[e2];intro v2 H2 q2 x2 s2 vf;refine hp A H2 v1 v2 u w z _ (tF.laterS q1 x2 n1).pk vf.pk q2.mu e3 λv H3 sm vm=>?_;cases z with
 |bl k=>
  refine⟨k,(show Rp X.K H3 A (.bl k) v from vm).pk.bl,?_⟩;have q3:=q2.same sm;cases k with
  |false=>
   rw[hU Vb];exact f _ H3 q3 ((x1.trans x2).trans (eT.same sm)) (λz=>by
    obtain⟨a,b⟩:=Ws.mp z;exact pG (two s1 s2) sm (by rw[a,(Ws.mp b).1];rfl)) (zm.ofS qL)
  |true=>
   rw[hV rfl];dsimp only at f;rw[hV rfl] at f;obtain⟨⟨w3,ρ3⟩,e4,f⟩:=f.bind;obtain⟨z',e5,f⟩:=f.bind;refine⟨Z,A,ρ2,q3,?_⟩;rw[e4];intro v4 H4 q4 x4 s4 TZ;refine BY A H4 v2 v4 w w3 z' Q ((vf.rp n2).same sm |>.re q3.mu x4 (λb z=>.inl z)).pk TZ.pk q4.mu e5 λv5 H5 Ko T2=>?_;refine f v5 H5 (q4.same Ko) (((x1.trans x2).trans (eT.same sm)).trans (x4.trans (eT.same Ko))) ?_ (T2.e q4 Ko);intro z;obtain⟨a,b⟩:=Ws.mp z;obtain⟨b,c⟩:=Ws.mp b;exact pG (two (pG (two s1 s2) sm) s4) Ko (by rw[a,b,c];rfl)
 |_=>exact f.elim
theorem xp {Mq:CmpOp}{p p':U->U->R U}(ho:jJ X (WO op) r)(hp:fo X.K r .S p)(Gn:jJ X (WO Mq) r')(BY:fo X.K r' .S p')(ha:DE X G a b1 m1 g1)(hb:DE X G b b2 m2 g2)(hc:DE X G c b3 m3 g3)(n1:m1≠.P:=by decide)(n2:m2≠.P:=by decide)(hm:lastMarks [op,Mq] [b,c]=false:=by with_unfolding_all rfl):DT X G (.Compare a [op,Mq] [b,c] pos) (b1||(b2||b3)) (gB (qO p p' g1 g2 g3)):=⟨(DC ho Gn ha.un hb.un hc.un hm).to λ_ _ _ h=>zq hp BY n1 n2 (nG (m:=.S) h)⟩
noncomputable def To (p:U->R U)(g:Ev->R (U×Ev)):Ev->R (U×Ev):=λρ=>(g ρ).bind λx=>(p x.1).bind λz=>.ok (z,x.2)
noncomputable def ar:Ev->R (List U×Ev):=λρ=>.ok ([],ρ)
noncomputable def af (g:Ev->R (U×Ev))(ga:Ev->R (List U×Ev)):Ev->R (List U×Ev):=λρ=>(g ρ).bind λx=>(ga x.2).bind λy=>.ok (x.1::y.1,y.2)
variable {ga:Ev->R (List U×Ev)}{p:Bool}
theorem ai:DA X G [] false p ar:=⟨qo.to λσ H Q ⟨Z,A,ρ,q,f⟩=>f [] H q eT.refl (λ_=>⟨rfl,aT.refl _⟩) (by unfold Ho;split;exact rfl;exact aK.nil)⟩
theorem ae (ha:DE X G e b1 m1 g1)(hr:DA X G es b2 p ga)(hm:m1=.P->(p=true/\b2=false):=by first|exact λ_=>⟨rfl,rfl⟩|exact λh=>nomatch h)
  (hs:Vx (e::es) X.env=(false,YD e X.env)::Vx es X.env:=by rfl):DA X G (e::es) (b1||b2) p (af g1 ga):=⟨(ma ha.un hr.un hs).to λσ H Q h=>by
 obtain⟨Z,A,ρ,q,f⟩:=h;obtain⟨⟨u,ρ1⟩,e1,f⟩:=f.bind;obtain⟨⟨us,ρ2⟩,e2,f⟩:=f.bind;refine⟨Z,A,ρ,q,?_⟩;rw[e1];intro v1 H1 q1 x1 s1 tF;refine⟨Z,A,ρ1,q1,?_⟩;dsimp only at e2;rw[e2];intro vs H2 q2 x2 s2 vf;refine f (v1::vs) H2 q2 (x1.trans x2) (two s1 s2) ?_;unfold Ho at vf ⊢;cases p with
 |true=>
  rw[hV rfl] at vf ⊢;exact⟨v1,vs,rfl,tF.later q1 x2 s2 (λz=>(hm z).2),vf⟩
 |false=>
  rw[hU Vb] at vf ⊢;exact aK.cons (tF.laterS q1 x2 λz=>Vb (hm z).1) vf⟩
theorem Ho.pks (h:Ho K p A H us vs):zo K H A us vs:=by
 unfold Ho at h;cases p with
 |true=>rw[hV rfl] at h;exact h
 |false=>rw[hU Vb] at h;exact h.pks
theorem Ho.rps (h:Ho K false A H us vs):aK K H A us vs:=by
 unfold Ho at h;rw[hU Vb] at h;exact h
noncomputable def aL (ga:Ev->R (List U×Ev)):Ev->R (U×Ev):=λρ=>(ga ρ).bind λx=>if x.1.length<=Vf then .ok (.tup x.1,x.2) else .stk
noncomputable def bX (ga:Ev->R (List U×Ev)):Ev->R (U×Ev):=λρ=>(ga ρ).bind λx=>if x.1.length<=Vf then .ok (.lst x.1,x.2) else .stk
theorem cN {p:Vr}(h:H p=none)(o:HO):aT H (cQ H p o):=λb u q=>by rw[bg (bM q h)];exact q
theorem uw {a:Vr}(h:aK K H A us vs)(n:H a=none)(l:us.length<=Vf):Rp K (cQ H a (.tup vs)) A (.tup us) (.ref a):=by
 unfold Rp;exact⟨a,vs,rfl,bI,l,h.same (cN n _)⟩
theorem bC {a:Vr}(m:∀b,A b->Mu (H b))(h:aK K H A us vs)(n:H a=none)(l:us.length<=Vf):j2 K (cQ H a (.lst vs)) (λb=>A b\/b=a) (.lst us) a:=
 ⟨vs,bI,l,h.re m (eT.same (cN n _)) λb z=>by
  rcases z with z|z
  ·exact .inl z
  ·subst z;exact .inr n⟩
theorem aO {x1}(h:DA X G es b1 false ga):DE X G (.Tuple es x1 pos) b1 .S (aL ga):=⟨(KZ h.un).to λσ H Q h=>by
 obtain⟨Z,A,ρ,q,f⟩:=h;obtain⟨⟨us,ρ1⟩,e1,f⟩:=f.bind;refine⟨Z,A,ρ,q,?_⟩;rw[e1];intro vs H1 q1 x1 s1 tF;dsimp only at f;split at f
 ·rename_i l;refine⟨by rw[←tF.rps.length];exact l,λa n=>?_⟩;exact f _ _ (q1.same (cN n _)) (x1.trans (eT.same (cN n _))) (pG s1 (cN n _)) (zm.ofS (uw tF.rps n l))
 ·exact f.elim⟩
theorem bT (h:DA X G es b1 false ga):DE X G (.List es pos) b1 .O (bX ga):=⟨(DF h.un).to λσ H Q h=>by
 obtain⟨Z,A,ρ,q,f⟩:=h;obtain⟨⟨us,ρ1⟩,e1,f⟩:=f.bind;refine⟨Z,A,ρ,q,?_⟩;rw[e1];intro vs H1 q1 x1 s1 tF;dsimp only at f;split at f
 ·rename_i l;refine⟨by rw[←tF.rps.length];exact l,λa n=>?_⟩;exact f _ _ (q1.same (cN n _)) (x1.trans (eT.same (cN n _))) (pG s1 (cN n _)) (De.e q1 (cN n _) ⟨a,rfl,n,bC q1.mu tF.rps n l⟩)
 ·exact f.elim⟩
noncomputable def gz (p:List U->R U)(ga:Ev->R (List U×Ev)):Ev->R (U×Ev):=λρ=>(ga ρ).bind λx=>(p x.1).bind λz=>.ok (z,x.2)
def j3 (K:U7)(r:List V->Hp->VK->Prop)(m:Md)(p:List U->R U):Prop:=∀A H vs us z Q,zo K H A us vs->(∀a,A a->Mu (H a))->p us=.ok z->(∀v H',aT H H'->De K m A H H' z v->Q v H')->r vs H Q
theorem p0 {r:List V->Hp->VK->Prop}{f:List U->R U}(hp:j3 X.K r mr f){Q:VK}(h:tD X.K G b1 mr (gz f ga) σ H Q):Qz r (QE X.K G b1 p ga) σ H Q:=by
 obtain⟨Z,A,ρ,q,f⟩:=h;obtain⟨⟨us,ρ1⟩,e1,f⟩:=f.bind;obtain⟨z,e2,f⟩:=f.bind;refine⟨Z,A,ρ,q,?_⟩;rw[e1];intro vs H1 q1 x1 s1 tF;exact hp A H1 vs us z Q tF.pks q1.mu e2 λv H' sm vm=>f v H' (q1.same sm) (x1.trans (eT.same sm)) (pG s1 sm) (vm.e q1 sm)
theorem aW {id:String}{p1:Pos}{r:List V->Hp->VK->Prop}{f:List U->R U}(hc:eH X (.builtin id) r)(hp:j3 X.K r mr f)(hg:Gl X x)(hm:X.mg x=none)(hv:We x=some (.builtin id))(ha:DA X G (e::es) b1 true ga)(hn:x≠"__name__":=by decide)(Aq:(x==("__debug__":Str))=false:=by decide)
  (he:Vx (e::es) X.env=(false,YD e X.env)::Vx es X.env:=by rfl) (tE:(XR pos (Vx es X.env)).any (·.1)=false:=by rfl):DE X G (.Call (.Name x p1) (e::es) [] pos) b1 mr (gz f ga):=⟨(qp hc hg hm hv ha.un hn Aq he tE).to λ_ _ _=>p0 hp⟩
theorem gY {T:String}{p1:Pos}{r:List V->Hp->VK->Prop}{f:List U->R U}(hc:eH X (.type T) r)(hp:j3 X.K r mr f)(hg:Gl X x)(hm:X.mg x=none)(hv:We x=some (.type T))(ha:DA X G (e::es) b1 true ga)(hn:x≠"__name__":=by decide)(Aq:(x==("__debug__":Str))=false:=by decide)
  (he:Vx (e::es) X.env=(false,YD e X.env)::Vx es X.env:=by rfl) (tE:(XR pos (Vx es X.env)).any (·.1)=false:=by rfl):DE X G (.Call (.Name x p1) (e::es) [] pos) b1 mr (gz f ga):=⟨(je hc hg hm hv ha.un hn Aq he tE).to λ_ _ _=>p0 hp⟩
end
end L2
namespace L2
section
variable {A':Vr->Prop}{ρ':Ev}{b p:Bool}{m:Md}{α:Type}
theorem j2.mono (n:∀b,A' b->A b)(h:j2 K H A u a):j2 K H A' u a:=by
 cases u<;>(unfold j2 at h ⊢)
 case lst us=>obtain⟨xs,q,l,z⟩:=h;exact⟨xs,q,l,z.mono n⟩
 case dct ks us=>obtain⟨xs,q,l,z⟩:=h;exact⟨xs,q,l,z.mono n⟩
 all_goals exact h.elim
theorem cR {α:Type}{l:List (Option α)}{x:Option α}{y:α}(h:(l.set i x)[j]? = some (some y)):(i=j/\x=some y)\/(i≠j/\l[j]? = some (some y)):=by
 by_cases e:i=j
 ·subst e;rw[List.getElem?_set_self'] at h;refine .inl ⟨rfl,?_⟩;cases q:l[i]? with
  |none=>rw[q] at h;cases h
  |some w=>rw[q] at h;exact Vy h
 ·rw[VH e] at h;exact .inr ⟨e,h⟩
theorem p6 {α:Type}{l l':List (Option α)}{x:α}{β:Type}{k:List (Option β)}{y:Option β}{z:β}(hl:k.length=l.length)(h:(k.set i y)[i]? = some (some z)):(l.set i (some x))[i]? = some (some x):=by
 have:i<l.length:=by
  have:=(Vg.mp h).1;rw[Wl] at this;lia
 rw[Xw this]
theorem cu.set (r:cu K G Z A ρ σ H)(c:G.is i=false)(h:Rp K H A u v):cu K G Z A (ρ.set i (some u)) (σ.set i (some v)) H where
 slot:=λj w hj=>by
  rcases cR hj with⟨rfl,e⟩|⟨ne,e⟩
  ·cases e;refine⟨v,p6 (l':=σ) r.len hj,?_⟩;rw[hU (by rw[c];exact Vb)];exact h
  ·rw[VH ne];exact r.slot j w e
 dis:=λj k w w' a cj ck ne hj hk sj sk=>by
  rcases cR hj with⟨rfl,_⟩|⟨n1,e1⟩
  ·rw[c] at cj;cases cj
  ·rcases cR hk with⟨rfl,_⟩|⟨n2,e2⟩
   ·rw[c] at ck;cases ck
   ·rw[VH n1] at sj;rw[VH n2] at sk;exact r.dis j k w w' a cj ck ne e1 e2 sj sk
 mu:=r.mu
 sup:=r.sup
 out:=r.out
 bas:=r.bas
 io0:=λh0=>by
  obtain⟨a,b⟩:=r.io0 h0;refine⟨?_,b⟩;have:i≠0:=λz=>by subst z;rw[b] at c;cases c
  rw[VH this];exact a
 len:=by rw[Wl,Wl];exact r.len
theorem cu.drop (r:cu K G Z A ρ σ H)(i:Nat):cu K G Z A (ρ.set i none) σ H where
 slot:=λj w hj=>by
  rcases cR hj with⟨rfl,e⟩|⟨ne,e⟩
  ·cases e
  ·exact r.slot j w e
 dis:=λj k w w' a cj ck ne hj hk sj sk=>by
  rcases cR hj with⟨rfl,e⟩|⟨n1,e1⟩
  ·cases e
  ·rcases cR hk with⟨rfl,e⟩|⟨n2,e2⟩
   ·cases e
   ·exact r.dis j k w w' a cj ck ne e1 e2 sj sk
 mu:=r.mu
 sup:=r.sup
 out:=r.out
 bas:=r.bas
 io0:=r.io0
 len:=by rw[Wl];exact r.len
theorem cu.setO (r:cu K G Z A ρ σ H)(c:G.is i=true)(hi:G.io=true->i≠0)(na:¬A a)(nb:Z.B a=none)(r':cu K G Z (λb=>A b\/b=a) ρ σ H)(h:j2 K H (λb=>A b\/b=a) u a) :
  cu K G Z (λb=>A b\/b=a) (ρ.set i (some u)) (σ.set i (some (.ref a))) H where
 slot:=λj w hj=>by
  rcases cR hj with⟨rfl,e⟩|⟨ne,e⟩
  ·cases e;refine⟨.ref a,p6 (l':=σ) r.len hj,?_⟩;rw[hV c];exact⟨a,rfl,.inr rfl,nb,.inl λz=>na (r.sup a z),h⟩
  ·rw[VH ne];exact r'.slot j w e
 dis:=λj k w w' b cj ck ne hj hk sj sk=>by
  have key:∀k w',G.is k=true->i≠k->ρ[k]? = some (some w')->σ[k]? ≠ some (some (.ref a)):=λk w' ck _ e q=>by
   obtain⟨b,h1,h2,_⟩:=r.own ck e;rw[h1] at q;cases q;exact na h2
  rcases cR hj with⟨rfl,e1⟩|⟨n1,e1⟩
  ·rcases cR hk with⟨rfl,_⟩|⟨n2,e2⟩
   ·exact ne rfl
   ·rw[p6 (l':=σ) r.len hj] at sj;cases sj;rw[VH n2] at sk;exact key k w' ck n2 e2 sk
  ·rcases cR hk with⟨rfl,e2⟩|⟨n2,e2⟩
   ·rw[p6 (l':=σ) r.len hk] at sk;cases sk;rw[VH n1] at sj;exact key j w cj n1 e1 sj
   ·rw[VH n1] at sj;rw[VH n2] at sk;exact r.dis j k w w' b cj ck ne e1 e2 sj sk
 mu:=r'.mu
 sup:=r'.sup
 out:=r'.out
 bas:=r'.bas
 io0:=λh0=>by
  obtain⟨a,b⟩:=r.io0 h0;exact⟨by rw[VH (hi h0)];exact a,b⟩
 len:=by rw[Wl,Wl];exact r.len
theorem cu.put (r:cu K G Z A ρ σ H){w:U}(c:G.is i=true)(h:ρ[i]? = some (some u))(ha:σ[i]? = some (some (.ref a)))(e:∀b o,b≠a->H b=some o->H' b=some o)(t:j2 K H' A w a) :
  cu K G Z A (ρ.set i (some w)) σ H':=by
 obtain⟨a',h1,h2,h3,h4,h5⟩:=r.own c h;rw[ha] at h1;cases h1;have x:eT A H H':=λb o nb z=>e b o (λq=>nb (q▸h2)) z;exact {
  slot:=λj y hj=>by
   rcases cR hj with⟨rfl,q⟩|⟨ne,q⟩
   ·cases q;refine⟨.ref a,ha,?_⟩;rw[hV c];exact⟨a,rfl,h2,h3,h4,t⟩
   ·obtain⟨v,s1,s2⟩:=r.slot j y q;refine⟨v,s1,?_⟩;by_cases cj:G.is j=true
    ·rw[hV cj] at s2 ⊢;obtain⟨b,e1,e2,e3,e4,e5⟩:=s2;refine⟨b,e1,e2,e3,e4,e5.re r.mu x (λb z=>.inl z) λo z=>e b o (λq'=>?_) z⟩;subst q' e1;exact r.dis i j u y b c cj ne h q ha s1
    ·rw[hU cj] at s2 ⊢;exact s2.re r.mu x λb z=>.inl z
  dis:=λj k y y' b cj ck ne hj hk sj sk=>by
   have f:∀j y,(ρ.set i (some w))[j]? = some (some y)->∃y',ρ[j]? = some (some y'):=λj y hj=>by
    rcases cR hj with⟨rfl,q⟩|⟨ne,q⟩
    ·exact⟨u,h⟩
    ·exact⟨y,q⟩
   obtain⟨y1,hj⟩:=f j y hj;obtain⟨y2,hk⟩:=f k y' hk;exact r.dis j k y1 y2 b cj ck ne hj hk sj sk
  mu:=λb z=>by
   by_cases q:b=a
   ·subst q;exact t.mu
   ·have m:=r.mu b z;obtain⟨o,z⟩:=m.ex;rw[e b o q z,←z];exact m
  sup:=r.sup
  out:=r.out
  bas:=λb o z=>e b o (λq=>by subst q;rw[h3] at z;cases z) (r.bas b o z)
  io0:=r.io0
  len:=by rw[Wl];exact r.len}
end
def NG (K:U7)(m:Md)(A:Vr->Prop)(H:Hp):R U->VK->Prop
 | .ok u,Q=>∀v H',aT H H'->De K m A H H' u v->Q v H'
 |_,_=>False
noncomputable def zt {α:Type}(n:Nat)(g:List U->R α)(us:List U):R α:=if us.length=n then g us else .stk
def gH (K:U7)(n:Nat)(f:List U->R U)(m:Md):Sp:=λvs H Q _=>∃us A,aK K H A us vs/\(∀a,A a->Mu (H a))/\NG K m A H (zt n f us) Q
def IZ (K:U7)(n:Nat)(f:List U->R (U×U)):Sp:=λvs H Q _=>∃u0 us a0 vs' A,vs=.ref a0::vs'/\A a0/\j2 K H A u0 a0/\aK K H A us vs'/\(∀a,A a->Mu (H a))/\match zt n f (u0::us) with
 | .ok (u,w)=>∀v H',(∀b o,b≠a0->H b=some o->H' b=some o)->j2 K H' A w a0->Rp K H' A u v->Q v H'
 |_=>False
section
variable {e a b:W5}{es rest:List W5}{p1:Pos}{b1 b2 b3:Bool}{m1 m2 m3 mr:Md}{g1 g2 g3:Ev->R (U×Ev)}{h1 h2:Ev->R (Bool×Ev)}{ga:Ev->R (List U×Ev)}
noncomputable def eQ (n:Nat)(f:List U->R U)(ga:Ev->R (List U×Ev)):Ev->R (U×Ev):=λρ=>(ga ρ).bind λx=>(zt n f x.1).bind λz=>.ok (z,x.2)
theorem aD {f:List U->R U}(F:Fn X.prog X.w X.K X.mg X.base x k ps (gH X.K n f mr))(hr:fh k X.A)(ha:DA X G (e::es) b1 false ga)(hg:Gl X x:=by rfl)(Aq:(x==("__debug__":Str))=false:=by decide)(he:Vx (e::es) X.env=(false,YD e X.env)::Vx es X.env:=by rfl)(tE:(XR pos (Vx es X.env)).any (·.1)=false:=by rfl):DE X G (.Call (.Name x p1) (e::es) [] pos) b1 mr (eQ n f ga):=⟨(xm F hr ha.un hg Aq he tE).to λσ H Q h=>by
 obtain⟨Z,A,ρ,q,f⟩:=h;obtain⟨⟨us,ρ1⟩,e1,f⟩:=f.bind;obtain⟨z,e2,f⟩:=f.bind;refine⟨Z,A,ρ,q,?_⟩;rw[e1];intro vs H1 q1 x1 s1 tF;show gH _ _ _ _ _ _ _ _;rw[VU];refine⟨us,A,tF.rps,q1.mu,?_⟩;dsimp only at e2;rw[e2];exact λv H' sm vm=>f v H' (q1.same sm) (x1.trans (eT.same sm)) (pG s1 sm) (vm.e q1 sm)⟩
noncomputable def live (ρ:Ev)(i:Nat):Bool:=match ρ[i]? with
 |some (some _)=>true
 |_=>false
theorem AI (h:live ρ i=true):∃u,ρ[i]? = some (some u):=by
 unfold live at h;split at h
 ·rename_i u hu;exact⟨u,hu⟩
 ·cases h
noncomputable def zu (n i:Nat)(f:List U->R (U×U))(ga:Ev->R (List U×Ev)):Ev->R (U×Ev):=λρ=>if live ρ i=true then (ga ρ).bind λx=>match x.2[i]? with
 |some (some u0)=>(zt n f (u0::x.1)).bind λz=>.ok (z.1,x.2.set i (some z.2))
 |_=>.stk
 else .stk
theorem j4 {y:Str}{p2:Pos}{f:List U->R (U×U)}(F:Fn X.prog X.w X.K X.mg X.base x k ps (IZ X.K n f))(hr:fh k X.A)(ha:DA X G es b1 false ga)(hN:X.N[i]? = some y:=by rfl)(hv:GR X.env.scope y:=by first|exact Or.inl rfl|exact Or.inr (Or.inl rfl)|exact Or.inr (Or.inr rfl))(c:G.is i=true:=by rfl)(hd:(y==("__debug__":Str))=false:=by decide)(sW:(y==("__classdict__":Str))=false:=by decide)(hs:Vx (.Name y p2::es) X.env=(false,YD (.Name y p2) X.env)::Vx es X.env:=by rfl)(hg:Gl X x:=by rfl)(Aq:(x==("__debug__":Str))=false:=by decide)(tE:(XR pos (Vx es X.env)).any (·.1)=false:=by rfl):DE X G (.Call (.Name x p1) (.Name y p2::es) [] pos) true .S (zu n i f ga):=⟨(xm F hr (ma (lJ hN hv hd sW) ha.un hs) hg Aq hs tE).to λσ H Q h=>by
 obtain⟨Z,A,ρ,q,f⟩:=h;unfold zu at f;split at f
 ·rename_i hl;obtain⟨u00,hu0⟩:=AI hl;obtain⟨a0,h0,_⟩:=q.own c hu0;obtain⟨⟨us,ρ1⟩,e1,f⟩:=f.bind;dsimp only at f;split at f
  ·rename_i u0 hu;obtain⟨⟨z,w⟩,e2,f⟩:=f.bind;refine⟨.ref a0,h0,Z,A,ρ,q,?_⟩;rw[e1];intro vs H1 q1 x1 s1 tF;obtain⟨a0',k1,k2,_,_,k3⟩:=q1.own c hu;rw[h0] at k1;cases k1;show IZ _ _ _ _ _ _ _;rw[VU];refine⟨u0,us,a0,vs,A,rfl,k2,k3,tF.rps,q1.mu,?_⟩;rw[e2];intro v H' em tp rp;exact f v H' (q1.put c hu h0 em tp) (x1.trans λb o nb z=>em b o (λy=>nb (y▸k2)) z) (λz=>nomatch z) rp
  ·exact f.elim
 ·exact f.elim⟩
def Ej (K:U7)(T:String)(r:V->List V->Hp->VK->Prop)(p:U->List U->R (U×U)):Prop:=∀A H a u vs us z w Q,j2 K H A u a->A a->aK K H A us vs->(∀a,A a->Mu (H a))->p u us=.ok (z,w)->
 (∀v H',(∀b o,b≠a->H b=some o->H' b=some o)->j2 K H' A w a->Rp K H' A z v->Q v H')->r (.ref a) vs H Q
noncomputable def Cg:U->String->Bool
 | .lst _,T=>T=="list"
 |_,_=>false
theorem Lg {a:Vr}{T:String}(h:j2 K H A u a)(t:Cg u T=true):QA K T (.ref a) H:=by
 cases u<;>(unfold Cg at t;unfold j2 at h)
 case lst us=>
  obtain⟨xs,q,_⟩:=h;exact .inl ⟨by simpa using t,xs,.inl (.inl q)⟩
 all_goals cases t
noncomputable def gM (T:String)(i:Nat)(p:U->List U->R (U×U))(ga:Ev->R (List U×Ev)):Ev->R (U×Ev):=λρ=>match ρ[i]? with
 |some (some u1)=>if Cg u1 T=true then (ga ρ).bind λx=>match x.2[i]? with
  |some (some u0)=>(p u0 x.1).bind λz=>.ok (z.1,x.2.set i (some z.2))
  |_=>.stk
  else .stk
 |_=>.stk
theorem Ek {T:String}{r:V->List V->Hp->VK->Prop}{p:U->List U->R (U×U)}(hp:Ej X.K T r p)(c:G.is i=true){Q:VK}(h:tD X.K G true .S (gM T i p ga) σ H Q) :
  Sf X.K T r (Kz i) (QE X.K G b1 false ga) σ H Q:=by
 obtain⟨Z,A,ρ,q,f⟩:=h;unfold gM at f;split at f
 ·rename_i u1 kE;split at f
  ·rename_i ht;obtain⟨a0,h0,_,_,_,t0⟩:=q.own c kE;obtain⟨⟨us,ρ1⟩,e1,f⟩:=f.bind;dsimp only at f;split at f
   ·rename_i u0 hu;obtain⟨⟨z,w⟩,e2,f⟩:=f.bind;refine⟨.ref a0,h0,Lg t0 ht,Z,A,ρ,q,?_⟩;rw[e1];intro vs H1 q1 x1 s1 tF;obtain⟨a0',k1,k2,_,_,k3⟩:=q1.own c hu;rw[h0] at k1;cases k1;exact hp A H1 a0 u0 vs us z w Q k3 k2 tF.rps q1.mu e2 λv H' em tp rp=>f v H' (q1.put c hu h0 em tp) (x1.trans λb o nb z=>em b o (λy=>nb (y▸k2)) z) (λz=>nomatch z) rp
   ·exact f.elim
  ·exact f.elim
 ·exact f.elim
theorem lL {T id:String}{y name:Str}{p2 gj:Pos}{r:V->List V->Hp->VK->Prop}{p:U->List U->R (U×U)}(pa:PlainAttrs T)(slot:Slot T name id)(RB:typeOf (.builtin id)=pure (.type "method_descriptor"))(hm:IU X id r)(hp:Ej X.K T r p)(ha:DA X G (e::es) b1 false ga)(hN:X.N[i]? = some y:=by rfl)(hv:GR X.env.scope y:=by first|exact Or.inl rfl|exact Or.inr (Or.inl rfl)|exact Or.inr (Or.inr rfl))(c:G.is i=true:=by rfl)(hd:(y==("__debug__":Str))=false:=by decide)(sW:(y==("__classdict__":Str))=false:=by decide)(yJ:Y5 (.Name y p2) name X.env (YD (.Name y p2) X.env)=YD (.Name y p2) X.env:=by rfl)(Gp:((XR pos (Vx (e::es) X.env)).all (λx=> !x.1)&&(backToKw pos (ZR [] X.env)).all (λx=>x.1.isSome)
   && decide ((e::es).length+([]:List Zz).length+(if ([]:List Zz).isEmpty then 0 else 1)<30))=true:=by rfl)(yK:(gj.endLine==pos.line)=true:=by rfl)(hs:Vx (e::es) X.env=(false,YD e X.env)::Vx es X.env:=by rfl)(sX:(XR pos (Vx es X.env)).any (·.1)=false:=by rfl) :
  DE X G (.Call (.Attribute (.Name y p2) name gj) (e::es) [] pos) true .S (gM T i p ga):=⟨(IV pa slot RB hm (lJ hN hv hd sW) ha.un yJ Gp yK hs sX).to λ_ _ _=>Ek hp c⟩
def El (K:U7)(r:V->Option Int->Option Int->Hp->VK->Prop)(m:Md)(p:U->Option Int->Option Int->R U):Prop:=∀A H x u lo hi z Q,Pk K H A u x->(∀a,A a->Mu (H a))->p u lo hi=.ok z->(∀v H',aT H H'->De K m A H H' z v->Q v H')->r x lo hi H Q
def QI (K:U7)(G:Gm)(Z:Pkg)(A:Vr->Prop)(b:Bool)(ρ:Ev)(σ:St)(H:Hp):R (Option Int×Ev)->(Option Int->Hp->Prop)->Prop
 | .ok (c,ρ'),Q=>∀H',cu K G Z A ρ' σ H'->eT A H H'->(b=false->ρ'=ρ/\aT H H')->Q c H'
 |_,_=>False
def Tp (K:U7)(G:Gm)(b:Bool)(g:Ev->R (Option Int×Ev)):TO:=λσ H Q=>∃Z A ρ,cu K G Z A ρ σ H/\QI K G Z A b ρ σ H (g ρ) Q
structure DO (X:Cx)(G:Gm)(e:Option W5)(b:Bool)(g:Ev->R (Option Int×Ev)):Prop where
 un:PO X e (Tp X.K G b g)
noncomputable def oD:Ev->R (Option Int×Ev):=λρ=>.ok (none,ρ)
noncomputable def ji (g:Ev->R (U×Ev)):Ev->R (Option Int×Ev):=λρ=>(g ρ).bind λx=>match x.1 with
 | .int i=>.ok (some i,x.2)
 |_=>.stk
theorem PO.to {e:Option W5}{t t':TO}(h:PO X e t)(i:∀σ H Q,t' σ H Q->t σ H Q):PO X e t':=λpins s σ H Q I q=>h pins s σ H Q I (i _ _ _ q)
theorem vv:DO X G none false oD:=⟨G7.to λσ H Q ⟨Z,A,ρ,q,f⟩=>f H q eT.refl λ_=>⟨rfl,aT.refl _⟩⟩
theorem mq (h:DE X G e b1 m1 g1):DO X G (some e) b1 (ji g1):=⟨(G8 h.un).to λσ H Q h00=>by
 obtain⟨Z,A,ρ,q,f⟩:=h00;refine⟨Z,A,ρ,q,?_⟩;unfold ji at f;cases e1:g1 ρ with
 |stk=>rw[e1] at f;exact f.elim
 |exc=>rw[e1] at f;exact f.elim
 |ok x=>
  obtain⟨u,ρ1⟩:=x;rw[e1] at f;intro v H1 q1 x1 s1 vm;cases u with
  |int c=>exact⟨c,vm.pk.int,f H1 q1 x1 s1⟩
  |_=>exact f.elim⟩
noncomputable def GH (p:U->Option Int->Option Int->R U)(g:Ev->R (U×Ev))(lo hi:Ev->R (Option Int×Ev)):Ev->R (U×Ev):=λρ=>(g ρ).bind λx=>(lo x.2).bind λl=>(hi l.2).bind λh=>(p x.1 l.1 h.1).bind λz=>.ok (z,h.2)
theorem mw {r:V->Option Int->Option Int->Hp->VK->Prop}{p:U->Option Int->Option Int->R U}{lo hi:Option W5}{p2:Pos}{gl gh:Ev->R (Option Int×Ev)}(hr:DL X r)(hp:El X.K r mr p)(he:DE X G e b1 m1 g1)(hl:DO X G lo b2 gl)(hu:DO X G hi b3 gh)
  (hm:m1=.P->(b2||b3)=false:=by first|exact λ_=>rfl|exact λh=>nomatch h):DE X G (.Subscript e (.Slice lo hi none p2) pos) (b1||(b2||b3)) mr (GH p g1 gl gh):=⟨(DM hr he.un hl.un hu.un).to λσ H Q h=>by
 obtain⟨Z,A,ρ,q,f⟩:=h;obtain⟨⟨u,ρ1⟩,e1,f⟩:=f.bind;obtain⟨⟨l,ρ2⟩,e2,f⟩:=f.bind;obtain⟨⟨h,ρ3⟩,e3,f⟩:=f.bind;obtain⟨z,e4,f⟩:=f.bind;dsimp only at e2 e3 e4 f;refine⟨Z,A,ρ,q,?_⟩;rw[e1];intro v1 H1 q1 x1 s1 tF;refine⟨Z,A,ρ1,q1,?_⟩;rw[e2];intro H2 q2 x2 s2;refine⟨Z,A,ρ2,q2,?_⟩;rw[e3];intro H3 q3 x3 s3;exact hp A H3 v1 u l h z Q (tF.later q1 (x2.trans x3) (two s2 s3) hm) q3.mu e4 λv H' sm vm=>f v H' (q3.same sm) ((x1.trans (x2.trans x3)).trans (eT.same sm)) (pG (two s1 (two s2 s3)) sm) (vm.e q3 sm)⟩
end
end L2
namespace L2
def QJ (K:U7)(G:Gm)(sg:U->Ev->R Ev):TG:=λv σ H Q=>∃Z A ρ u,cu K G Z A ρ σ H/\Rp K H A u v/\match sg u ρ with
 | .ok ρ'=>∀σ',cu K G Z A ρ' σ' H->(∀i,G.is i=true->σ'[i]? = σ[i]?)->Q σ' H
 |_=>False
structure DG (X:Cx)(G:Gm)(tg:W5)(sg:U->Ev->R Ev):Prop where
 un:PG X tg (QJ X.K G sg)
def QK (K:U7)(G:Gm)(sg:List U->Ev->R Ev):GW:=λvs σ H Q=>∃Z A ρ us,cu K G Z A ρ σ H/\aK K H A us vs/\match sg us ρ with
 | .ok ρ'=>∀σ',cu K G Z A ρ' σ' H->(∀i,G.is i=true->σ'[i]? = σ[i]?)->Q σ' H
 |_=>False
structure PB (X:Cx)(G:Gm)(tgs:List W5)(sg:List U->Ev->R Ev):Prop where
 un:IP X tgs (QK X.K G sg)
noncomputable def bJ (i:Nat):U->Ev->R Ev:=λu ρ=>.ok (ρ.set i (some u))
noncomputable def cT:List U->Ev->R Ev:=λus ρ=>match us with
 | []=>.ok ρ
 |_=>.stk
noncomputable def aE (s:U->Ev->R Ev)(t:List U->Ev->R Ev):List U->Ev->R Ev:=λus ρ=>match us with
 |u::r=>(s u ρ).bind λρ1=>t r ρ1
 |_=>.stk
noncomputable def cU (n:Nat)(t:List U->Ev->R Ev):U->Ev->R Ev:=λu ρ=>match u with
 | .tup us=>if us.length=n then t us ρ else .stk
 |_=>.stk
theorem IP.to {es:List W5}{t t':GW}(h:IP X es t)(i:∀v σ H Q,t' v σ H Q->t v σ H Q):IP X es t':=λpins s σ H v u Q I r q=>h pins s σ H v u Q I r (i _ _ _ _ q)
theorem aw (hN:X.N.Nodup)(hi:X.N[i]? = some x:=by rfl)(hx:GD X.env.scope x:=by first|exact Or.inl rfl|exact Or.inr rfl)(c:G.is i=false:=by rfl)(hf:X.fn x=true\/X.env.scope.names.lookup x=some .local:=by first|exact .inl rfl|exact .inr rfl|assumption):DG X G (.Name x pos) (bJ i):=⟨(GX hN hi hx hf).to λv σ H Q ⟨Z,A,ρ,u,q,r,f⟩=>f _ (q.set c r) λj cj=>by
  have:i≠j:=λz=>by subst z;rw[c] at cj;cases cj
  rw[VH this]⟩
theorem dh:PB X G [] cT:=⟨GY.to λvs σ H Q h00=>by
 obtain⟨Z,A,ρ,us,q,r,f⟩:=h00;unfold cT at f;cases us with
 |nil=>unfold aK at r;exact⟨r,f σ q λ_ _=>rfl⟩
 |cons=>exact f.elim⟩
theorem aM {e:W5}{es:List W5}{s:U->Ev->R Ev}{t:List U->Ev->R Ev}(h1:DG X G e s)(h2:PB X G es t)
  (hs:(XW (e::es) X.env).map (·.2)=assign e X.env::(XW es X.env).map (·.2):=by rfl):PB X G (e::es) (aE s t):=⟨(Dm h1.un h2.un hs).to λvs σ H Q h00=>by
 obtain⟨Z,A,ρ,us,q,r,f⟩:=h00;unfold aE at f;cases us with
 |nil=>exact f.elim
 |cons u us=>
  unfold aK at r;obtain⟨v,vr,rfl,r1,r2⟩:=r;dsimp only at f;refine⟨v,vr,rfl,Z,A,ρ,u,q,r1,?_⟩;cases e1:s u ρ with
  |ok ρ1=>
   rw[e1] at f;simp only[R.bind] at f;intro σ1 q1 o1;refine⟨Z,A,ρ1,us,q1,r2,?_⟩;cases e2:t us ρ1 with
   |ok ρ2=>rw[e2] at f;exact λσ2 q2 o2=>f σ2 q2 λi c=>(o2 i c).trans (o1 i c)
   |exc=>rw[e2] at f;exact f.elim
   |stk=>rw[e2] at f;exact f.elim
  |exc=>rw[e1] at f;exact f.elim
  |stk=>rw[e1] at f;exact f.elim⟩
theorem eU {es:List W5}{t:List U->Ev->R Ev}(hc:X.calm=true)(h:PB X G es t)(hn:(XW es X.env).length=n:=by rfl)(i0:(XW es X.env).findIdx? (·.1)=none:=by rfl):DG X G (.Tuple es k pos) (cU n t):=⟨(KO hc h.un hn i0).to λv σ H Q h00=>by
 obtain⟨Z,A,ρ,u,q,r,f⟩:=h00;unfold cU at f;cases u with
 |tup us=>
  unfold Rp at r;obtain⟨a,xs,rfl,sq,l,rs⟩:=r;dsimp only at f;by_cases hl:us.length=n
  ·rw[hV hl] at f;exact⟨a,xs,rfl,fK.of sq,by rw[←rs.length];exact hl,Z,A,ρ,us,q,rs,f⟩
  ·rw[hU hl] at f;exact f.elim
 |_=>exact f.elim⟩
def Tq (K:U7)(Z:Pkg)(m:Md)(H:Hp)(u:U)(v:V):Prop:=match m with
 | .S=>Rp K H Z.A0 u v
 | .O=>∃a,v=.ref a/\Z.B a=none/\¬Z.A0 a/\j2 K H (λb=>Z.A0 b\/b=a) u a
 | .P=>False
def qP (K:U7)(G:Gm)(Z:Pkg)(m:Md):SR->lH->Prop
 | .nx ρ',D=>∀A' σ' H',cu K G Z A' ρ' σ' H'->D.nx σ' H'
 | .bk ρ',D=>∀A' σ' H',cu K G Z A' ρ' σ' H'->D.bk σ' H'
 | .ct ρ',D=>∀A' σ' H',cu K G Z A' ρ' σ' H'->D.ct σ' H'
 | .rt u ρ',D=>∀A' σ' H' v,cu K G Z A' ρ' σ' H'->Tq K Z m H' u v->D.rt v H'
 | .exc _ _,_=>∀H',(∀a o,Z.B a=some o->H' a=some o)->G.W H'
 | .stk,_=>False
def ML (K:U7)(G:Gm)(m:Md)(g:Ev->SR):TS:=λD σ H=>∃Z A ρ,cu K G Z A ρ σ H/\qP K G Z m (g ρ) D
structure DS (X:Cx)(G:Gm)(m:Md)(st:Zf)(g:Ev->SR):Prop where
 un:PS X st (ML X.K G m g)
structure zv (X:Cx)(G:Gm)(m:Md)(st:List Zf)(g:Ev->SR):Prop where
 un:tG X st (ML X.K G m g)
noncomputable def bu:Ev->SR:=.nx
noncomputable def aF (g1 g2:Ev->SR):Ev->SR:=λρ=>match g1 ρ with
 | .nx ρ'=>g2 ρ'
 |r=>r
noncomputable def SR.of {α:Type}:R α->(α->SR)->SR
 | .ok a,f=>f a
 |_,_=>.stk
section
variable {m:Md}{α:Type}
theorem qP.of {x:R α}{k:α->SR}{D:lH}(f:qP K G Z m (SR.of x k) D):∃a,x=.ok a/\qP K G Z m (k a) D:=by
 cases x with
 |ok a=>exact⟨a,rfl,f⟩
 |exc=>exact f.elim
 |stk=>exact f.elim
end
section
variable {e a b:W5}{Pe rest:List Zf}{es:List W5}{p1:Pos}{b1 b2 b3:Bool}{m m1 m2 m3 mr:Md}{g1 g2 g3:Ev->R (U×Ev)}{h1 h2:Ev->R (Bool×Ev)}{ga:Ev->R (List U×Ev)}{s1 s2:Ev->SR}
theorem bh:zv X G m [] bu:=⟨Ay.to λD σ H ⟨Z,A,ρ,q,f⟩=>f A σ H q⟩
theorem au (h:DS X G m st s1):zv X G m [st] s1:=⟨Az h.un⟩
theorem ao (ha:DS X G m st s1)(hb:zv X G m rest s2):zv X G m (st::rest) (aF s1 s2):=⟨(Dl ha.un hb.un).to λD σ H h00=>by
 obtain⟨Z,A,ρ,q,f⟩:=h00;refine⟨Z,A,ρ,q,?_⟩;unfold aF at f;cases e:s1 ρ with
 |nx ρ1=>rw[e] at f;exact λA1 σ1 H1 q1=>⟨Z,A1,ρ1,q1,f⟩
 |rt=>rw[e] at f;exact f
 |bk=>rw[e] at f;exact f
 |ct=>rw[e] at f;exact f
 |exc=>rw[e] at f;exact f
 |stk=>rw[e] at f;exact f⟩
noncomputable def Lh:Ev->SR:=.bk
noncomputable def NH:Ev->SR:=.ct
noncomputable def lj (g:Ev->R (U×Ev)):Ev->SR:=λρ=>SR.of (g ρ) λx=>.nx x.2
theorem kJ (h:DE X G e b1 m1 g1)(hs:Zx e none pos.line X.env=pure false:=by rfl):DS X G m (.Expr e pos) (lj g1):=⟨(AA h.un hs).to λD σ H h00=>by
 obtain⟨Z,A,ρ,q,f⟩:=h00;obtain⟨⟨u,ρ1⟩,e1,f⟩:=f.of;refine⟨Z,A,ρ,q,?_⟩;rw[e1];exact λv H1 q1 _ _ _=>f A σ H1 q1⟩
noncomputable def bo (g:Ev->R (U×Ev)):Ev->SR:=λρ=>SR.of (g ρ) λx=>.rt x.1 x.2
theorem aU (h:DE X G e b1 m1 g1)(hn:m1≠.P:=by decide):DS X G .S (.Return (some e) pos) (bo g1):=⟨(yU h.un).to λD σ H h00=>by
 obtain⟨Z,A,ρ,q,f⟩:=h00;obtain⟨⟨u,ρ1⟩,e1,f⟩:=f.of;refine⟨Z,A,ρ,q,?_⟩;rw[e1];exact λv H1 q1 _ _ vm=>f A σ H1 v q1 ((vm.rp hn).mono q1.sup)⟩
theorem vx (h:DE X G e b1 .O g1):DS X G .O (.Return (some e) pos) (bo g1):=⟨(yU h.un).to λD σ H h00=>by
 obtain⟨Z,A,ρ,q,f⟩:=h00;obtain⟨⟨u,ρ1⟩,e1,f⟩:=f.of;refine⟨Z,A,ρ,q,?_⟩;rw[e1];intro v H1 q1 _ _ vm;obtain⟨a,rfl,na,nb,_,t⟩:=vm;exact f A σ H1 _ q1 ⟨a,rfl,nb,λz=>na (q1.sup a z),t.mono λb z=>z.imp (q1.sup b) id⟩⟩
theorem AJ (hm:m≠.P:=by decide)(hi:G.io=true->i≠0)(hN:X.N[i]? = some x:=by rfl)(hv:GR X.env.scope x:=by first|exact Or.inl rfl|exact Or.inr (Or.inl rfl)|exact Or.inr (Or.inr rfl))(hd:(x==("__debug__":Str))=false:=by decide)(sW:(x==("__classdict__":Str))=false:=by decide)(c:G.is i=true:=by rfl):DS X G m (.Return (some (.Name x p1)) pos) (bo (ag i)):=⟨(yU (lJ hN hv hd sW)).to λD σ H h00=>by
 obtain⟨Z,A,ρ,q,f⟩:=h00;obtain⟨⟨u,ρ1⟩,e1,f⟩:=f.of;unfold ag at e1;split at e1
 ·rename_i u' hu;cases e1;obtain⟨a,h1,h2,h3,h4,h5⟩:=q.own c hu;have na:¬Z.A0 a:=by
   rcases h4 with h4|⟨h4,h6⟩
   ·exact h4
   ·exact absurd h6 (hi h4)
  refine⟨.ref a,h1,f A σ H _ q ?_⟩;cases m with
  |S=>exact h5.rp q.sup na
  |O=>exact⟨a,rfl,h3,na,h5.mono λb z=>by
    rcases z with z|z
    ·exact q.sup b z
    ·subst z;exact h2⟩
  |P=>exact absurd rfl hm
 ·cases e1⟩
noncomputable def aZ (i:Nat)(g:Ev->R (U×Ev)):Ev->SR:=λρ=>SR.of (g ρ) λx=>.nx (x.2.set i (some x.1))
theorem xq (c:G.is i=false)(hn:m1≠.P)(hi:∀σ H Q,tD X.K G b1 m1 g1 σ H Q->te σ H Q){D:lH}(h:ML X.K G m (aZ i g1) D σ H):Dn te (w6 i) D σ H:=by
 obtain⟨Z,A,ρ,q,f⟩:=h;obtain⟨⟨u,ρ1⟩,e1,f⟩:=f.of;refine hi _ _ _ ⟨Z,A,ρ,q,?_⟩;rw[e1];exact λv H1 q1 _ _ vm=>f A _ H1 (q1.set c (vm.rp hn))
theorem ux (c:G.is i=true)(h0:G.io=true->i≠0)(hi:∀σ H Q,tD X.K G b1 .O g1 σ H Q->te σ H Q){D:lH}(h:ML X.K G m (aZ i g1) D σ H):Dn te (w6 i) D σ H:=by
 obtain⟨Z,A,ρ,q,f⟩:=h;obtain⟨⟨u,ρ1⟩,e1,f⟩:=f.of;refine hi _ _ _ ⟨Z,A,ρ,q,?_⟩;rw[e1];intro v H1 q1 _ _ vm;obtain⟨a,rfl,na,nb,r,t⟩:=vm;exact f _ _ H1 (q1.setO c h0 na nb r t)
theorem br (hN:X.N.Nodup)(h:DE X G e b1 m1 g1)(hi:X.N[i]? = some x:=by rfl)(hx:GD X.env.scope x:=by first|exact Or.inl rfl|exact Or.inr rfl)(c:G.is i=false:=by rfl)(hn:m1≠.P:=by decide)(hs:Zx e (some (.Name x p1)) pos.line X.env=pure false:=by rfl)(hf:X.fn x=true\/X.env.scope.names.lookup x=some .local:=by first|exact .inl rfl|exact .inr rfl|assumption):DS X G m (.Assign [.Name x p1] e pos) (aZ i g1):=⟨(Dr hN hi hx h.un hs hf).to λ_ _ _=>xq c hn λ_ _ _ h=>h⟩
theorem fY (hN:X.N.Nodup)(h:DE X G e b1 .O g1)(h0:G.io=true->i≠0:=by decide)(hi:X.N[i]? = some x:=by rfl)(hx:GD X.env.scope x:=by first|exact Or.inl rfl|exact Or.inr rfl)(c:G.is i=true:=by rfl)(hs:Zx e (some (.Name x p1)) pos.line X.env=pure false:=by rfl)(hf:X.fn x=true\/X.env.scope.names.lookup x=some .local:=by first|exact .inl rfl|exact .inr rfl|assumption):DS X G m (.Assign [.Name x p1] e pos) (aZ i g1):=⟨(Dr hN hi hx h.un hs hf).to λ_ _ _=>ux c h0 λ_ _ _ h=>h⟩
noncomputable def NI (i j:Nat):Ev->SR:=λρ=>match ρ[j]? with
 |some (some u)=>.nx ((ρ.set j none).set i (some u))
 |_=>.stk
noncomputable def Ci (sg:U->Ev->R Ev)(g:Ev->R (U×Ev)):Ev->SR:=λρ=>SR.of (g ρ) λx=>SR.of (sg x.1 x.2) .nx
theorem Em (h:DE X G e b1 m1 g1)(hg:DG X G tg sg)(hn:m1≠.P:=by decide)(hs:ZG [tg] e pos.line X.env=pure false:=by rfl)(hw:ZH [tg] e X.env=pure none:=by rfl)(h1:(XW [tg] X.env).map (·.2)=[assign tg X.env]:=by rfl):DS X G m (.Assign [tg] e pos) (Ci sg g1):=⟨(Dq h.un hg.un hs hw h1).to λD σ H h00=>by
 obtain⟨Z,A,ρ,q,f⟩:=h00;obtain⟨⟨u,ρ1⟩,e1,f⟩:=f.of;obtain⟨ρ2,e2,f⟩:=f.of;refine⟨Z,A,ρ,q,?_⟩;rw[e1];intro v H1 q1 _ _ vm;refine⟨Z,A,ρ1,u,q1,vm.rp hn,?_⟩;dsimp only at e2;rw[e2];exact λσ' q' _=>f A σ' H1 q'⟩
noncomputable def Li (i j:Nat)(ga:Ev->R (List U×Ev)):Ev->SR:=λρ=>SR.of (ga ρ) λx=>match x.1 with
 | [u,w]=>.nx ((x.2.set i (some u)).set j (some w))
 |_=>.stk
theorem Lj {y:Str}{a b:W5}{px py pt:Pos}{kt k2 pt2}(hc:X.calm=true)(hN:X.N.Nodup)(ha:DA X G [a,b] b1 false ga)(hi:X.N[i]? = some x:=by rfl)(hj:X.N[j]? = some y:=by rfl)(ue:i≠j:=by decide)(hx:X.env.scope.names.lookup x=some .local:=by rfl)(hy:X.env.scope.names.lookup y=some .local:=by rfl)(ci:G.is i=false:=by rfl)(cj:G.is j=false:=by rfl)(hw:ZH [.Tuple [.Name x px,.Name y py] kt pt] (.Tuple [a,b] k2 pt2) X.env=pure (some [x,y]):=by rfl)(hs:ZG [.Tuple [.Name x px,.Name y py] kt pt] (.Tuple [a,b] k2 pt2) pos.line X.env=pure false:=by rfl) :
  DS X G m (.Assign [.Tuple [.Name x px,.Name y py] kt pt] (.Tuple [a,b] k2 pt2) pos) (Li i j ga):=⟨(KQ hc hN hi hj ue hx hy ha.un hw hs).to λD σ H h00=>by
 obtain⟨Z,A,ρ,q,f⟩:=h00;obtain⟨⟨us,ρ1⟩,e1,f⟩:=f.of;refine⟨Z,A,ρ,q,?_⟩;rw[e1];intro vs H1 q1 _ _ vm;dsimp only at f;split at f
 ·rename_i u w;have r:=vm.rps;unfold aK at r;obtain⟨v,vr,rfl,r1,r2⟩:=r;unfold aK at r2;obtain⟨v2,vr2,rfl,r3,r4⟩:=r2;unfold aK at r4;subst r4;exact⟨v,v2,rfl,f A _ H1 ((q1.set ci r1).set cj r3)⟩
 ·exact f.elim⟩
noncomputable def jT (h:Ev->R (Bool×Ev))(s1 s2:Ev->SR):Ev->SR:=λρ=>SR.of (h ρ) λx=>if x.1=true then s1 x.2 else s2 x.2
theorem cV {a b:List Zf}(hc:DT X G c b1 h1)(ha:zv X G m a s1)(hb:zv X G m b s2):DS X G m (.If c a b pos) (jT h1 s1 s2):=⟨(IM hc.un ha.un hb.un).to λD σ H h00=>by
 obtain⟨Z,A,ρ,q,f⟩:=h00;obtain⟨⟨k,ρ1⟩,e1,f⟩:=f.of;refine⟨Z,A,ρ,q,?_⟩;rw[e1];intro H1 q1 _ _;cases k with
 |true=>rw[hV rfl] at f ⊢;exact⟨Z,A,ρ1,q1,f⟩
 |false=>rw[hU Vb] at f ⊢;exact⟨Z,A,ρ1,q1,f⟩⟩
noncomputable def lM (h:Ev->R (Bool×Ev))(s:Ev->SR):Nat->Ev->SR
 |0,_=>.stk
 |n+1,ρ=>SR.of (h ρ) λx=>if x.1=true then match s x.2 with
   | .nx ρ2=>lM h s n ρ2
   | .ct ρ2=>lM h s n ρ2
   | .bk ρ2=>.nx ρ2
   |r=>r
  else .nx x.2
theorem En (hp:aaD (VE X.prog X.w) X.A X.env X.xe)(hc:DT X G c b1 h1)(hb:zv X G m body s1):DS X G m (.While c body [] pos) (lM h1 s1 n):=⟨(Ds hp hc.un hb.un).to λD σ H h00=>by
 obtain⟨Z,A,ρ,q,f⟩:=h00;refine⟨λk σ H=>∃A ρ,cu X.K G Z A ρ σ H/\qP X.K G Z m (lM h1 s1 k ρ) D,⟨n,A,ρ,q,f⟩,?_⟩;rintro k σ H ⟨A,ρ,q,f⟩;cases k with
 |zero=>exact f.elim
 |succ k=>
  unfold lM at f;obtain⟨⟨t,ρ1⟩,e1,f⟩:=f.of;refine⟨Z,A,ρ,q,?_⟩;rw[e1];intro H1 q1 _ _;cases t with
  |false=>rw[hU Vb] at f ⊢;exact f A σ H1 q1
  |true=>
   rw[hV rfl] at f ⊢;refine⟨λσ H=>∃A ρ,cu X.K G Z A ρ σ H/\qP X.K G Z m (lM h1 s1 k ρ) D,λσ' H' z=>⟨k,YK k,z⟩,Z,A,ρ1,q1,?_⟩;dsimp only at f;cases e2:s1 ρ1 with
   |nx ρ2=>rw[e2] at f;exact λA2 σ2 H2 q2=>⟨A2,ρ2,q2,f⟩
   |ct ρ2=>rw[e2] at f;exact λA2 σ2 H2 q2=>⟨A2,ρ2,q2,f⟩
   |bk ρ2=>rw[e2] at f;exact f
   |rt=>rw[e2] at f;exact f
   |exc=>rw[e2] at f;exact f
   |stk=>rw[e2] at f;exact f⟩
end
end L2
namespace L2
def Wk (K:U7)(p:Bool)(A:Vr->Prop)(us:List U)(J:It)(H1:Hp):Prop:=us.length<=Vf/\
 ∀H A',(if p=true then aT H1 H else eT A H1 H)->(∀b,A' b->A b\/H1 b=none)->(∀(i:Nat) (u:U),us[i]? = some u->J.go i H/\∀x H',J.yld i H x H'->aT H H'/\Rp K H' A' u x)/\J.stop us.length H
def QL (K:U7)(G:Gm)(b p:Bool)(gi:Ev->R (List U×Ev)):TI:=λσ H R=>∃Z A ρ,cu K G Z A ρ σ H/\match gi ρ with
 | .ok (us,ρ')=>∀J H1,cu K G Z A ρ' σ H1->eT A H H1->(b=false->ρ'=ρ/\aT H H1)->Wk K p A us J H1->R J H1
 |_=>False
structure DI (X:Cx)(G:Gm)(tg iter:W5)(b p:Bool)(gi:Ev->R (List U×Ev)):Prop where
 un:PI X tg iter (QL X.K G b p gi)
section
variable {e a b:W5}{es:List W5}{p1:Pos}{b1 b2 b3:Bool}{m m1 m2 m3 mr:Md}{g1 g2 g3:Ev->R (U×Ev)}{h1 h2:Ev->R (Bool×Ev)}{ga:Ev->R (List U×Ev)}{s1 s2:Ev->SR}
theorem PI.to {t t':TI}(h:PI X tg e t)(i:∀σ H Q,t' σ H Q->t σ H Q):PI X tg e t':=λpins s σ H Q I q=>h pins s σ H Q I (i _ _ _ q)
theorem PI.or {t t':TI}(h:PI X tg e t)(h':PI X tg e t'):PI X tg e (λσ H R=>t σ H R\/t' σ H R):=λpins s σ H Q I q=>by
 rcases q with q|q
 ·exact h pins s σ H Q I q
 ·exact h' pins s σ H Q I q
noncomputable def NJ:Md->Bool
 | .P=>true
 |_=>false
noncomputable def bZ (g:Ev->R (U×Ev)):Ev->R (List U×Ev):=λρ=>(g ρ).bind λx=>match x.1 with
 | .lst us=>.ok (us,x.2)
 | .tup us=>.ok (us,x.2)
 | .scr us=>.ok (us,x.2)
 |_=>.stk
theorem Hs (q:cu K G Z A ρ σ H1)(h:zm K G Z m1 A ρ σ H1 (.lst us) v):∃a,v=.ref a/\(∃xs,fH K H1 a xs)/\Wk K (NJ m1) A us (Pw K a) H1:=by
 have hp:=h.pk;unfold Pk at hp;obtain⟨a,xs,rfl,rd,l,rs⟩:=hp;refine⟨a,rfl,⟨xs,fH.of rd⟩,l,λH A' hs ha=>?_⟩;have st:H a=some (.lst xs)/\∀(i:Nat) (u:U),us[i]? = some u->∃x,xs[i]? = some x/\Rp K H A' u x:=by
  cases hm:NJ m1 with
  |true=>
   rw[hm,hV rfl] at hs;refine⟨hs a _ rd,λi u hu=>?_⟩;obtain⟨x,h1,h2⟩:=rs.get hu;exact⟨x,h1,h2.re q.mu (eT.same hs) ha⟩
  |false=>
   rw[hm,hU Vb] at hs;have hn:m1≠.P:=λz=>by subst z;cases hm
   have hr:=h.rp hn;unfold Rp at hr;obtain⟨a',xs',e,na,rd',_,rs'⟩:=hr;cases e;refine⟨hs a _ na rd,λi u hu=>?_⟩;obtain⟨x,h1,h2⟩:=rs.get hu;exact⟨x,h1,h2.re q.mu hs ha⟩
 obtain⟨rd2,get⟩:=st;refine⟨λi u hu=>?_,⟨xs,fH.of rd2,by rw[←rs.length];exact Vh _⟩⟩;obtain⟨x,h1,h2⟩:=get i u hu;refine⟨⟨xs,x,fH.of rd2,h1⟩,λy H' yl=>?_⟩;obtain⟨e,yl⟩:=yl;have e2:=yl xs (fH.of rd2);rw[h1] at e2;cases e2;subst e;exact⟨aT.refl _,h2⟩
theorem Lk {p:Bool}(q:cu K G Z A ρ σ H1)(h:Pk K H1 A (.tup us) v):∃a,v=.ref a/\(∃xs,fK K H1 a xs)/\Wk K p A us (Qp K a) H1:=by
 unfold Pk at h;obtain⟨a,xs,rfl,sq,l,rs⟩:=h;refine⟨a,rfl,⟨xs,fK.of sq⟩,l,λH A' hs ha=>?_⟩;have ex:eT A H1 H:=by
  cases p with
  |true=>rw[hV rfl] at hs;exact eT.same hs
  |false=>rw[hU Vb] at hs;exact hs
 have MA:fK K H a xs:=fK.of (ex a _ (λz=>by have:=q.mu a z;rw[sq] at this;exact this) sq);refine⟨λi u hu=>?_,⟨xs,MA,by rw[←rs.length];exact Vh _⟩⟩;obtain⟨x,h1,h2⟩:=rs.get hu;refine⟨⟨xs,x,MA,h1⟩,λy H' yl=>?_⟩;obtain⟨e,yl⟩:=yl;have e2:=yl xs MA;rw[h1] at e2;cases e2;subst e;exact⟨aT.refl _,h2.re q.mu ex ha⟩
theorem Ll {p:Bool}(q:cu K G Z A ρ σ H1)(h:Pk K H1 A (.scr us) v):∃a,v=.ref a/\(∃xs,fH K H1 a xs)/\Wk K p A us (Pw K a) H1:=by
 unfold Pk at h;obtain⟨a,xs,rfl,sq,l,rs⟩:=h;refine⟨a,rfl,⟨xs,sq.sq⟩,l,λH A' hs ha=>?_⟩;have ex:eT A H1 H:=by
  cases p with
  |true=>rw[hV rfl] at hs;exact eT.same hs
  |false=>rw[hU Vb] at hs;exact hs
 have MA:fH K H a xs:=(sq.to λo y w=>ex a _ (λz=>by have:=q.mu a z;rw[w] at this;exact this) w).sq;refine⟨λi u hu=>?_,⟨xs,MA,by rw[←rs.length];exact Vh _⟩⟩;obtain⟨x,h1,h2⟩:=rs.get hu;refine⟨⟨xs,x,MA,h1⟩,λy H' yl=>?_⟩;obtain⟨e,yl⟩:=yl;have e2:=yl xs MA;rw[h1] at e2;cases e2;subst e;exact⟨aT.refl _,h2.re q.mu ex ha⟩
theorem bp (h:DE X G e b1 m1 g1):DI X G tg e b1 (NJ m1) (bZ g1):=⟨((GZ h.un).or (KS h.un)).to λσ H RR h00=>by
 obtain⟨Z,A,ρ,q,f⟩:=h00;unfold bZ at f;cases e1:g1 ρ with
 |stk=>rw[e1] at f;exact f.elim
 |exc=>rw[e1] at f;exact f.elim
 |ok y=>
  obtain⟨u,ρ1⟩:=y;rw[e1] at f;cases u with
  |lst us=>
   refine .inl ⟨Z,A,ρ,q,?_⟩;rw[e1];intro v H1 q1 x1 s1 vm;obtain⟨a,e,l,wk⟩:=Hs q1 vm;exact⟨a,e,l,f _ H1 q1 x1 s1 wk⟩
  |tup us=>
   refine .inr ⟨Z,A,ρ,q,?_⟩;rw[e1];intro v H1 q1 x1 s1 vm;obtain⟨a,e,l,wk⟩:=Lk (p:=NJ m1) q1 vm.pk;exact⟨a,e,l,f _ H1 q1 x1 s1 wk⟩
  |scr us=>
   refine .inl ⟨Z,A,ρ,q,?_⟩;rw[e1];intro v H1 q1 x1 s1 vm;obtain⟨a,e,l,wk⟩:=Ll (p:=NJ m1) q1 vm.pk;exact⟨a,e,l,f _ H1 q1 x1 s1 wk⟩
  |_=>exact f.elim⟩
noncomputable def b_ (lo:Int)(n:Nat):List U:=(VN n).map λi=>.int (lo+(i:Nat))
theorem Eo {lo:Int}{p:Bool}(h:n<=Vf):Wk K p A (b_ lo n) (Px lo n) H1:=by
 have hl:(b_ lo n).length=n:=by unfold b_;rw[Vd,WC]
 refine⟨by rw[hl];exact h,λH A' _ _=>⟨λi u hu=>?_,by rw[hl];exact Vh _⟩⟩;unfold b_ at hu;rw[VL] at hu;cases e:(VN n)[i]? with
 |none=>rw[e] at hu;cases hu
 |some j=>
  rw[e] at hu;obtain⟨l1,l2⟩:=Vg.mp e;rw[WC] at l1;rw[List.getElem_range] at l2;subst l2;cases hu;refine⟨l1,λx H' y=>?_⟩;obtain⟨rfl,rfl⟩:=y;exact⟨aT.refl _,dN⟩
noncomputable def lq (ga:Ev->R (List U×Ev)):Ev->R (List U×Ev):=λρ=>(ga ρ).bind λx=>match x.1 with
 | [.int j]=>if -1000000<=j/\j<=1000000 then .ok (b_ 0 j.toNat,x.2) else .stk
 |_=>.stk
theorem gZ {a:W5}(ha:DA X G [a] b1 false ga)(hm:X.mg "range"=none)(hg:Gl X "range":=by rfl)(hs:Vx [a] X.env=[(false,YD a X.env)]:=by rfl):DI X G tg (.Call (.Name "range" p1) [a] [] pos) b1 false (lq ga):=⟨(B6 hg hm ha.un hs).to λσ H RR h00=>by
 obtain⟨Z,A,ρ,q,f⟩:=h00;unfold lq at f;cases e1:ga ρ with
 |stk=>rw[e1] at f;exact f.elim
 |exc=>rw[e1] at f;exact f.elim
 |ok y=>
  obtain⟨us,ρ1⟩:=y;rw[e1] at f;dsimp only[L2.R.bind] at f;refine⟨Z,A,ρ,q,?_⟩;rw[e1];intro vs H1 q1 x1 s1 vm;split at f
  ·rename_i T3 ρ' e2;split at e2
   ·rename_i j;split at e2
    ·rename_i hl;cases e2;have r:=vm.rps;unfold aK at r;obtain⟨v,vr,rfl,r1,r2⟩:=r;unfold aK at r2;subst r2;unfold Rp at r1;subst r1;exact⟨j,rfl,by lia,by lia,f _ H1 q1 x1 s1 (Eo (by have:Vf=16777216:=rfl;lia))⟩
    ·cases e2
   ·cases e2
  ·exact f.elim⟩
noncomputable def fJ (sg:U->Ev->R Ev)(s:Ev->SR):List U->Ev->SR
 | [],ρ=>.nx ρ
 |u::us,ρ=>SR.of (sg u ρ) λρ1=>match s ρ1 with
   | .nx ρ2=>fJ sg s us ρ2
   | .ct ρ2=>fJ sg s us ρ2
   | .bk ρ2=>.nx ρ2
   |r=>r
noncomputable def iR (gi:Ev->R (List U×Ev))(sg:U->Ev->R Ev)(s:Ev->SR):Ev->SR:=λρ=>SR.of (gi ρ) λx=>fJ sg s x.1 x.2
open Classical in
noncomputable def Pkg.lp (Z:Pkg)(A:Vr->Prop)(H:Hp):Pkg:={Z with B:=λb=>if A b/\Z.B b=none then none else H b}
theorem kK {b:Vr}(h1:A b)(h2:Z.B b=none):(Z.lp A H).B b=none:=by
 unfold Pkg.lp;dsimp only;exact hV ⟨h1,h2⟩
theorem iV {b:Vr}(h:¬(A b/\Z.B b=none)):(Z.lp A H).B b=H b:=by
 unfold Pkg.lp;dsimp only;exact hU h
theorem qQ {b:Vr}(h:(Z.lp A H).B b=none):(A b/\Z.B b=none)\/H b=none:=by
 by_cases c:A b/\Z.B b=none
 ·exact .inl c
 ·rw[iV c] at h;exact .inr h
theorem cu.lp (q:cu K G Z A ρ σ H):cu K G (Z.lp A H) A ρ σ H where
 slot:=λi u h=>by
  obtain⟨v,h1,h2⟩:=q.slot i u h;refine⟨v,h1,?_⟩;by_cases c:G.is i=true
  ·rw[hV c] at h2 ⊢;obtain⟨a,e1,e2,e3,e4,e5⟩:=h2;exact⟨a,e1,e2,kK e2 e3,e4,e5⟩
  ·rw[hU c] at h2 ⊢;exact h2
 dis:=q.dis
 mu:=q.mu
 sup:=q.sup
 out:=λa h=>(q.out a h).imp id λz=>kK h z
 bas:=λa o h=>by
  by_cases c:A a/\Z.B a=none
  ·rw[kK c.1 c.2] at h;cases h
  ·rw[iV c] at h;exact h
 io0:=q.io0
 len:=q.len
theorem cu.unlp {A':Vr->Prop}{ρ':Ev}{σ':St}(q:cu K G Z A ρ σ H)(q':cu K G (Z.lp A H) A' ρ' σ' H'):cu K G Z A' ρ' σ' H':=by
 have sub:∀a,(Z.lp A H).B a=none->Z.B a=none:=λa h=>by
  rcases qQ h with z|h
  ·exact z.2
  ·cases e:Z.B a with
   |none=>rfl
   |some o=>rw[q.bas a o e] at h;cases h
 exact {
  slot:=λi u h=>by
   obtain⟨v,h1,h2⟩:=q'.slot i u h;refine⟨v,h1,?_⟩;by_cases c:G.is i=true
   ·rw[hV c] at h2 ⊢;obtain⟨a,e1,e2,e3,e4,e5⟩:=h2;exact⟨a,e1,e2,sub a e3,e4,e5⟩
   ·rw[hU c] at h2 ⊢;exact h2
  dis:=q'.dis
  mu:=q'.mu
  sup:=q'.sup
  out:=λa h=>(q'.out a h).imp id (sub a)
  bas:=λa o h=>q'.bas a o (by
   rw[iV (λz=>by rw[h] at z;exact nomatch z.2)];exact q.bas a o h)
  io0:=q'.io0
  len:=q'.len}
theorem qP.lp {r:SR}{D:lH}(q:cu K G Z A ρ σ H)(f:qP K G Z m r D):qP K G (Z.lp A H) m r D:=by
 cases r with
 |nx=>exact λA' σ' H' q'=>f A' σ' H' (q.unlp q')
 |bk=>exact λA' σ' H' q'=>f A' σ' H' (q.unlp q')
 |ct=>exact λA' σ' H' q'=>f A' σ' H' (q.unlp q')
 |rt u ρ'=>
  intro A' σ' H' v q' vm;refine f A' σ' H' v (q.unlp q') ?_;cases m with
  |S=>exact vm
  |P=>exact vm
  |O=>
   obtain⟨a,e,nb,na,t⟩:=vm;refine⟨a,e,?_,na,t⟩;rcases qQ nb with z|h
   ·exact z.2
   ·cases e:Z.B a with
    |none=>rfl
    |some o=>rw[q.bas a o e] at h;cases h
 |exc=>exact λH' hb=>f H' λa o h=>hb a o (by
   rw[iV (λz=>by rw[h] at z;exact nomatch z.2)];exact q.bas a o h)
 |stk=>exact f.elim
theorem fq {gi:Ev->R (List U×Ev)}(hp:aaD (VE X.prog X.w) X.A X.env X.xe)(hc:X.calm=true)(hi:DI X G tg iter b1 false gi)(hg:DG X G tg sg)(hb:zv X G m body s1)(hs:∀x,WB iter X.env x=pure x:=by intro _;rfl):DS X G m (.For tg iter body [] pos) (iR gi sg s1):=⟨(AH hp hc hi.un hg.un hb.un hs).to λD σ H h00=>by
 obtain⟨Z,A,ρ,q,f⟩:=h00;obtain⟨⟨us,ρ1⟩,e1,f⟩:=f.of;refine⟨Z,A,ρ,q,?_⟩;rw[e1];intro J H1 q1 x1 yL wk;dsimp only at f;obtain⟨hz,wk⟩:=wk;refine⟨λi k σ H=>i+k=us.length/\∃A' ρ',cu X.K G (Z.lp A H1) A' ρ' σ H/\qP X.K G (Z.lp A H1) m (fJ sg s1 (us.drop i) ρ') D,⟨us.length,by lia,A,ρ1,q1.lp,by rw[Zw];exact f.lp q1⟩,?_⟩;rintro i k σ H ⟨hk,A',ρ',q',f'⟩;have ex:eT A H1 H:=λb o nb z=>q'.bas b o (by
  rw[iV (λy=>nb y.1)];exact z)
 have nw:∀b,A' b->A b\/H1 b=none:=λb z=>by
  rcases q'.out b z with y|y
  ·exact .inl (q1.sup b y)
  ·rcases qQ y with w|h
   ·exact .inl w.1
   ·exact .inr h
 obtain⟨w1,w2⟩:=wk H A' (by rw[hU Vb];exact ex) nw;by_cases yT:i<us.length
 ·have eu:us[i]? = some us[i]:=U4 yT;obtain⟨go,yl⟩:=w1 i _ eu;rw[Wq yT] at f';unfold fJ at f';obtain⟨ρ2,e2,f2⟩:=f'.of;refine .inr ⟨go,λσ H=>∃A' ρ',cu X.K G (Z.lp A H1) A' ρ' σ H/\qP X.K G (Z.lp A H1) m (fJ sg s1 (us.drop (i+1)) ρ') D,λσ' H' z=>⟨k-1,by lia,by lia,z⟩,λx H' y=>?_⟩;obtain⟨sm,rp⟩:=yl x H' y;refine⟨Z.lp A H1,A',ρ',us[i],q'.same sm,rp,?_⟩;rw[e2];intro σ2 q2 _;refine⟨Z.lp A H1,A',ρ2,q2,?_⟩;cases e3:s1 ρ2 with
  |nx ρ3=>rw[e3] at f2;exact λA3 σ3 H3 q3=>⟨A3,ρ3,q3,f2⟩
  |ct ρ3=>rw[e3] at f2;exact λA3 σ3 H3 q3=>⟨A3,ρ3,q3,f2⟩
  |bk ρ3=>rw[e3] at f2;exact f2
  |rt=>rw[e3] at f2;exact f2
  |exc=>rw[e3] at f2;exact f2
  |stk=>rw[e3] at f2;exact f2
 ·have e:i=us.length:=by lia
  subst e;rw[YM] at f';exact .inl ⟨w2,f' A' σ H q'⟩⟩
end
end L2
namespace L2
noncomputable def jz (js:List (Option Nat))(ρ:Ev):Ev:=js.map λo=>match o with
 |none=>none
 |some j=>match ρ[j]? with
  |some v=>v
  |none=>none
noncomputable def pH (G:Gm)(js:List (Option Nat)):Gm:=⟨js.map λo=>match o with
 |none=>false
 |some j=>G.is j,false,λ_=>False⟩
noncomputable def mx:List (Option Nat)->Bool
 | []=>true
 |none::r=>mx r
 |some j::r=> !(r.contains (some j))&&mx r
theorem qR:∀{js:List (Option Nat)} {i k j:Nat},mx js=true->js[i]? = some (some j)->js[k]? = some (some j)->i=k
 | [],_,_,_,_,h,_=>by simp at h
 |none::r,i,k,j,ok,h1,h2=>by
  unfold mx at ok;cases i with
  |zero=>simp at h1
  |succ i=>
   cases k with
   |zero=>simp at h2
   |succ k=>exact congrArg (·+1) (qR (j:=j) ok (by simpa using h1) (by simpa using h2))
 |some j'::r,i,k,j,ok,h1,h2=>by
  unfold mx at ok;rw[Vw] at ok;have nm:∀n:Nat,r[n]? ≠ some (some j'):=λn h=>by
   have:=Wc h;simp at ok;exact ok.1 this
  cases i with
  |zero=>
   cases k with
   |zero=>rfl
   |succ k=>simp at h1 h2;subst h1;exact absurd h2 (nm k)
  |succ i=>
   cases k with
   |zero=>simp at h1 h2;subst h2;exact absurd h1 (nm i)
   |succ k=>exact congrArg (·+1) (qR (j:=j) ok.2 (by simpa using h1) (by simpa using h2))
theorem my (h:(jz js ρ)[i]? = some (some u)):∃j,js[i]? = some (some j)/\ρ[j]? = some (some u):=by
 unfold jz at h;rw[VL] at h;cases e:js[i]? with
 |none=>rw[e] at h;cases h
 |some o=>
  rw[e] at h;cases o with
  |none=>cases h
  |some j=>
   refine⟨j,rfl,?_⟩;have h:=Vy h;dsimp only at h;split at h
   ·rename_i v hv;rw[hv,h]
   ·cases h
theorem mB (h:js[i]? = some (some j))(hv:σ[j]? = some (some v)):(uu js σ)[i]? = some (some v):=by
 unfold uu;rw[VL,h];dsimp only[Option.map];rw[hv]
theorem qS (h:js[i]? = some (some j)):(pH G js).is i=G.is j:=by
 unfold pH Gm.is;dsimp only;rw[YF,VL,h];rfl
theorem AK (js:List (Option Nat))(ρ:Ev)(σ:St):(jz js ρ).length=(uu js σ).length:=by
 unfold jz uu;rw[Vd,Vd]
section
variable {ρi:Ev}
theorem AL (q:cu K G Z A ρ σ H)(ok:mx js=true):cu K (pH G js) ⟨λ_=>False,λ_=>none,0⟩ A (jz js ρ) (uu js σ) H where
 slot:=λi u h=>by
  obtain⟨j,h1,h2⟩:=my h;obtain⟨v,h3,h4⟩:=q.slot j u h2;refine⟨v,mB h1 h3,?_⟩;rw[qS h1];by_cases c:G.is j=true
  ·rw[hV c] at h4 ⊢;obtain⟨a,e1,e2,_,_,e5⟩:=h4;exact⟨a,e1,e2,rfl,.inl id,e5⟩
  ·rw[hU c] at h4 ⊢;exact h4
 dis:=λi k u w a ci ck ne hi hk si sk=>by
  obtain⟨j,h1,h2⟩:=my hi;obtain⟨j',Pb,Kn⟩:=my hk;rw[qS h1] at ci;rw[qS Pb] at ck;obtain⟨b,e1,_⟩:=q.own ci h2;obtain⟨b',yM,_⟩:=q.own ck Kn;rw[mB h1 e1] at si;rw[mB Pb yM] at sk;cases si;cases sk;exact q.dis j j' u w a ci ck (λz=>ne (by subst z;exact qR ok h1 Pb)) h2 Kn e1 yM
 mu:=q.mu
 sup:=λ_ h=>h.elim
 out:=λ_ _=>.inr rfl
 bas:=λ_ _ h=>by cases h
 io0:=λh=>by cases h
 len:=AK js ρ σ
def Ht (G:Gm)(js:List (Option Nat))(ρ:Ev)(σ:St)(a:Vr):Prop:=∃(i j:Nat) (u:U),js[i]? = some (some j)/\G.is j=true/\ρ[j]? = some (some u)/\σ[j]? = some (some (.ref a))
open Classical in
noncomputable def Lm (G:Gm)(js:List (Option Nat))(A:Vr->Prop)(ρ:Ev)(σ:St)(H:Hp):Pkg:=⟨λa=>A a/\¬Ht G js ρ σ a,λa=>if Ht G js ρ σ a then none else H a,0⟩
theorem qT (h:Ht G js ρ σ a):(Lm G js A ρ σ H).B a=none:=by
 unfold Lm;dsimp only;exact hV h
theorem mC (h:¬Ht G js ρ σ a):(Lm G js A ρ σ H).B a=H a:=by
 unfold Lm;dsimp only;exact hU h
theorem Ln (q:cu K G Z A ρ σ H)(ok:mx js=true):cu K (pH G js) (Lm G js A ρ σ H) A (jz js ρ) (uu js σ) H where
 slot:=λi u h=>by
  obtain⟨j,h1,h2⟩:=my h;obtain⟨v,h3,h4⟩:=q.slot j u h2;refine⟨v,mB h1 h3,?_⟩;rw[qS h1];by_cases c:G.is j=true
  ·rw[hV c] at h4 ⊢;obtain⟨a,e1,e2,_,_,e5⟩:=h4;subst e1;have cp:Ht G js ρ σ a:=⟨i,j,u,h1,c,h2,h3⟩;exact⟨a,rfl,e2,qT cp,.inl λz=>z.2 cp,e5⟩
  ·rw[hU c] at h4 ⊢;exact h4
 dis:=(AL q ok).dis
 mu:=q.mu
 sup:=λ_ h=>h.1
 out:=λa h=>by
  by_cases c:Ht G js ρ σ a
  ·exact .inr (qT c)
  ·exact .inl ⟨h,c⟩
 bas:=λa o h=>by
  by_cases c:Ht G js ρ σ a
  ·rw[qT c] at h;cases h
  ·rw[mC c] at h;exact h
 io0:=λh=>by cases h
 len:=AK js ρ σ
noncomputable def j5:List (Option Nat)->Nat->Option Nat
 | [],_=>none
 |o::r,j=>if o=some j then some 0 else (j5 r j).map (·+1)
theorem uy:∀{js:List (Option Nat)} {i j:Nat},j5 js j=some i->js[i]? = some (some j)
 | [],_,_,h=>by cases h
 |o::r,i,j,h=>by
  unfold j5 at h;split at h
  ·rename_i e;cases h;rw[e];rfl
  ·cases e:j5 r j with
   |none=>rw[e] at h;cases h
   |some k=>
    rw[e] at h;cases h;rw[Wg];exact uy e
theorem qU:∀{js:List (Option Nat)} {i j:Nat},j5 js j=none->js[i]? ≠ some (some j)
 | [],_,_,_=>by simp
 |o::r,i,j,h=>by
  unfold j5 at h;split at h
  ·cases h
  ·rename_i ne;cases e:j5 r j with
   |some k=>rw[e] at h;cases h
   |none=>
    cases i with
    |zero=>intro z;exact ne (Vy z)
    |succ i=>rw[Wg];exact qU e
noncomputable def wb (G:Gm)(js:List (Option Nat))(ρi ρ:Ev):Ev:=ρ.mapIdx λj x=>if (G.is j&&x.isSome)=true then (match j5 js j with
 |some i=>(ρi[i]?).getD none
 |none=>x) else x
theorem zw (h:(wb G js ρi ρ)[j]? = some (some u)):∃u0,ρ[j]? = some (some u0)/\((G.is j=true/\∃i,j5 js j=some i/\ρi[i]? = some (some u))\/(u0=u/\(G.is j=false\/j5 js j=none))):=by
 unfold wb at h;rw[List.getElem?_mapIdx] at h;cases e:ρ[j]? with
 |none=>rw[e] at h;cases h
 |some x=>
  rw[e] at h;have h:=Vy h;cases x with
  |none=>simp at h
  |some u0=>
   refine⟨u0,rfl,?_⟩;dsimp only at h;by_cases c:G.is j=true
   ·rw[hV (by rw[c];rfl)] at h;split at h
    ·rename_i i hi;refine .inl ⟨c,i,hi,?_⟩;cases e2:ρi[i]? with
     |none=>rw[e2] at h;cases h
     |some y=>rw[e2] at h;simp at h;rw[h]
    ·rename_i hi;exact .inr ⟨Vy h,.inr hi⟩
   ·have c:G.is j=false:=Yw.mpr c;rw[hU (by rw[c];exact Vb)] at h;exact .inr ⟨Vy h,.inl c⟩
theorem cu.wb {σ4:St}(q:cu K G Z A ρ σ H)(ok:mx js=true)(q':cu K (pH G js) (Lm G js A ρ σ H) A ρi σ4 H')(ho:∀i,(pH G js).is i=true->σ4[i]? = (uu js σ)[i]?):cu K G Z A (L2.wb G js ρi ρ) σ H'/\eT A H H':=by
 have Pc:∀a,Ht G js ρ σ a->A a/\Z.B a=none:=λa h00=>by
  obtain⟨i,j,u,h1,h2,h3,h4⟩:=h00;obtain⟨b,e1,e2,e3,_⟩:=q.own h2 h3;rw[h4] at e1;cases e1;exact⟨e2,e3⟩
 have ex:eT A H H':=λb o nb z=>q'.bas b o (by rw[mC λc=>nb (Pc b c).1];exact z);refine⟨{
  slot:=λj u h=>?_
  dis:=λi k u w a ci ck ne hi hk si sk=>by
   obtain⟨u1,h1,_⟩:=zw hi;obtain⟨u2,h2,_⟩:=zw hk;exact q.dis i k u1 u2 a ci ck ne h1 h2 si sk
  mu:=q'.mu
  sup:=q.sup
  out:=q.out
  bas:=λa o h=>q'.bas a o (by
   rw[mC λc=>by rw[(Pc a c).2] at h;cases h];exact q.bas a o h)
  io0:=q.io0
  len:=by unfold L2.wb;rw[List.length_mapIdx];exact q.len},ex⟩
 obtain⟨u0,h0,hh⟩:=zw h;rcases hh with⟨c,i,hi,hu⟩|⟨rfl,hc⟩
 ·have hj:=uy hi;obtain⟨a,e1,e2,e3,e4,_⟩:=q.own c h0;have ci:(pH G js).is i=true:=by rw[qS hj];exact c
  obtain⟨a',k1,k2,_,_,k5⟩:=q'.own ci hu;rw[ho i ci,mB hj e1] at k1;cases k1;refine⟨.ref a,e1,?_⟩;rw[hV c];exact⟨a,rfl,e2,e3,e4,k5⟩
 ·obtain⟨v,h1,h2⟩:=q.slot j u0 h0;refine⟨v,h1,?_⟩;by_cases c:G.is j=true
  ·rw[hV c] at h2 ⊢;obtain⟨a,rfl,e2,e3,e4,e5⟩:=h2;have hc:j5 js j=none:=by
    rcases hc with hc|hc
    ·rw[c] at hc;cases hc
    ·exact hc
   have nc:¬Ht G js ρ σ a:=λh00=>by
    obtain⟨i,j',u,z1,z2,z3,z4⟩:=h00;have ne:j≠j':=λz=>by subst z;exact qU hc z1
    exact q.dis j j' u0 u a c z2 ne h0 z3 h1 z4
   exact⟨a,rfl,e2,e3,e4,e5.re q.mu ex (λb z=>.inl z) λo z=>q'.bas a o (by rw[mC nc];exact z)⟩
  ·rw[hU c] at h2 ⊢;exact h2.re q.mu ex λb z=>.inl z
end
noncomputable def MM (f:U->R (Option U)):List U->R (List U)
 | []=>.ok []
 |u::us=>(f u).bind λo=>(MM f us).bind λr=>.ok (match o with
  |some y=>y::r
  |none=>r)
noncomputable def MN (js:List (Option Nat))(sg:U->Ev->R Ev)(gt:Ev->R (Bool×Ev))(ge:Ev->R (U×Ev))(ρ:Ev)(u:U):R (Option U):=
 (sg u (jz js ρ)).bind λρi=>(gt ρi).bind λc=>if c.1=true then (ge ρi).bind λy=>.ok (some y.1) else .ok none
noncomputable def dO (gi:Ev->R (List U×Ev))(js:List (Option Nat))(sg:U->Ev->R Ev)(gt:Ev->R (Bool×Ev))(ge:Ev->R (U×Ev)):Ev->R (U×Ev):=λρ=>
 (gi ρ).bind λx=>(MM (MN js sg gt ge x.2) x.1).bind λys=>.ok (.lst ys,x.2)
noncomputable def nI (G:Gm)(js:List (Option Nat))(sg:U->Ev->R Ev)(gt:Ev->R (Bool×Ev))(ge:Ev->R (U×Ev)):List U->Ev->R (List U×Ev)
 | [],ρ=>.ok ([],ρ)
 |u::us,ρ=>(sg u (jz js ρ)).bind λρi=>(gt ρi).bind λc=>if c.1=true then (ge c.2).bind λy=>(nI G js sg gt ge us (wb G js y.2 ρ)).bind λr=>.ok (y.1::r.1,r.2) else nI G js sg gt ge us (wb G js c.2 ρ)
noncomputable def zx (G:Gm)(gi:Ev->R (List U×Ev))(js:List (Option Nat))(sg:U->Ev->R Ev)(gt:Ev->R (Bool×Ev))(ge:Ev->R (U×Ev)):Ev->R (U×Ev):=λρ=>
 (gi ρ).bind λx=>(nI G js sg gt ge x.1 x.2).bind λy=>.ok (.lst y.1,y.2)
theorem R.bind_ok {α β:Type}{x:R α}{k:α->R β}{b:β}(h:x.bind k=.ok b):∃a,x=.ok a/\k a=.ok b:=by
 cases x with
 |ok a=>exact⟨a,rfl,h⟩
 |exc=>cases h
 |stk=>cases h
section
variable {e:W5}{b1 b2 b3 p:Bool}{m me:Md}{gi:Ev->R (List U×Ev)}{gt:Ev->R (Bool×Ev)}{ge:Ev->R (U×Ev)}
theorem xr (ok:mx js=true)(hn:me≠.P){Q:VK}(h:tD X.K G b1 .O (dO gi js sg gt ge) σ H Q) :
  Pz (QL X.K G b1 p gi) js (λ_=>QJ X.K (pH G js) sg) (λ_=>Dg X.K (pH G js) false gt) (λ_=>tD X.K (pH G js) false me ge) σ H Q:=by
 obtain⟨Z,A,ρ,q,f⟩:=h;obtain⟨⟨us,ρ1⟩,e1,f⟩:=f.bind;obtain⟨all,e2,f⟩:=f.bind;refine⟨Z,A,ρ,q,?_⟩;rw[e1];intro J H1 q1 x1 s1 ⟨hz,wk⟩ Y;dsimp only at e2 f;refine⟨λi k ys H2=>i+k=us.length/\aT H1 H2/\∃done rest,MM (MN js sg gt ge ρ1) (us.drop i)=.ok rest/\done++rest=all/\aK X.K H2 A done ys/\done.length<=i,
  ⟨us.length,by lia,aT.refl _,[],all,by rw[Zw];exact e2,rfl,aK.nil,Vh _⟩,?_⟩
 rintro i k ys H2 ⟨hk,sm,done,rest,e3,e4,rs,hd⟩;have q2:=q1.same sm;obtain⟨w1,w2⟩:=wk H2 A (by split;exact sm;exact eT.same sm) λb z=>.inl z;by_cases yT:i<us.length
 ·have eu:us[i]? = some us[i]:=U4 yT;obtain⟨go,yl⟩:=w1 i _ eu;rw[Wq yT] at e3;unfold MM at e3;obtain⟨o,e5,e3⟩:=R.bind_ok e3;obtain⟨r,e6,e3⟩:=R.bind_ok e3;unfold MN at e5;obtain⟨ρi,e7,e5⟩:=R.bind_ok e5;obtain⟨⟨c,ρc⟩,e8,e5⟩:=R.bind_ok e5;refine .inr ⟨go,by rw[←rs.length];lia,λKp H'=>aT H1 H'/\∃done,done++r=all/\aK X.K H' A done Kp/\done.length<=i+1,λKp H' ⟨z1,dn,z2,z3,z4⟩=>⟨k-1,by lia,by lia,z1,dn,r,e6,z2,z3,z4⟩,λx H3 y=>?_⟩;obtain⟨sm3,rp⟩:=yl x H3 y;refine⟨_,A,jz js ρ1,us[i],(AL (q2.same sm3) ok),rp,?_⟩;rw[e7];intro σ4 q4 _;refine⟨_,A,ρi,q4,?_⟩;rw[e8];intro H5 q5 x5 s5;obtain⟨rfl,Ko⟩:=s5 rfl;cases c with
  |false=>
   rw[hU Vb] at e5 ⊢;cases e5;cases e3;exact⟨(sm.trans sm3).trans Ko,done,e4,(rs.same sm3).same Ko,by lia⟩
  |true=>
   rw[hV rfl] at e5 ⊢;obtain⟨⟨y1,ρy⟩,e9,e5⟩:=R.bind_ok e5;cases e5;cases e3;refine⟨_,A,ρc,q5,?_⟩;rw[e9];intro v H6 q6 x6 s6 vm;obtain⟨rfl,sm6⟩:=s6 rfl;have SX:=sm3.trans (Ko.trans sm6);exact⟨sm.trans SX,done++[y1],by rw[VC];exact e4,(rs.same SX).append (aK.cons (vm.rp hn) aK.nil),by rw[Ve];simp;lia⟩
 ·have e:i=us.length:=by lia
  subst e;rw[YM] at e3;cases e3;rw[VU] at e4;subst e4;refine .inl ⟨w2,λa na=>?_⟩;have sn:=cN na (.lst ys);exact f _ _ (q2.same sn) ((x1.trans (eT.same sm)).trans (eT.same sn)) (pG (pG s1 sm) sn) (De.e q2 sn ⟨a,rfl,na,bC q2.mu rs na (by lia)⟩)
theorem xt (ok:mx js=true)(hn:me≠.P){Q:VK}(h:tD X.K G true .O (zx G gi js sg gt ge) σ H Q) :
  Pz (QL X.K G b1 false gi) js (λ_=>QJ X.K (pH G js) sg) (λ_=>Dg X.K (pH G js) b2 gt) (λ_=>tD X.K (pH G js) b3 me ge) σ H Q:=by
 obtain⟨Z,A,ρ,q,f⟩:=h;obtain⟨⟨us,ρ1⟩,e1,f⟩:=f.bind;obtain⟨⟨all,ρe⟩,e2,f⟩:=f.bind;refine⟨Z,A,ρ,q,?_⟩;rw[e1];intro J H1 q1 x1 s1 ⟨hz,wk⟩ Y;dsimp only at e2 f;refine⟨λi k ys H2=>i+k=us.length/\eT A H1 H2/\∃ρ2 done rest,cu X.K G Z A ρ2 σ H2/\nI G js sg gt ge (us.drop i) ρ2=.ok (rest,ρe)/\done++rest=all/\aK X.K H2 A done ys/\done.length<=i,
  ⟨us.length,by lia,eT.refl,ρ1,[],all,q1,by rw[Zw];exact e2,rfl,aK.nil,Vh _⟩,?_⟩
 rintro i k ys H2 ⟨hk,ex,ρ2,done,rest,q2,e3,e4,rs,hd⟩;obtain⟨w1,w2⟩:=wk H2 A (by rw[hU Vb];exact ex) λb z=>.inl z;by_cases yT:i<us.length
 ·have eu:us[i]? = some us[i]:=U4 yT;obtain⟨go,yl⟩:=w1 i _ eu;rw[Wq yT] at e3;unfold nI at e3;obtain⟨ρi,e7,e3⟩:=R.bind_ok e3;obtain⟨⟨c,ρc⟩,e8,e3⟩:=R.bind_ok e3;refine .inr ⟨go,by rw[←rs.length];lia,λKp H'=>eT A H1 H'/\∃ρ2 done rest,cu X.K G Z A ρ2 σ H'/\nI G js sg gt ge (us.drop (i+1)) ρ2=.ok (rest,ρe)/\done++rest=all/\aK X.K H' A done Kp/\done.length<=i+1,λKp H' z=>⟨k-1,by lia,by lia,z⟩,λx H3 y=>?_⟩;obtain⟨sm3,rp⟩:=yl x H3 y;have q3:=q2.same sm3;refine⟨Lm G js A ρ2 σ H3,A,jz js ρ2,us[i],Ln q3 ok,rp,?_⟩;rw[e7];intro σ4 q4 o4;refine⟨_,A,ρi,q4,?_⟩;rw[e8];intro H5 q5 x5 s5;dsimp only at e3;cases c with
  |false=>
   rw[hU Vb] at e3 ⊢;obtain⟨q6,x6⟩:=q3.wb ok q5 o4;exact⟨ex.trans ((eT.same sm3).trans x6),_,done,rest,q6,e3,e4,(rs.same sm3).re q3.mu x6 (λb z=>.inl z),by lia⟩
  |true=>
   rw[hV rfl] at e3 ⊢;obtain⟨⟨y1,ρy⟩,e9,e3⟩:=R.bind_ok e3;obtain⟨⟨r,ρr⟩,e10,e3⟩:=R.bind_ok e3;cases e3;refine⟨_,A,ρc,q5,?_⟩;rw[e9];intro v H6 q6 x6 s6 vm;obtain⟨q7,x7⟩:=q3.wb ok q6 o4;exact⟨ex.trans ((eT.same sm3).trans x7),_,done++[y1],r,q7,e10,by rw[VC];exact e4,((rs.same sm3).re q3.mu x7 (λb z=>.inl z)).append (aK.cons (vm.rp hn) aK.nil),by rw[Ve];simp;lia⟩
 ·have e:i=us.length:=by lia
  subst e;rw[YM] at e3;cases e3;rw[VU] at e4;subst e4;refine .inl ⟨w2,λa na=>?_⟩;have sn:=cN na (.lst ys);exact f _ _ (q2.same sn) ((x1.trans ex).trans (eT.same sn)) (λz=>nomatch z) (De.e q2 sn ⟨a,rfl,na,bC q2.mu rs na (by lia)⟩)
structure Cj (X:Cx)(G:Gm)(pz:List W5)(b:Bool)(h:Ev->R (Bool×Ev)):Prop where
 un:Cd X pz (Dg X.K G b h)
noncomputable def fO:Ev->R (Bool×Ev):=λρ=>.ok (true,ρ)
theorem bB:Cj X G [] false fO:=⟨λpins s σ H Q I ⟨Z,A,ρ,q,f⟩=>D1 pins s σ H Q I (f H q eT.refl λ_=>⟨rfl,aT.refl _⟩)⟩
theorem ft {h:Ev->R (Bool×Ev)}(hc:DT X G e b1 h):Cj X G [e] b1 h:=⟨D2 hc.un⟩
theorem eK (jS:aai)(NX N:List Str)(js:List (Option Nat))(hc:X.calm=true)(hi:DI X G tg iter b1 p gi)(sY:∀Y:pF,DG (dI X scope N Y) (pH G js) tg sg/\Cj (dI X scope N Y) (pH G js) pz false gt/\DE (dI X scope N Y) (pH G js) elt false me ge)(hn:me≠.P:=by decide)(ok:mx js=true:=by rfl)(jX:X.env.scope=jS:=by rfl)(Gv:X.N=NX:=by rfl)(hS:qA jS NX scope N js=true:=by decide+kernel)(hs:∀x,WB iter X.env x=pure x:=by intro _;rfl):DE X G (.ListComp elt [⟨tg,iter,pz,0⟩] scope pos) b1 .O (dO gi js sg gt ge):=⟨(IY jS NX N js hc hi.un (λY=>⟨(sY Y).1.un,(sY Y).2.1.un,(sY Y).2.2.un⟩) jX Gv hS hs).to λ_ _ _=>xr ok hn⟩
theorem Lo (jS:aai)(NX N:List Str)(js:List (Option Nat))(hc:X.calm=true)(hi:DI X G tg iter b1 false gi)(sY:∀Y:pF,DG (dI X scope N Y) (pH G js) tg sg/\Cj (dI X scope N Y) (pH G js) pz b2 gt/\DE (dI X scope N Y) (pH G js) elt b3 me ge)(hn:me≠.P:=by decide)(ok:mx js=true:=by rfl)(jX:X.env.scope=jS:=by rfl)(Gv:X.N=NX:=by rfl)(hS:qA jS NX scope N js=true:=by decide+kernel)(hs:∀x,WB iter X.env x=pure x:=by intro _;rfl):DE X G (.ListComp elt [⟨tg,iter,pz,0⟩] scope pos) true .O (zx G gi js sg gt ge):=⟨(IY jS NX N js hc hi.un (λY=>⟨(sY Y).1.un,(sY Y).2.1.un,(sY Y).2.2.un⟩) jX Gv hS hs).to λ_ _ _=>xt ok hn⟩
variable {k_ jY:Pos}
theorem eA (jS:aai)(NX N:List Str)(js:List (Option Nat))(hN:X.N.Nodup)(hc:X.calm=true)(hi:DI X G tg iter b1 p gi)(sY:∀Y:pF,DG (dI X scope N Y) (pH G js) tg sg/\Cj (dI X scope N Y) (pH G js) pz false gt/\DE (dI X scope N Y) (pH G js) elt false me ge)(hx:X.N[i]? = some x:=by rfl)(hl:GD X.env.scope x:=by first|exact Or.inl rfl|exact Or.inr rfl)(c:G.is i=false:=by rfl)(hn:me≠.P:=by decide)(ok:mx js=true:=by rfl)(jX:X.env.scope=jS:=by rfl)(Gv:X.N=NX:=by rfl)(hS:qA jS NX scope N js=true:=by decide+kernel)(hw:Zx (.ListComp elt [⟨tg,iter,pz,0⟩] scope jY) (some (.Name x k_)) pos.line X.env=pure true:=by rfl)(hf:X.fn x=true\/X.env.scope.names.lookup x=some .local:=by first|exact .inl rfl|exact .inr rfl|assumption)(hs:∀x,WB iter X.env x=pure x:=by intro _;rfl):DS X G m (.Assign [.Name x k_] (.ListComp elt [⟨tg,iter,pz,0⟩] scope jY) pos) (aZ i (dO gi js sg gt ge)):=⟨(xh jS NX N js hN hx hl hc hi.un (λY=>⟨(sY Y).1.un,(sY Y).2.1.un,(sY Y).2.2.un⟩) jX Gv hS hw hf hs).to λ_ _ _=>xq (b1:=b1) c (by decide) λ_ _ _=>xr ok hn⟩
theorem zy (jS:aai)(NX N:List Str)(js:List (Option Nat))(hN:X.N.Nodup)(hc:X.calm=true)(hi:DI X G tg iter b1 false gi)(sY:∀Y:pF,DG (dI X scope N Y) (pH G js) tg sg/\Cj (dI X scope N Y) (pH G js) pz b2 gt/\DE (dI X scope N Y) (pH G js) elt b3 me ge)(h0:G.io=true->i≠0:=by decide)(hx:X.N[i]? = some x:=by rfl)(hl:GD X.env.scope x:=by first|exact Or.inl rfl|exact Or.inr rfl)(c:G.is i=true:=by rfl)(hn:me≠.P:=by decide)(ok:mx js=true:=by rfl)(jX:X.env.scope=jS:=by rfl)(Gv:X.N=NX:=by rfl)(hS:qA jS NX scope N js=true:=by decide+kernel)(hw:Zx (.ListComp elt [⟨tg,iter,pz,0⟩] scope jY) (some (.Name x k_)) pos.line X.env=pure true:=by rfl)(hf:X.fn x=true\/X.env.scope.names.lookup x=some .local:=by first|exact .inl rfl|exact .inr rfl|assumption)(hs:∀x,WB iter X.env x=pure x:=by intro _;rfl):DS X G m (.Assign [.Name x k_] (.ListComp elt [⟨tg,iter,pz,0⟩] scope jY) pos) (aZ i (zx G gi js sg gt ge)):=⟨(xh jS NX N js hN hx hl hc hi.un (λY=>⟨(sY Y).1.un,(sY Y).2.1.un,(sY Y).2.2.un⟩) jX Gv hS hw hf hs).to λ_ _ _=>ux (b1:=true) c h0 λ_ _ _=>xt (b1:=b1) (b2:=b2) (b3:=b3) ok hn⟩
end
end L2
namespace L2
noncomputable def jL (n:Nat)(us:List U):Ev:=us.map some++V2 (n-us.length) none
noncomputable def dE (m:Md)(n:Nat)(s:Ev->SR):List U->R U:=λus=>match s (jL n us) with
 | .rt u _=>.ok u
 | .nx _=>if m=.S then .ok .non else .stk
 | .exc c u=>.exc c u
 |_=>.stk
noncomputable def Ck (n:Nat)(s:Ev->SR):List U->R (U×U):=λus=>match s (jL n us) with
 | .rt u ρ=>match ρ[0]? with
  |some (some w)=>.ok (u,w)
  |_=>.stk
 | .nx ρ=>match ρ[0]? with
  |some (some w)=>.ok (.non,w)
  |_=>.stk
 | .exc c u=>.exc c u
 |_=>.stk
theorem mD (h:(jL n us)[i]? = some (some u)):us[i]? = some u:=by
 unfold jL at h;by_cases c:i<(us.map some).length
 ·rw[Wn c,VL] at h;cases e:us[i]? with
  |none=>rw[e] at h;cases h
  |some w=>rw[e] at h;simp at h;rw[h]
 ·rw[V9 (by lia),List.getElem?_replicate] at h;split at h
  ·cases h
  ·cases h
theorem kM (h:vs[i]? = some v):(Y1 N vs)[i]? = some (some v):=by
 unfold Y1;have c:i<(vs.map some).length:=by rw[Vd];exact (Vg.mp h).1
 rw[Wn c,VL,h];rfl
theorem AM (h:us.length=vs.length):(jL N.length us).length=(Y1 N vs).length:=by
 unfold jL Y1;rw[Ve,Ve,Vd,Vd,Yh,Yh,h]
section
variable {base:XI}
theorem vy (G:Gm)(m:Md)(s:Ev->SR)(GN:G.io=false)(pX:∀i,i<ps.length->G.is i=false)(iJ:∀(f:Vr) (cP:Va) (A:VR) (outer:List Env) (s0:Vo) (H:Hp) (E:XK),fh k (A.deeper (Z_ x (aq st) s0.heap.objs.size f cP))->
   zv (pD xc P w K mg base N x (aq st) f cP A outer s0 H E).nox G m (cb st) s) :
  (∀vs H Q E,gH K ps.length (dE m N.length s) m vs H Q E->vs.length=ps.length)/\∀(f:Vr) (cP:Va) (A:VR) (outer:List Env) (s0:Vo) (H:Hp) (vs:List V) (Q:VK) (E:XK),fh k (A.deeper (Z_ x (aq st) s0.heap.objs.size f cP))->gH K ps.length (dE m N.length s) m vs H Q E->
   ∃t,tG (pD xc P w K mg base N x (aq st) f cP A outer s0 H E).nox (cb st) t/\t {nx:=λ_ H'=>Q .non H',rt:=Q} (Y1 N vs) H:=by
 have hl:∀(us:List U) (A:Vr->Prop) (H:Hp) (Q:VK),NG K m A H (zt ps.length (dE m N.length s) us) Q->us.length=ps.length:=λus A H Q h=>by
  unfold zt at h;split at h
  ·assumption
  ·exact h.elim
 refine⟨λvs H Q E ⟨us,A,r,_,h⟩=>by rw[←r.length];exact hl us A H Q h,λf cP A outer s0 H vs Q E hr ⟨us,A0,r,mu,h⟩=>⟨_,(iJ f cP A outer s0 H E hr).un,?_⟩⟩;have l:=hl us A0 H Q h;unfold zt at h;rw[hV l] at h;refine⟨⟨A0,H,0⟩,A0,jL N.length us,?_,?_⟩
 ·exact {
   slot:=λi u hu=>by
    have hu:=mD hu;obtain⟨v,h1,h2⟩:=r.get hu;refine⟨v,kM h1,?_⟩;rw[hU (by rw[pX i (by rw[←l];exact (Vg.mp hu).1)];exact Vb)];exact h2
   dis:=λi j u w a ci cj ne hi hj si sj=>by
    rw[pX i (by rw[←l];exact (Vg.mp (mD hi)).1)] at ci;cases ci
   mu:=mu
   sup:=λa h=>h
   out:=λa h=>.inl h
   bas:=λa o h=>h
   io0:=λh=>by rw[GN] at h;cases h
   len:=AM r.length}
 ·unfold dE at h;cases e:s (jL N.length us) with
  |nx ρ'=>
   rw[e] at h;dsimp only at h;intro A' σ' H' q;split at h
   ·rename_i hm;subst hm;exact h _ H' q.bas (show Rp K H' A0 .non .non from qM)
   ·exact h.elim
  |rt u ρ'=>
   rw[e] at h;intro A' σ' H' v q vm;refine h v H' q.bas ?_;cases m with
   |S=>exact vm
   |P=>exact vm.elim
   |O=>
    obtain⟨a,e1,e2,e3,e4⟩:=vm;exact⟨a,e1,e2,e4⟩
  |bk=>rw[e] at h;exact h.elim
  |ct=>rw[e] at h;exact h.elim
  |exc=>rw[e] at h;exact h.elim
  |stk=>rw[e] at h;exact h.elim
theorem Df.fnD (G:Gm)(m:Md)(s:Ev->SR)(d:Df K mg x st)(S:aS N ps (aq st))(hb:∀(kV nv pm:Va) (an:Option Vr) (cP ct:Va) (us:List Va),us.length=ps.length->bindArgs (WY x x (fi st) (cb st) (aq st) .none kV nv pm an cP ct) ⟨us,[]⟩=pure (ps.zip us))(GN:G.io=false)(pX:∀i,i<ps.length->G.is i=false)(iJ:∀(f:Vr) (cP:Va) (A:VR) (outer:List Env) (s0:Vo) (H:Hp) (E:XK),fh k (A.deeper (Z_ x (aq st) s0.heap.objs.size f cP))->
   zv (pD xc P w K mg base N x (aq st) f cP A outer s0 H E).nox G m (cb st) s):Fn P w K mg base x (k+1) ps (gH K ps.length (dE m N.length s) m):=
 d.fn S hb (vy G m s GN pX iJ).1 (vy G m s GN pX iJ).2
theorem GG.okD (G:Gm)(m:Md)(s:Ev->SR)(F:GG K x x st f fd)(S:aS N ps (aq st))(GN:G.io=false)(pX:∀i,i<ps.length->G.is i=false)(iJ:∀(f:Vr) (cP:Va) (A:VR) (outer:List Env) (s0:Vo) (H:Hp) (E:XK),fh k (A.deeper (Z_ x (aq st) s0.heap.objs.size f cP))->
   zv (pD xc P w K mg base N x (aq st) f cP A outer s0 H E).nox G m (cb st) s):k7 P w K mg base xc (k+1) f fd ps (gH K ps.length (dE m N.length s) m):=
 F.ok S (vy G m s GN pX iJ).1 ((vy G m s GN pX iJ).2 f)
def xu (K:U7):Sp:=λvs H Q _=>∃(a:Vr) (ns:List Int),vs=[.ref a]/\Hl K H a (ns.map V.int)/\ns.length<=63/\∀H',Q (.bl true) H'
theorem Lp (hO:Hd H)(h:fH K H a xs):Hl K H a xs:=by
 rcases h with (h|h)|h
 ·rcases hO a with z|⟨o,ys,z⟩
  ·rw[h] at z;cases z
  ·rw[h] at z;cases z
 ·exact .inl h
 ·exact .inr h
theorem xv {H:Hp}{A:Vr->Prop}:∀(ns:List Int),aK K H A (ns.map .int) (ns.map V.int)
 | []=>aK.nil
 |n::ns=>aK.cons dN (xv ns)
theorem Lq {f:List U->R U}{fa:Vr}(F:k7 P w K mg base xc k fa fd ["script"] (gH K 1 f .S))(h:∀ns:List Int,ns.length<=63->f [.scr (ns.map .int)]=.ok (.bl true)):k7 P w K mg base xc k fa fd ["script"] (xu K):=by
 refine F.imp λvs H Q E ⟨a,ns,e,sc,l,q⟩=>?_;subst e;have hl:(ns.map U.int).length<=Vf:=by rw[Vd];have:Vf=16777216:=rfl;lia
 refine⟨[.scr (ns.map .int)],λ_=>False,aK.cons ?_ aK.nil,λ_ h=>h.elim,?_⟩
 ·unfold Rp;exact⟨a,_,rfl,sc,hl,xv ns⟩
 ·have e:zt 1 f [.scr (ns.map .int)]=.ok (.bl true):=(hV rfl).trans (h ns l);rw[e];intro v H' sm vm;have vm:Rp K H' (λ_=>False) (.bl true) v:=vm;unfold Rp at vm;subst vm;exact q H'
theorem Df.fnI (G:Gm)(s:Ev->SR)(d:Df K mg x st)(S:aS N ps (aq st))(hb:∀(kV nv pm:Va) (an:Option Vr) (cP ct:Va) (us:List Va),us.length=ps.length->bindArgs (WY x x (fi st) (cb st) (aq st) .none kV nv pm an cP ct) ⟨us,[]⟩=pure (ps.zip us))(GN:G.io=true)(h0:G.is 0=true)(pX:∀i,i<ps.length->i≠0->G.is i=false)(iJ:∀(f:Vr) (cP:Va) (A:VR) (outer:List Env) (s0:Vo) (H:Hp) (E:XK),fh k (A.deeper (Z_ x (aq st) s0.heap.objs.size f cP))->
   zv (pD xc P w K mg base N x (aq st) f cP A outer s0 H E).nox G .S (cb st) s):Fn P w K mg base x (k+1) ps (IZ K ps.length (Ck N.length s)):=by
 refine d.fn S hb ?_ ?_
 ·rintro vs H Q E ⟨u0,us,a0,vs',A,rfl,_,_,r,_,h⟩;unfold zt at h;split at h
  ·rename_i e;split at e
   ·rename_i l;rw[Vi,←r.length,←l];rfl
   ·cases e
  ·exact h.elim
 ·rintro f cP A outer s0 H vs Q E hr ⟨u0,us,a0,vs',A0,rfl,ha,t0,r,mu,h⟩;refine⟨_,(iJ f cP A outer s0 H E hr).un,?_⟩;have l:(u0::us).length=ps.length:=by
   unfold zt at h;by_cases c:(u0::us).length=ps.length
   ·exact c
   ·rw[hU c] at h;exact h.elim
  unfold zt at h;rw[hV l] at h
  let Z:Pkg:=⟨A0,λb=>if b=a0 then none else H b,a0⟩
  have zb:∀b o,b≠a0->H b=some o->Z.B b=some o:=λb o nb z=>by
   show (if b=a0 then none else H b)=some o;rw[hU nb];exact z
  have rel:cu K G Z A0 (jL N.length (u0::us)) (Y1 N (.ref a0::vs')) H:={
   slot:=λi u hu=>by
    have hu:=mD hu;cases i with
    |zero=>
     simp at hu;subst hu;refine⟨.ref a0,kM (by simp),?_⟩;rw[hV h0];exact⟨a0,rfl,ha,by show (if a0=a0 then none else H a0)=none;rw[hV rfl],.inr ⟨GN,rfl⟩,t0⟩
    |succ i=>
     have hl:=(Vg.mp hu).1;rw[Wg] at hu;obtain⟨v,h1,h2⟩:=r.get hu;refine⟨v,kM (by rw[Wg];exact h1),?_⟩;rw[hU (by rw[pX (i+1) (by rw[←l];exact hl) (by lia)];exact Vb)];exact h2
   dis:=λi j u w a ci cj ne hi hj si sj=>by
    have hi:=(Vg.mp (mD hi)).1;have hj:=(Vg.mp (mD hj)).1;by_cases e:i=0
    ·rw[pX j (by rw[←l];exact hj) (by lia)] at cj;cases cj
    ·rw[pX i (by rw[←l];exact hi) e] at ci;cases ci
   mu:=mu
   sup:=λa h=>h
   out:=λa h=>.inl h
   bas:=λa o h=>by
    by_cases c:a=a0
    ·have h:(if a=a0 then none else H a)=some o:=h;rw[hV c] at h;cases h
    ·have h:(if a=a0 then none else H a)=some o:=h;rw[hU c] at h;exact h
   io0:=λ_=>⟨kM (vs:=.ref a0::vs') (i:=0) (v:=.ref a0) rfl,h0⟩
   len:=AM (by rw[Vi,Vi,r.length])}
  have fin:∀(A':Vr->Prop) (ρ':Ev) (σ':St) (H':Hp) (w:U),cu K G Z A' ρ' σ' H'->ρ'[0]? = some (some w)->(∀b o,b≠a0->H b=some o->H' b=some o)/\j2 K H' A0 w a0:=λA' ρ' σ' H' w q hw=>by
   obtain⟨a,e1,e2,e3,e4,e5⟩:=q.own h0 hw;rw[(q.io0 GN).1] at e1;cases e1;exact⟨λb o nb z=>q.bas b o (zb b o nb z),e5.mono q.sup⟩
  refine⟨Z,A0,_,rel,?_⟩;unfold Ck at h;cases e:s (jL N.length (u0::us)) with
  |nx ρ'=>
   rw[e] at h;dsimp only at h;intro A' σ' H' q;split at h
   ·rename_i hm;split at hm
    ·rename_i w hw;cases hm;obtain⟨z1,z2⟩:=fin A' ρ' σ' H' _ q hw;exact h _ H' z1 z2 qM
    ·cases hm
   ·exact h.elim
  |rt u ρ'=>
   rw[e] at h;dsimp only at h;intro A' σ' H' v q vm;split at h
   ·rename_i hm;split at hm
    ·rename_i w hw;cases hm;obtain⟨z1,z2⟩:=fin A' ρ' σ' H' _ q hw;exact h _ H' z1 z2 vm
    ·cases hm
   ·exact h.elim
  |bk=>rw[e] at h;exact h.elim
  |ct=>rw[e] at h;exact h.elim
  |exc=>rw[e] at h;exact h.elim
  |stk=>rw[e] at h;exact h.elim
end
section
variable {e e2:W5}{p1 p2:Pos}{y:Str}{b1 b2:Bool}{m m1 m2:Md}{g1 g2:Ev->R (U×Ev)}
noncomputable def qV (i:Nat)(gv gk:Ev->R (U×Ev)):Ev->SR:=λρ=>SR.of (gv ρ) λx=>if live x.2 i=true then SR.of (gk x.2) λy=>match y.1 with
 | .int k=>match y.2[i]? with
  |some (some (.lst us))=>match C_ us.length k with
   |some j=>.nx (y.2.set i (some (.lst (us.set j x.1))))
   |none=>.stk
  |_=>.stk
 |_=>.stk
 else .stk
theorem mE (he:DE X G e b1 m1 g1)(hk:DE X G e2 b2 m2 g2)(hn:m1≠.P:=by decide)(hN:X.N[i]? = some y:=by rfl)(hv:GR X.env.scope y:=by first|exact Or.inl rfl|exact Or.inr (Or.inl rfl)|exact Or.inr (Or.inr rfl))(c:G.is i=true:=by rfl)(hd:(y==("__debug__":Str))=false:=by decide)(sW:(y==("__classdict__":Str))=false:=by decide)(ha:∀v,assign (.Subscript (.Name y p1) e2 p2) X.env v=(do
   let ov ←holding [v] (YD (.Name y p1) X.env)
   let iv ←holding [v,ov] (YD e2 X.env)
   standAt p2
   holding [v,ov,iv] (setItem ov iv v)
   release [v,ov,iv] []):=by intro _;rfl)(hs:ZG [.Subscript (.Name y p1) e2 p2] e pos.line X.env=pure false:=by rfl)(hw:ZH [.Subscript (.Name y p1) e2 p2] e X.env=pure none:=by rfl)(h1:(XW [.Subscript (.Name y p1) e2 p2] X.env).map (·.2)=[assign (.Subscript (.Name y p1) e2 p2) X.env]:=by rfl):DS X G m (.Assign [.Subscript (.Name y p1) e2 p2] e pos) (qV i g1 g2):=⟨(Dq he.un (KP (lJ hN hv hd sW) hk.un DP ha) hs hw h1).to λD σ H h00=>by
 obtain⟨Z,A,ρ,q,f⟩:=h00;obtain⟨⟨u,ρ1⟩,e1,f⟩:=f.of;refine⟨Z,A,ρ,q,?_⟩;rw[e1];intro v H1 q1 x1 s1 vm;dsimp only at f;split at f
 ·rename_i hl;obtain⟨u00,hu0⟩:=AI hl;obtain⟨a0,h0,_⟩:=q1.own c hu0;obtain⟨⟨k,ρ2⟩,e2,f⟩:=f.of;refine⟨.ref a0,h0,Z,A,ρ1,q1,?_⟩;rw[e2];intro v2 H2 q2 x2 s2 vf;dsimp only at f;cases k with
  |int kk=>
   dsimp only at f;split at f
   ·rename_i us hu;split at f
    ·rename_i j hj;obtain⟨a0',k1,k2,_,_,k5⟩:=q2.own c hu;rw[h0] at k1;cases k1;obtain⟨xs,t1,t2,t3⟩:=k5;refine⟨a0,xs,kk,j,rfl,vf.pk.int,t1,by rw[←t3.length];exact hj,?_⟩;have em:∀b o,b≠a0->H2 b=some o->cQ H2 a0 (.lst (xs.set j v)) b=some o:=λb o nb z=>by rw[bg nb];exact z
     have ex:eT A H2 (cQ H2 a0 (.lst (xs.set j v))):=λb o nb z=>em b o (λy=>nb (y▸k2)) z;refine f A σ _ (q2.put c hu h0 em ⟨xs.set j v,bI,by rw[Wl];exact t2,?_⟩);exact (t3.re q2.mu ex λb z=>.inl z).set j (((vm.rp hn).re q1.mu x2 λb z=>.inl z).re q2.mu ex λb z=>.inl z)
    ·exact f.elim
   ·exact f.elim
  |_=>exact f.elim
 ·exact f.elim⟩
noncomputable def QM (i:Nat)(p:U->U->R U)(g:Ev->R (U×Ev)):Ev->SR:=λρ=>match ρ[i]? with
 |some (some u)=>SR.of (g ρ) λy=>SR.of (p u y.1) λz=>.nx (y.2.set i (some z))
 |_=>.stk
end
end L2
namespace L2
def Ep:R2:=λx y H Q=>∃l b xs zs,x=.ref l/\y=.ref b/\H l=some (.lst xs)/\H b=some (.lst zs)/\xs.length+zs.length<=Vf/\∀p,H p=none->Q (.ref p) (cQ H p (.lst (xs++zs)))
theorem Hu:jJ X (Yu .Add) Ep:=by
 intro pins s σ H x y v u Q I rx ry h;obtain⟨l,b,xs,zs,rfl,rfl,hH,hB,hz,q⟩:=h;cases rx;cases ry;obtain⟨z,its,n,r,hl,e⟩:=I.lstM hH;obtain⟨z2,its2,n2,r2,Mx,e2⟩:=I.lstM hB;refine PySem.P.add_list e e2 ?_ (by rw[U_,U_];lia);have ea:its.toArray++its2.toArray=(its++its2).toArray:=by simp
 rw[ea];exact⟨.ref _,_,I.lnew (t':=s.toks) (r.append r2) (by rw[Ve];lia),rfl,q _ I.fresh⟩
noncomputable def fu:U->U->R U:=λu w=>match u,w with
 | .int i,.int j=>.ok (.int (i+j))
 | .tup a,.tup b=>if a.length+b.length<=Vf then .ok (.tup (a++b)) else .stk
 | .lst a,.lst b=>if a.length+b.length<=Vf then .ok (.lst (a++b)) else .stk
 |_,_=>.stk
noncomputable def Lr:U->U->R U:=λu w=>match u,w with
 | .lst a,.lst b=>if a.length+b.length<=Vf then .ok (.lst (a++b)) else .stk
 |_,_=>.stk
def I0:R2:=λx y H Q=>(yX λi j=>.int (i+j)) x y H Q\/D_ x y H Q\/Ep x y H Q
theorem bK:jJ X (Yu .Add) I0:=KY.or (Ea.or Hu)
theorem Hv:fo K Ep .O Lr:=λA H x y u w z Q hx hy mu e q=>by
 unfold Lr at e;split at e
 ·split at e
  ·rename_i hl;cases e;unfold Pk at hx hy;obtain⟨a,xs,rfl,h1,l1,r1⟩:=hx;obtain⟨b,ys,rfl,h2,l2,r2⟩:=hy;exact⟨a,b,xs,ys,rfl,rfl,h1,h2,by rw[←r1.length,←r2.length];exact hl,λp hp=>q _ _ (cN hp _) ⟨p,rfl,hp,bC mu (r1.append r2) hp (by rw[Ve];exact hl)⟩⟩
  ·cases e
 ·cases e
theorem bL:fo K I0 .S fu:=λA H x y u w z Q hx hy mu e q=>by
 unfold fu at e;split at e
 ·cases e;exact .inl ⟨_,_,hx.int,hy.int,q _ H (aT.refl _) (show Rp K H A _ _ from dN)⟩
 ·split at e
  ·rename_i hl;cases e;unfold Pk at hx hy;obtain⟨a,xs,rfl,h1,l1,r1⟩:=hx;obtain⟨b,ys,rfl,h2,l2,r2⟩:=hy;refine .inr (.inl ⟨a,b,xs,ys,rfl,rfl,h1,h2,by rw[←r1.length,←r2.length];exact hl,λr H' sm hr=>q _ H' sm (show Rp K H' A _ _ from ?_)⟩);unfold Rp;exact⟨r,_,rfl,hr,by rw[Ve];exact hl,(r1.append r2).same sm⟩
  ·cases e
 ·refine .inr (.inr (Hv A H x y _ _ z Q hx hy mu (show Lr (.lst _) (.lst _)=_ from e) λv H' sm vm=>q v H' sm ?_));obtain⟨a,rfl,na,t⟩:=vm;exact t.rp (λb h=>.inl h) λh=>by have:=mu a h;rw[na] at this;exact this
 ·cases e
noncomputable def pI (c:Int->Int->Bool)(f:Int->Int->Int):U->U->R U:=λu w=>match u,w with
 | .int i,.int j=>if c i j=true then .ok (.int (f i j)) else .stk
 |_,_=>.stk
theorem AN {C:Int->Int->Prop}{c:Int->Int->Bool}{f:Int->Int->Int}(h:∀i j,c i j=true->C i j):fo K (rI C λi j=>.int (f i j)) .S (pI c f):=λA H x y u w z Q hx hy mu e q=>by
 unfold pI at e;split at e
 ·rename_i i j;split at e
  ·rename_i hc;cases e;exact⟨i,j,hx.int,hy.int,h i j hc,q _ H (aT.refl _) (show Rp K H A _ _ from dN)⟩
  ·cases e
 ·cases e
noncomputable def xw:U->U->R U:=λu w=>match u,w with
 | .int i,.int j=>.ok (.int (i-j))
 |_,_=>.stk
theorem p7:fo K (yX λi j=>.int (i-j)) .S xw:=λA H x y u w z Q hx hy mu e q=>by
 unfold xw at e;split at e
 ·cases e;exact⟨_,_,hx.int,hy.int,q _ H (aT.refl _) (show Rp K H A _ _ from dN)⟩
 ·cases e
noncomputable def pJ (i j:Int):Bool:=(decide (-(2 ^ 64)<i)&&decide (i<2 ^ 64))||(decide (-(2 ^ 64)<j)&&decide (j<2 ^ 64))
noncomputable def dP:U->U->R U:=pI pJ (·*·)
theorem cx:fo K (rI G1 λi j=>.int (i*j)) .S dP:=AN λi j h=>by
 unfold pJ at h;simp only[Y_,Vw,decide_eq_true_eq] at h;exact h
noncomputable def zz (_ j:Int):Bool:=decide (0<j)&&decide (j<18446744073709551616)
noncomputable def oE:U->U->R U:=pI zz (· / ·)
theorem jj:fo K (rI D4 λi j=>.int (i / j)) .S oE:=AN λi j h=>by
 unfold zz at h;simp only[Vw,decide_eq_true_eq] at h;exact h
noncomputable def vz:U->U->R U:=pI (λ_ j=>decide (0<j)) (· % ·)
theorem jA:fo K (rI (λ_ j=>0<j) λi j=>.int (i % j)) .S vz:=AN λi j h=>of_decide_eq_true h
noncomputable def Hw (i j:Int):Bool:=decide (0<=j)&&decide (j<=1000000)&&decide (i.natAbs<2 ^ 64)
noncomputable def Hx:U->U->R U:=pI Hw λi j=>i ^ j.toNat
theorem AO:fo K (rI Ng λi j=>.int (i ^ j.toNat)) .S Hx:=AN λi j h=>by
 unfold Hw at h;simp only[Vw,decide_eq_true_eq] at h;exact⟨h.1.1,h.1.2,h.2⟩
noncomputable def QN:U->R U:=λu=>match u with
 | .int i=>.ok (.int (-i))
 |_=>.stk
noncomputable def pC (f:Int->Int->Bool):U->U->R U:=λu w=>match u,w with
 | .int i,.int j=>.ok (.bl (f i j))
 |_,_=>.stk
theorem AQ {f:Int->Int->Bool}:fo K (yX λi j=>.bl (f i j)) .S (pC f):=λA H x y u w z Q hx hy mu e q=>by
 unfold pC at e;split at e
 ·cases e;exact⟨_,_,hx.int,hy.int,q _ H (aT.refl _) (show Rp K H A _ _ from qL)⟩
 ·cases e
noncomputable def NK:U->U->R U:=pC λi j=>decide (i<j)
noncomputable def NL:U->U->R U:=pC λi j=>decide (i<=j)
noncomputable def Hy:U->U->R U:=pC λi j=>decide (j<i)
noncomputable def QO:U->U->R U:=pC λi j=>decide (j<=i)
mutual
noncomputable def mF:U->Option D
 | .non=>some .non
 | .bl b=>some (.bl b)
 | .int i=>some (.int i)
 | .str x=>some (.str x)
 | .tup us=>(j6 us).map .tup
 | .lst us=>(j6 us).map .lst
 | .dct _ _=>none
 | .scr _=>none
noncomputable def j6:List U->Option (List D)
 | []=>some []
 |u::us=>(mF u).bind λd=>(j6 us).map λds=>d::ds
end
mutual
theorem zA {H:Hp}{A:Vr->Prop}:∀{u:U} {v:V} {d:D},Rp K H A u v->mF u=some d->aV K H d v
 | .non,v,d,h,e=>by unfold mF at e;cases e;unfold Rp at h;unfold aV;exact h
 | .bl b,v,d,h,e=>by unfold mF at e;cases e;unfold Rp at h;unfold aV;exact h
 | .int b,v,d,h,e=>by unfold mF at e;cases e;unfold Rp at h;unfold aV;exact h
 | .str b,v,d,h,e=>by unfold mF at e;cases e;unfold Rp at h;unfold aV;exact h
 | .tup us,v,d,h,e=>by
  unfold mF at e;cases e2:j6 us with
  |none=>rw[e2] at e;cases e
  |some ds=>
   rw[e2] at e;cases e;unfold Rp at h;unfold aV;obtain⟨a,xs,r,q,l,z⟩:=h;exact⟨a,xs,r,fK.of q,kN z e2⟩
 | .lst us,v,d,h,e=>by
  unfold mF at e;cases e2:j6 us with
  |none=>rw[e2] at e;cases e
  |some ds=>
   rw[e2] at e;cases e;unfold Rp at h;unfold aV;obtain⟨a,xs,r,_,q,l,z⟩:=h;exact⟨a,xs,r,fH.of q,kN z e2⟩
 | .dct _ _,v,d,h,e=>by unfold mF at e;cases e
 | .scr _,v,d,h,e=>by unfold mF at e;cases e
theorem kN {H:Hp}{A:Vr->Prop}:∀{us:List U} {vs:List V} {ds:List D},aK K H A us vs->j6 us=some ds->fI K H ds vs
 | [],vs,ds,h,e=>by unfold j6 at e;cases e;unfold aK at h;unfold fI;exact h
 |u::us,vs,ds,h,e=>by
  unfold j6 at e;cases e1:mF u with
  |none=>rw[e1] at e;cases e
  |some d=>
   cases e2:j6 us with
   |none=>rw[e1,e2] at e;cases e
   |some ds'=>
    rw[e1,e2] at e;cases e;unfold aK at h;unfold fI;obtain⟨x,r,q,p,z⟩:=h;exact⟨x,r,q,zA p e1,kN z e2⟩
end
theorem vA {d:D}(h:Pk K H A u v)(e:mF u=some d):aV K H d v:=by
 cases u with
 |lst us=>
  unfold mF at e;cases e2:j6 us with
  |none=>rw[e2] at e;cases e
  |some ds=>
   rw[e2] at e;cases e;unfold Pk at h;unfold aV;obtain⟨a,xs,r,q,l,z⟩:=h;exact⟨a,xs,r,fH.of q,kN z e2⟩
 |dct=>unfold mF at e;cases e
 |scr=>unfold mF at e;cases e
 |tup us=>exact zA (A:=A) (by unfold Pk at h;unfold Rp;exact h) e
 |_=>exact zA (A:=A) (by unfold Pk at h;unfold Rp;exact h) e
noncomputable def tM (u w:U):R Bool:=match mF u,mF w with
 |some d,some d'=>if dJ d<=30 then .ok (i5 d d') else .stk
 |_,_=>.stk
noncomputable def iS (f:Bool->Bool):U->U->R U:=λu w=>(tM u w).bind λb=>.ok (.bl (f b))
theorem bj {f:Bool->Bool}:fo K (La K f) .S (iS f):=λA H x y u w z Q hx hy mu e q=>by
 unfold iS tM at e;obtain⟨b,e1,e2⟩:=R.bind_ok e;split at e1
 ·rename_i d d' h1 h2;split at e1
  ·rename_i hd;cases e1;cases e2;exact⟨d,d',vA hx h1,vA hy h2,hd,q _ H (aT.refl _) (show Rp K H A _ _ from qL)⟩
  ·cases e1
 ·cases e1
noncomputable def xx:U->Bool
 | .non=>true
 |_=>false
theorem xy (h:Pk K H A u v):decide (v=.non)=xx u:=by
 cases u<;>unfold Pk at h
 case non=>subst h;rfl
 case tup=>obtain⟨a,xs,rfl,_⟩:=h;rfl
 case lst=>obtain⟨a,xs,rfl,_⟩:=h;rfl
 case dct=>obtain⟨a,xs,rfl,_⟩:=h;rfl
 case scr=>obtain⟨a,xs,rfl,_⟩:=h;rfl
 all_goals (subst h;rfl)
noncomputable def j7 (f:Bool->Bool):U->U->R U:=λu w=>match w with
 | .non=>.ok (.bl (f (xx u)))
 |_=>.stk
theorem p8:fo K (λx y H Q=>y=.non/\Q (.bl (decide (x=.non))) H) .S (j7 id):=λA H x y u w z Q hx hy mu e q=>by
 unfold j7 at e;split at e
 ·cases e;refine⟨by unfold Pk at hy;exact hy,q _ H (aT.refl _) ?_⟩;rw[xy hx];exact (show Rp K H A _ _ from qL)
 ·cases e
theorem xA:fo K (λx y H Q=>y=.non/\Q (.bl (!decide (x=.non))) H) .S (j7 not):=λA H x y u w z Q hx hy mu e q=>by
 unfold j7 at e;split at e
 ·cases e;refine⟨by unfold Pk at hy;exact hy,q _ H (aT.refl _) ?_⟩;rw[xy hx];exact (show Rp K H A _ _ from qL)
 ·cases e
noncomputable def QP (f:Bool->Bool):U->U->R U:=λu w=>match u,w with
 | .bl a,.bl b=>.ok (.bl (f (decide (a=b))))
 |_,_=>.stk
theorem zB {i:Int}{z:U}(r:aK K H A us xs)(e:nA us i=some z):∃v,nA xs i=some v/\Rp K H A z v:=by
 unfold nA at e ⊢;rw[←r.length];cases h:C_ us.length i with
 |none=>rw[h] at e;cases e
 |some j=>
  rw[h] at e;obtain⟨v,h1,h2⟩:=r.get (show us[j]? = some z from e);exact⟨v,h1,h2⟩
noncomputable def bS:U->U->R U:=λu w=>match u,w with
 | .lst us,.int i=>match nA us i with
  |some z=>.ok z
  |none=>.stk
 | .tup us,.int i=>match nA us i with
  |some z=>.ok z
  |none=>.stk
 | .scr us,.int i=>match nA us i with
  |some z=>.ok z
  |none=>.stk
 | .str x,.int i=>match nA x.cps.toList i with
  |some c=>if x.length<=Vf then .ok (.str ⟨#[c]⟩) else .stk
  |none=>.stk
 |_,_=>.stk
theorem aB:fo K (Se K) .S bS:=λA H x y u w z Q hx hy mu e q=>by
 unfold bS at e;split at e
 ·split at e
  ·rename_i z' hz;cases e;unfold Pk at hx;obtain⟨a,xs,rfl,h1,l1,r1⟩:=hx;obtain⟨v,h2,h3⟩:=zB r1 hz;exact .inl ⟨a,xs,_,v,rfl,hy.int,fH.of h1,h2,q _ H (aT.refl _) h3⟩
  ·cases e
 ·split at e
  ·rename_i z' hz;cases e;unfold Pk at hx;obtain⟨a,xs,rfl,h1,l1,r1⟩:=hx;obtain⟨v,h2,h3⟩:=zB r1 hz;exact .inr (.inl ⟨a,xs,_,v,rfl,hy.int,fK.of h1,h2,q _ H (aT.refl _) h3⟩)
  ·cases e
 ·split at e
  ·rename_i z' hz;cases e;unfold Pk at hx;obtain⟨a,xs,rfl,h1,l1,r1⟩:=hx;obtain⟨v,h2,h3⟩:=zB r1 hz;exact .inl ⟨a,xs,_,v,rfl,hy.int,h1.sq,h2,q _ H (aT.refl _) h3⟩
  ·cases e
 ·split at e
  ·rename_i z' hz;split at e
   ·rename_i hl;cases e;exact .inr (.inr ⟨_,_,z',hx.str,hy.int,hl,hz,q _ H (aT.refl _) (show Rp K H A _ _ from Lf)⟩)
   ·cases e
  ·cases e
 ·cases e
noncomputable def pK {α:Type}(xs:List α)(lo hi:Option Int):List α:=(xs.drop (HT.sIx xs.length 0 lo)).take (HT.sIx xs.length xs.length hi-HT.sIx xs.length 0 lo)
theorem j8 {α:Type}(xs:List α)(lo hi:Option Int):(pK xs lo hi).length<=xs.length:=by
 unfold pK;rw[V5,Wy];lia
theorem vB (r:aK K H A us xs)(lo hi:Option Int):aK K H A (pK us lo hi) (qv xs lo hi):=by
 unfold pK qv;rw[←r.length];exact (r.drop _).take _
theorem mG:DL X (λx lo hi H Q=>Ha X.K x lo hi H Q\/D9 X.K x lo hi H Q):=Hb.or Hj
noncomputable def Cm:U->Option Int->Option Int->R U:=λu lo hi=>match u with
 | .lst us=>.ok (.lst (pK us lo hi))
 | .scr us=>.ok (.lst (pK us lo hi))
 | .tup us=>.ok (.tup (pK us lo hi))
 |_=>.stk
noncomputable def NM:U->Option Int->Option Int->R U:=λu lo hi=>match u with
 | .lst us=>.ok (.lst (pK us lo hi))
 | .scr us=>.ok (.lst (pK us lo hi))
 |_=>.stk
theorem AR:El K (Ha K) .O NM:=λA H x u lo hi z Q hx mu e q=>by
 unfold NM at e;split at e
 ·cases e;unfold Pk at hx;obtain⟨a,xs,rfl,h1,l1,r1⟩:=hx;exact⟨a,xs,rfl,fH.of h1,λp hp=>q _ _ (cN hp _) ⟨p,rfl,hp,bC mu (vB r1 lo hi) hp (Wa (j8 _ _ _) l1)⟩⟩
 ·cases e;unfold Pk at hx;obtain⟨a,xs,rfl,h1,l1,r1⟩:=hx;exact⟨a,xs,rfl,h1.sq,λp hp=>q _ _ (cN hp _) ⟨p,rfl,hp,bC mu (vB r1 lo hi) hp (Wa (j8 _ _ _) l1)⟩⟩
 ·cases e
theorem I_ (mu:∀a,A a->Mu (H a))(vm:De K .O A H H' u v):Rp K H' A u v:=by
 obtain⟨a,rfl,na,t⟩:=vm;exact t.rp (λb h=>.inl h) λh=>by have:=mu a h;rw[na] at this;exact this
theorem vC:El K (λx lo hi H Q=>Ha K x lo hi H Q\/D9 K x lo hi H Q) .S Cm:=λA H x u lo hi z Q hx mu e q=>by
 unfold Cm at e;split at e
 ·cases e;exact .inl (AR A H x _ lo hi _ Q hx mu rfl λv H' sm vm=>q v H' sm (I_ mu vm))
 ·cases e;exact .inl (AR A H x _ lo hi _ Q hx mu rfl λv H' sm vm=>q v H' sm (I_ mu vm))
 ·cases e;unfold Pk at hx;obtain⟨a,xs,rfl,h1,l1,r1⟩:=hx;refine .inr ⟨a,xs,rfl,h1,λr H' sm hr=>q _ H' sm (show Rp K H' A _ _ from ?_)⟩;unfold Rp;exact⟨r,_,rfl,hr,Wa (j8 _ _ _) l1,(vB r1 lo hi).same sm⟩
 ·cases e
end L2
namespace L2
section
theorem zo.one (h:zo K H A [u] vs):∃v,vs=[v]/\Pk K H A u v:=by
 unfold zo at h;obtain⟨x,r,rfl,p,q⟩:=h;unfold zo at q;subst q;exact⟨x,rfl,p⟩
theorem zo.two {w:U}(h:zo K H A [u,w] vs):∃v v',vs=[v,v']/\Pk K H A u v/\Pk K H A w v':=by
 unfold zo at h;obtain⟨x,r,rfl,p,q⟩:=h;obtain⟨v,rfl,q'⟩:=zo.one q;exact⟨x,v,rfl,p,q'⟩
noncomputable def gK:List U->R U:=λus=>match us with
 | [.lst xs]=>.ok (.int xs.length)
 | [.tup xs]=>.ok (.int xs.length)
 | [.scr xs]=>.ok (.int xs.length)
 | [.str x]=>if x.length<=Vf then .ok (.int x.length) else .stk
 |_=>.stk
theorem cc:j3 K (λxs H Q=>∃x n,xs=[x]/\Ni K x H n/\Q (.int n) H) .S gK:=λA H vs us z Q h mu e q=>by
 unfold gK at e;split at e
 ·rename_i xs;cases e;obtain⟨v,rfl,p⟩:=h.one;unfold Pk at p;obtain⟨a,ys,rfl,h1,l1,r1⟩:=p;exact⟨_,xs.length,rfl,.inl ⟨ys,fH.of h1,r1.length⟩,q _ H (aT.refl _) (show Rp K H A _ _ from dN)⟩
 ·rename_i xs;cases e;obtain⟨v,rfl,p⟩:=h.one;unfold Pk at p;obtain⟨a,ys,rfl,h1,l1,r1⟩:=p;exact⟨_,xs.length,rfl,.inr ⟨ys,fK.of h1,r1.length⟩,q _ H (aT.refl _) (show Rp K H A _ _ from dN)⟩
 ·rename_i xs;cases e;obtain⟨v,rfl,p⟩:=h.one;unfold Pk at p;obtain⟨a,ys,rfl,h1,l1,r1⟩:=p;exact⟨_,xs.length,rfl,.inl ⟨ys,h1.sq,r1.length⟩,q _ H (aT.refl _) (show Rp K H A _ _ from dN)⟩
 ·rename_i x;split at e
  ·rename_i hl;cases e;obtain⟨v,rfl,p⟩:=h.one;have:=p.str;subst this;exact⟨_,x.length,rfl,⟨hl,rfl⟩,q _ H (aT.refl _) (show Rp K H A _ _ from dN)⟩
  ·cases e
 ·cases e
noncomputable def Ja:List U->R U:=λus=>match us with
 | [.lst xs]=>.ok (.lst xs)
 | [.tup xs]=>.ok (.lst xs)
 |_=>.stk
noncomputable def ij:List U->R U:=λus=>match us with
 | [.lst xs]=>.ok (.tup xs)
 | [.tup xs]=>.ok (.tup xs)
 |_=>.stk
theorem g6:j3 K (λxs H Q=>∃p ys,xs=[.ref p]/\((fH K H p ys/\∀l,H l=none->Q (.ref l) (cQ H l (.tup ys)))\/(fK K H p ys/\Q (.ref p) H))) .S ij:=λA H vs us z Q h mu e q=>by
 unfold ij at e;split at e
 ·rename_i xs;cases e;obtain⟨v,rfl,p⟩:=h.one;unfold Pk at p;obtain⟨a,ys,rfl,h1,l1,r1⟩:=p;exact⟨a,ys,rfl,.inl ⟨fH.of h1,λl hl=>q _ _ (cN hl _) (uw r1 hl l1)⟩⟩
 ·rename_i xs;cases e;obtain⟨v,rfl,p⟩:=h.one;have p':=p;unfold Pk at p;obtain⟨a,ys,rfl,h1,l1,r1⟩:=p;refine⟨a,ys,rfl,.inr ⟨fK.of h1,q _ H (aT.refl _) (show Rp K H A _ _ from ?_)⟩⟩;unfold Rp;unfold Pk at p';exact p'
 ·cases e
noncomputable def Hz:List U->R U:=λus=>match us with
 | [.int i]=>.ok (.int (if i<0 then -i else i))
 |_=>.stk
theorem AS:j3 K (λxs H Q=>∃i,xs=[.int i]/\Q (.int (if i<0 then -i else i)) H) .S Hz:=λA H vs us z Q h mu e q=>by
 unfold Hz at e;split at e
 ·cases e;obtain⟨v,rfl,p⟩:=h.one;exact⟨_,by rw[p.int],q _ H (aT.refl _) (show Rp K H A _ _ from dN)⟩
 ·cases e
noncomputable def AU:List U->R U:=λus=>match us with
 | [.int i,.int j]=>.ok (.int (if j>i then j else i))
 |_=>.stk
theorem Er:j3 K (λxs H Q=>∃i j,xs=[.int i,.int j]/\Q (.int (if j>i then j else i)) H) .S AU:=λA H vs us z Q h mu e q=>by
 unfold AU at e;split at e
 ·cases e;obtain⟨v,w,rfl,p,p'⟩:=h.two;exact⟨_,_,by rw[p.int,p'.int],q _ H (aT.refl _) (show Rp K H A _ _ from dN)⟩
 ·cases e
noncomputable def AV:List U->R U:=λus=>match us with
 | [.int i,.int j]=>.ok (.int (if j<i then j else i))
 |_=>.stk
theorem Es:j3 K (λxs H Q=>∃i j,xs=[.int i,.int j]/\Q (.int (if j<i then j else i)) H) .S AV:=λA H vs us z Q h mu e q=>by
 unfold AV at e;split at e
 ·cases e;obtain⟨v,w,rfl,p,p'⟩:=h.two;exact⟨_,_,by rw[p.int,p'.int],q _ H (aT.refl _) (show Rp K H A _ _ from dN)⟩
 ·cases e
noncomputable def ik:List U->Option (List Int)
 | []=>some []
 | .int i::us=>(ik us).map (i::·)
 |_::_=>none
noncomputable def Et:List U->Option (List Bool)
 | []=>some []
 | .bl i::us=>(Et us).map (i::·)
 |_::_=>none
theorem gL:∀{us:List U} {ns:List Int},ik us=some ns->us=ns.map .int
 | [],ns,h=>by unfold ik at h;cases h;rfl
 |u::us,ns,h=>by
  cases u<;>unfold ik at h<;>try cases h
  rename_i i;cases e:ik us with
  |none=>rw[e] at h;cases h
  |some ms=>rw[e] at h;cases h;rw[gL e];rfl
theorem Eu (ns:List Int):ik (ns.map .int)=some ns:=by
 induction ns with
 |nil=>rfl
 |cons n ns ih=>rw[Vp];unfold ik;rw[ih];rfl
theorem aK.toI {H:Hp}{A:Vr->Prop}:∀{ns:List Int} {vs:List V},aK K H A (ns.map .int) vs->vs=ns.map V.int
 | [],vs,h=>by rw[Xg] at h;unfold aK at h;exact h
 |n::ns,vs,h=>by
  rw[Vp] at h;unfold aK at h;obtain⟨x,r,rfl,p,q⟩:=h;unfold Rp at p;rw[p,aK.toI q];rfl
theorem mH {H:Hp}{A:Vr->Prop}:∀(ns:List Int),aK K H A (ns.map .int) (ns.map V.int)
 | []=>aK.nil
 |n::ns=>aK.cons dN (mH ns)
noncomputable def Tr:List U->R U:=λus=>match us with
 | [.lst xs]=>match Et xs with
  |some bs=>.ok (.bl (bs.all id))
  |none=>.stk
 |_=>.stk
noncomputable def Co (x:Int):List Int->List Int
 | []=>[x]
 |y::r=>if y<x then y::Co x r else x::y::r
noncomputable def uz (ns:List Int):List Int:=ns.foldr Co []
theorem nJ (x:Int):∀l,(Co x l).Perm (x::l)
 | []=>.refl _
 |y::r=>by
  unfold Co;split
  ·exact ((nJ x r).cons y).trans (.swap x y r)
  ·exact .refl _
theorem lP:∀ns:List Int,(uz ns).Perm ns
 | []=>.refl _
 |x::l=>(nJ x _).trans ((lP l).cons x)
theorem AW (x:Int):∀{l:List Int},l.Pairwise (·<=·)->(Co x l).Pairwise (·<=·)
 | [],_=>Wb _ _
 |y::r,h=>by
  obtain⟨h1,h2⟩:=V6.mp h;unfold Co;split
  ·refine V6.mpr ⟨λz hz=>?_,AW x h2⟩;rcases Vk.mp ((nJ x r).mem_iff.mp hz) with rfl|hz
   ·lia
   ·exact h1 z hz
  ·refine V6.mpr ⟨λz hz=>?_,h⟩;rcases Vk.mp hz with rfl|hz
   ·lia
   ·have:=h1 z hz;lia
theorem xB:∀ns:List Int,(uz ns).Pairwise (·<=·)
 | []=>List.Pairwise.nil
 |x::l=>AW x (xB l)
noncomputable def zC:List U->R U:=λus=>match us with
 | [.lst xs]=>match ik xs with
  |some ns=>if ns.length<64 then .ok (.lst ((uz ns).map .int)) else .stk
  |none=>.stk
 | [.tup xs]=>match ik xs with
  |some ns=>if ns.length<64 then .ok (.lst ((uz ns).map .int)) else .stk
  |none=>.stk
 |_=>.stk
theorem Cp:j3 K (λxs H Q=>∃(p:Vr) (ns:List Int),xs=[.ref p]/\(fH K H p (ns.map V.int)\/fK K H p (ns.map V.int))/\ns.length<64/\
  ∀(l:Vr) (ox:List Int),H l=none->ox.Perm ns->ox.Pairwise (·<=·)->Q (.ref l) (cQ H l (.lst (ox.map V.int)))) .O zC:=λA H vs us z Q h mu e q=>by
 have fin:∀(ns:List Int),ns.length<64->z=.lst ((uz ns).map .int)->∀(l:Vr) (ox:List Int),H l=none->ox.Perm ns->ox.Pairwise (·<=·)->Q (.ref l) (cQ H l (.lst (ox.map V.int))):=λns hl hz l ox hn hp hw=>by
  have e:ox=uz ns:=PySem.W.ksm_same (hp.trans (lP ns).symm) hw (xB ns);subst e hz;refine q _ _ (cN hn _) ⟨l,rfl,hn,bC mu (mH _) hn ?_⟩;have:Vf=16777216:=rfl;rw[Vd,(lP ns).length_eq];lia
 unfold zC at e;split at e
 ·rename_i xs;split at e
  ·rename_i ns hb;split at e
   ·rename_i hl;cases e;obtain⟨v,rfl,p⟩:=h.one;unfold Pk at p;obtain⟨a,ys,rfl,h1,l1,r1⟩:=p;rw[gL hb] at r1;rw[r1.toI] at h1;exact⟨a,ns,rfl,.inl (fH.of h1),hl,fin ns hl rfl⟩
   ·cases e
  ·cases e
 ·rename_i xs;split at e
  ·rename_i ns hb;split at e
   ·rename_i hl;cases e;obtain⟨v,rfl,p⟩:=h.one;unfold Pk at p;obtain⟨a,ys,rfl,h1,l1,r1⟩:=p;rw[gL hb] at r1;rw[r1.toI] at h1;exact⟨a,ns,rfl,.inr (fK.of h1),hl,fin ns hl rfl⟩
   ·cases e
  ·cases e
 ·cases e
noncomputable def Tt (ks:List U):String:=match ks with
 | .tup _::_=>"script"
 |_=>"dict"
noncomputable def PD:U->String
 | .non=>"NoneType"
 | .bl _=>"bool"
 | .int _=>"int"
 | .str _=>"str"
 | .tup _=>"tuple"
 | .lst _=>"list"
 | .dct ks _=>Tt ks
 | .scr _=>"script"
variable {e:W5}{p1 p2:Pos}{b1:Bool}{m1:Md}{g1:Ev->R (U×Ev)}
noncomputable def NN (T:String)(g:Ev->R (U×Ev)):Ev->R (U×Ev):=λρ=>(g ρ).bind λx=>if PD x.1="script" then .stk else .ok (.bl (iU (PD x.1) T),x.2)
noncomputable def zD (i j:Int):Bool:=decide (-1000000<=i)&&decide (i<=1000000)&&decide (-1000000<=j)&&decide (j<=1000000)
noncomputable def qW (g:Ev->R (List U×Ev)):Ev->R (U×Ev):=λρ=>(g ρ).bind λx=>match x.1 with
 | [.int j]=>if zD 0 j=true then .ok (.lst (b_ 0 (j-0).toNat),x.2) else .stk
 |_=>.stk
noncomputable def NO (g:Ev->R (List U×Ev)):Ev->R (U×Ev):=λρ=>(g ρ).bind λx=>match x.1 with
 | [.int j]=>if zD 0 j=true then .ok (.tup (b_ 0 (j-0).toNat),x.2) else .stk
 |_=>.stk
theorem Cq (lo:Int)(n:Nat):aK K H A (b_ lo n) ((VN n).map λi=>V.int (lo+(i:Nat))):=by
 unfold b_;have e1:(VN n).map (λi=>U.int (lo+(i:Nat)))=((VN n).map λi=>lo+(i:Nat)).map U.int:=by rw[W0];rfl
 have e2:(VN n).map (λi=>V.int (lo+(i:Nat)))=((VN n).map λi=>lo+(i:Nat)).map V.int:=by rw[W0];rfl
 rw[e1,e2];exact mH _
theorem fP (lo:Int)(n:Nat):(b_ lo n).length=n:=by unfold b_;rw[Vd,WC]
variable {ga:Ev->R (List U×Ev)}{a:W5}{p3 p4:Pos}
theorem mI (hc:X.calm=true)(ha:DA X G [a] b1 false ga)(zl:X.mg "list"=none)(zr:X.mg "range"=none)(hg:Gl X "list":=by rfl)(Pd:Gl X "range":=by rfl)
  (hs:Vx [.Call (.Name "range" p3) [a] [] p4] X.env=(false,YD (.Call (.Name "range" p3) [a] [] p4) X.env)::Vx [] X.env:=by rfl) (cK:Vx [a] X.env=(false,YD a X.env)::Vx [] X.env:=by rfl)
  (tE:(XR pos (Vx [] X.env)).any (·.1)=false:=by rfl) (Gx:(XR p4 (Vx [] X.env)).any (·.1)=false:=by rfl):DE X G (.Call (.Name "list" p1) [.Call (.Name "range" p3) [a] [] p4] [] pos) b1 .O (qW ga):=⟨(je (tL hc) hg zl Hi (ma (je xk Pd zr D5 ha.un (by decide) (by decide) cK Gx) qo hs) (by decide) (by decide) hs tE).to λσ H Q h=>by
 obtain⟨Z,A,ρ,q,f⟩:=h;obtain⟨⟨us,ρ1⟩,e1,f⟩:=f.bind;refine⟨Z,A,ρ,q,?_⟩;rw[e1];intro vs H1 q1 x1 s1 vm;dsimp only at f;split at f
 ·rename_i j;split at f
  ·rename_i hj;have r:=vm.rps;unfold aK at r;obtain⟨v,vr,rfl,r1,r2⟩:=r;unfold aK at r2;subst r2;unfold Rp at r1;subst r1;unfold zD at hj;simp only[Vw,decide_eq_true_eq] at hj;refine⟨j,rfl,λp hp=>⟨p,0,j,rfl,bI,by lia,by lia,λl hl=>?_⟩⟩;have sp:=cN hp (.rng 0 j);have sl:=cN hl (.lst ((VN (j-0).toNat).map λi=>V.int (0+(i:Nat))));exact f _ _ ((q1.same sp).same sl) (x1.trans (eT.same (sp.trans sl))) (pG s1 (sp.trans sl)) (De.e (q1.same sp) sl ⟨l,rfl,hl,bC (q1.same sp).mu (Cq 0 _) hl (by rw[fP];have:Vf=16777216:=rfl;lia)⟩)
  ·exact f.elim
 ·exact f.elim⟩
noncomputable def iW:U->List U->R (U×U):=λu us=>match u,us with
 | .lst xs,[y]=>if xs.length<Vf then .ok (.non,.lst (xs++[y])) else .stk
 |_,_=>.stk
theorem nK {a:Vr}(o:HO):∀b u,b≠a->H b=some u->cQ H a o b=some u:=λb u nb z=>by rw[bg nb];exact z
theorem p9 {a:Vr}(mu:∀a,A a->Mu (H a))(ha:A a)(r:aK K H A us xs)(l:us.length<=Vf):j2 K (cQ H a (.lst xs)) A (.lst us) a:=
 ⟨xs,bI,l,r.re mu (λb o nb z=>nK _ b o (λy=>nb (y▸ha)) z) λb z=>.inl z⟩
theorem qX:Ej K "list" AG iW:=λA H a u vs us z w Q t ha r mu e q=>by
 unfold iW at e;split at e
 ·rename_i xs y;split at e
  ·rename_i hl;cases e;obtain⟨ys,h1,l1,r1⟩:=t;unfold aK at r;obtain⟨v,vr,rfl,p,r2⟩:=r;unfold aK at r2;subst r2;exact⟨a,ys,v,rfl,rfl,h1,by rw[←r1.length];exact hl,q _ _ (nK _) (p9 mu ha (r1.append (aK.cons p aK.nil)) (by rw[Ve];exact hl)) qM⟩
  ·cases e
 ·cases e
def xC:V->List V->Hp->VK->Prop:=λx vs H Q=>∃l b xs zs,x=.ref l/\vs=[.ref b]/\H l=some (.lst xs)/\H b=some (.lst zs)/\xs.length+zs.length<=Vf/\Q .non (cQ H l (.lst (xs++zs)))
theorem zE:IU X "list.extend" xC:=by
 intro pins s σ H x vs v us Q I rx rv h;obtain⟨l,b,xs,zs,rfl,rfl,hH,hB,hz,q⟩:=h;cases rx;obtain⟨u,rfl,ru⟩:=rv.one;cases ru;obtain⟨z,its,n,r,hl,e⟩:=I.lstM hH;obtain⟨z2,its2,n2,r2,Mx,e2⟩:=I.lstM hB;have hsz:its.toArray.size+its2.toArray.size<=Vf:=by rw[U_,U_];lia
 have Gw:¬(!its.toArray.isEmpty&&X0 (its.toArray.size+its2.toArray.size))=true:=by
  rw[qw hsz,Zu];exact Vb
 refine aau F.slot_list_extend ⟨_,e,rfl⟩ F.entry_list_extend (F.args_list_extend_2 _ _)
  (PySem.AutoSeq1.list_extend_list_list_0 l its.toArray n b its2.toArray n2 Gw (by rw[U_];lia) (by lia)) ⟨e,e2,?_⟩
 refine⟨.non,_,I.lset (its':=its++its2) hH e (by simp) (r.append r2) ?_,rfl,q⟩;rw[Ve];lia
def Jb:V->List V->Hp->VK->Prop:=λx vs H Q=>xC x vs H Q\/xl x vs H Q
theorem p_:IU X "list.extend" Jb:=zE.or zg
noncomputable def kO:U->List U->R (U×U):=λu us=>match u,us with
 | .lst xs,[.lst ys]=>if xs.length+ys.length<=Vf then .ok (.non,.lst (xs++ys)) else .stk
 | .lst xs,[.tup ys]=>if xs.length+ys.length<=Vf then .ok (.non,.lst (xs++ys)) else .stk
 |_,_=>.stk
theorem jB:Ej K "list" Jb kO:=λA H a u vs us z w Q t ha r mu e q=>by
 unfold kO at e;split at e
 ·rename_i xs ys;split at e
  ·rename_i hl;cases e;obtain⟨zs,h1,l1,r1⟩:=t;unfold aK at r;obtain⟨v,vr,rfl,p,r2⟩:=r;unfold aK at r2;subst r2;unfold Rp at p;obtain⟨b,ws,rfl,nb,h2,l2,r3⟩:=p;exact .inl ⟨a,b,zs,ws,rfl,rfl,h1,h2,by rw[←r1.length,←r3.length];exact hl,q _ _ (nK _) (p9 mu ha (r1.append r3) (by rw[Ve];exact hl)) qM⟩
  ·cases e
 ·rename_i xs ys;split at e
  ·rename_i hl;cases e;obtain⟨zs,h1,l1,r1⟩:=t;unfold aK at r;obtain⟨v,vr,rfl,p,r2⟩:=r;unfold aK at r2;subst r2;unfold Rp at p;obtain⟨b,ws,rfl,h2,l2,r3⟩:=p;exact .inr ⟨a,b,zs,ws,rfl,rfl,h1,h2,by rw[←r1.length,←r3.length];exact hl,q _ _ (nK _) (p9 mu ha (r1.append r3) (by rw[Ve];exact hl)) qM⟩
  ·cases e
 ·cases e
noncomputable def nN:U->List U->R (U×U):=λu us=>match u,us with
 | .lst xs,[.int i]=>if -9223372036854775808<=i/\i<9223372036854775808 then (match aat i xs.length with
  |some k=>match xs[k]? with
   |some y=>.ok (y,.lst (xs.eraseIdx k))
   |none=>.stk
  |none=>.stk) else .stk
 |_,_=>.stk
theorem aK.erase {H:Hp}{A:Vr->Prop}:∀{us:List U} {vs:List V} (n:Nat),aK K H A us vs->aK K H A (us.eraseIdx n) (vs.eraseIdx n)
 | [],vs,n,h=>by unfold aK at h;subst h;exact aK.nil
 |u::us,vs,0,h=>by
  unfold aK at h;obtain⟨x,r,rfl,p,q⟩:=h;exact q
 |u::us,vs,n+1,h=>by
  unfold aK at h;obtain⟨x,r,rfl,p,q⟩:=h;exact aK.cons p (aK.erase n q)
theorem Cr:Ej K "list" DQ nN:=λA H a u vs us z w Q t ha r mu e q=>by
 unfold nN at e;split at e
 ·rename_i xs i;split at e
  ·rename_i hi;split at e
   ·rename_i k hk;split at e
    ·rename_i y hy;cases e;obtain⟨zs,h1,l1,r1⟩:=t;unfold aK at r;obtain⟨v,vr,rfl,p,r2⟩:=r;unfold aK at r2;subst r2;unfold Rp at p;subst p;obtain⟨v,h2,h3⟩:=r1.get hy;exact⟨a,zs,i,k,v,rfl,rfl,h1,by have:=hi.1;lia,by have:=hi.2;lia,by rw[←r1.length];exact hk,h2,q _ _ (nK _) (p9 mu ha (r1.erase k) (Wa (List.length_eraseIdx_le _ _) l1)) (h3.re mu (λb o nb z=>nK _ b o (λy=>nb (y▸ha)) z) λb z=>.inl z)⟩
    ·cases e
   ·cases e
  ·cases e
 ·cases e
end
end L2
namespace L2
section
variable {m:Md}
theorem zF:fo K (yX λi j=>.bl (decide (i<j))) .S NK:=AQ
theorem zG:fo K (yX λi j=>.bl (decide (i<=j))) .S NL:=AQ
theorem qY:fo K (yX λi j=>.bl (decide (j<i))) .S Hy:=AQ
theorem Ls:fo K (yX λi j=>.bl (decide (j<=i))) .S QO:=AQ
theorem vD {Pe:List Zf}:zv X G m Pe (λ_=>.stk):=⟨λpins s σ H D I h=>by
 obtain⟨Z,A,ρ,q,f⟩:=h;exact f.elim⟩
noncomputable def PF:Ev->R (U×Ev):=λρ=>.ok (.dct [] [],ρ)
theorem Ew:DE X G (.Dict [] [] pos) false .O PF:=⟨xg.to λσ H Q h=>by
 obtain⟨Z,A,ρ,q,f⟩:=h;intro a na;have sn:=cN na (.dK []);exact f _ _ (q.same sn) (eT.same sn) (λ_=>⟨rfl,sn⟩) (De.e q sn ⟨a,rfl,na,[],.inl ⟨[],bI,rfl,rfl⟩,Wt _,aK.nil⟩)⟩
end
end L2
namespace L2
def NP (H:Hp)(a:Vr)(y:V)(o:Option V):Prop:=K6 H a y o\/∃es k b,fj H a es/\y=.ref b/\zj H k b/\o=gy es k
def NQ (H:Hp)(a:Vr):Prop:=Sg H a\/∃es,fj H a es
section
variable {d:V}{u r:Va}{o:Option V}{A:VR}
theorem Ex (I:aI X pins σ H s)(g:NP H a y o):s.TypeIs (.ref a) "dict":=by
 rcases g with g|⟨es,k,b,g,_⟩
 ·exact xf I g
 ·exact g.typeIs I
theorem NR (I:aI X pins σ H s)(d:NQ H a):s.TypeIs (.ref a) "dict"/\(∀b,Value.ref a=.ref b->∃ob,s.heap.get? b=some ob/\ob.dict=none):=by
 rcases d with d|⟨es,d⟩
 ·obtain⟨x,y,_⟩:=K9 I d;exact⟨x,y⟩
 ·exact⟨d.typeIs I,d.noDict I⟩
theorem Cs (hu:A.units+64<W9)(I:aI X pins σ H s)(g:NP H a y (some v))(ry:bq y u)(h:∀w' s',aI X pins σ H s'->bq v w'->Q w' s') :
  Vs (VE X.prog X.w) A (ZQ (.ref a) u) Q E s:=by
 rcases g with g|⟨es,k,b,g,rfl,kb,e⟩
 ·exact Cc (by lia) I g ry h
 ·cases ry;exact Ce hu I g kb e.symm h
end
def NT (td ty:TE):TE:=λσ H Q=>td σ H λx H1=>ty σ H1 λy H2=>∃a v,x=.ref a/\NP H2 a y (some v)/\Q v H2
section
variable {o i e f value:W5}{k_ gj cpos:Pos}{td ty tv tx:TE}
theorem HA (hu:X.A.units+64<W9)(ho:PE X o td)(hi:PE X i ty)(hs:K7 i):PE X (.Subscript o i pos) (NT td ty):=by
 intro pins s σ H Q I h;refine Hg PySem.F.slot_dict_getitem.lookup hs (ez (ho pins s σ H _ I h) λu s1 ⟨x,H1,I1,rx,q1⟩=>ez (hi pins s1 σ H1 _ I1 q1) λiv s2 ⟨y,H2,I2,ry,a,v,ex,g,q2⟩=>?_);subst ex;obtain rfl:u=Value.ref a:=rx;exact⟨Ex I2 g,Cs hu I2 g ry λw' s3 I3 Ar=>⟨v,H2,I3,Ar,q2⟩⟩
end
noncomputable def Ey:U->Bool
 | .int _=>true
 | .str _=>true
 |_=>false
mutual
noncomputable def tN:U->Bool
 | .int _=>true
 | .tup us=>vE us
 |_=>false
noncomputable def vE:List U->Bool
 | []=>true
 |u::us=>tN u&&vE us
end
noncomputable def Ct:U->Bool
 | .tup us=>vE us&&decide (qG us<=6)
 |_=>false
noncomputable def Ez:U->Bool
 | .tup _=>true
 |_=>false
noncomputable def zH (ks:List U)(k:U):Bool:=(Ey k&&ks.all Ey)||(Ct k&&ks.all Ez)
noncomputable def e_:List U->List U->U->Option U
 |k'::ks,u::us,k=>if k'=k then some u else e_ ks us k
 |_,_,_=>none
noncomputable def jM (ks us:List U)(k v:U):List U:=if k∈ks then YX (λk' u=>if k'=k then v else u) ks us else us++[v]
noncomputable def j9 (ks:List U)(k:U):List U:=if k∈ks then ks else ks++[k]
mutual
theorem NU:∀{u:U} {v:V},tN u=true->Rp K H A u v->KH H u v
 | .int i,v,_,h=>by unfold Rp at h;unfold KH;exact h
 | .tup us,v,k,h=>by
  unfold tN at k;unfold Rp at h;unfold KH;obtain⟨a,xs,r,q,l,z⟩:=h;exact⟨a,xs,r,q,l,zI k z⟩
 | .non,v,k,h=>by unfold tN at k;cases k
 | .bl _,v,k,h=>by unfold tN at k;cases k
 | .str _,v,k,h=>by unfold tN at k;cases k
 | .lst _,v,k,h=>by unfold tN at k;cases k
 | .dct _ _,v,k,h=>by unfold tN at k;cases k
 | .scr _,v,k,h=>by unfold tN at k;cases k
theorem zI:∀{us:List U} {vs:List V},vE us=true->aK K H A us vs->qI H us vs
 | [],vs,_,h=>by unfold aK at h;unfold qI;exact h
 |u::us,vs,k,h=>by
  unfold vE at k;rw[Vw] at k;unfold aK at h;unfold qI;obtain⟨x,r,q,p,z⟩:=h;exact⟨x,r,q,NU k.1 p,zI k.2 z⟩
end
theorem EA (k:Ct (.tup us)=true)(h:Rp K H A (.tup us) v):∃b,v=.ref b/\zj H us b:=by
 unfold Ct at k;rw[Vw] at k;unfold Rp at h;obtain⟨a,xs,r,q,l,z⟩:=h;exact⟨a,r,of_decide_eq_true k.2,xs,q,l,zI k.1 z⟩
theorem NV (k:Ey u=true)(h:Rp K H A u v):∃q:jI,u=kU q/\v=kV q:=by
 cases u<;>first|(cases k;done)|skip
 ·unfold Rp at h;exact⟨.inl _,rfl,h⟩
 ·unfold Rp at h;exact⟨.inr _,rfl,h⟩
theorem Lu {a b:jI}(h:kU a=kU b):a=b:=by
 cases a<;>cases b<;>unfold kU at h<;>first|(cases h;rfl)|cases h
theorem zJ {k:jI}:∀{cn:List (jI×V)} {us:List U},aK K H A us (cn.map (·.2))->(∀u,e_ (cn.map λp=>kU p.1) us (kU k)=some u->∃v,qx cn k=some v/\Rp K H A u v)/\(e_ (cn.map λp=>kU p.1) us (kU k)=none->qx cn k=none)
 | [],us,r=>⟨(λu h=>by unfold e_ at h;cases h),λ_=>rfl⟩
 |p::cn,us,r=>by
  cases us with
  |nil=>unfold aK at r;cases r
  |cons u us=>
   unfold aK at r;obtain⟨x,rr,e,h1,h2⟩:=r;cases e;rw[Vp];unfold e_;by_cases c:p.1=k
   ·rw[hV (by rw[c]),qy c];exact⟨λw h=>by cases h;exact⟨_,rfl,h1⟩,λh=>by cases h⟩
   ·rw[hU (λz=>c (Lu z)),qz c];exact zJ h2
theorem zK {k:List U}:∀{es:List (List U×Vr×V)} {us:List U},aK K H A us (es.map (·.2.2))->(∀u,e_ (es.map λp=>.tup p.1) us (.tup k)=some u->∃v,gy es k=some v/\Rp K H A u v)/\(e_ (es.map λp=>.tup p.1) us (.tup k)=none->gy es k=none)
 | [],us,r=>⟨(λu h=>by unfold e_ at h;cases h),λ_=>rfl⟩
 |p::es,us,r=>by
  cases us with
  |nil=>unfold aK at r;cases r
  |cons u us=>
   unfold aK at r;obtain⟨x,rr,e,h1,h2⟩:=r;cases e;rw[Vp];unfold e_ gy;rw[WE];by_cases c:p.1=k
   ·rw[hV (by rw[c]),hG c];exact⟨λw h=>by cases h;exact⟨_,rfl,h1⟩,λh=>by cases h⟩
   ·rw[hU (λz=>c (mm.mp z)),hJ c];exact zK h2
theorem Lv {k:U}(d:Cf H a ks xs)(r:aK K H A us xs)(f:zH ks k=true)(hk:Rp K H A k y) :
  ∃o,NP H a y o/\(∀u,e_ ks us k=some u->∃v,o=some v/\Rp K H A u v)/\(e_ ks us k=none->o=none):=by
 unfold zH at f;rw[Y_,Vw,Vw] at f;rcases d with⟨cn,h,e1,e2⟩|⟨es,n,h,e1,e2⟩
 ·rcases f with⟨f1,f2⟩|⟨f1,f2⟩
  ·obtain⟨q,rfl,rfl⟩:=NV f1 hk;subst e1 e2;exact⟨_,.inl (.inl ⟨cn,q,.inl h,rfl,rfl⟩),(zJ r).1,(zJ r).2⟩
  ·cases cn with
   |nil=>
    subst e1 e2;cases k<;>first|(cases f1;done)|skip
    rename_i kk;obtain⟨b,rfl,kt⟩:=EA f1 hk;exact⟨none,.inr ⟨[],kk,b,⟨.inr ⟨rfl,h⟩,Zv,(λe he=>by cases he)⟩,rfl,kt,rfl⟩,(λu z=>by unfold e_ at z;cases z),λ_=>rfl⟩
   |cons p cn=>
    exfalso;subst e1;rw[Vp,Y8,Vw] at f2;obtain⟨p1,p2⟩:=p;cases p1<;>cases f2.1
 ·rcases f with⟨f1,f2⟩|⟨f1,f2⟩
  ·exfalso;subst e1;cases es with
   |nil=>exact n rfl
   |cons p es=>rw[Vp,Y8,Vw] at f2;cases f2.1
  ·subst e1 e2;cases k<;>first|(cases f1;done)|skip
   rename_i kk;obtain⟨b,rfl,kt⟩:=EA f1 hk;exact⟨_,.inr ⟨es,kk,b,h,rfl,kt,rfl⟩,(zK r).1,(zK r).2⟩
end L2
namespace L2
theorem aK.snoc (h:aK K H A us vs)(p:Rp K H A u v):aK K H A (us++[u]) (vs++[v]):=h.append (aK.cons p aK.nil)
section
variable {o i e f value:W5}{k_ gj cpos p1 p2:Pos}{b1 b2 b3:Bool}{m m1 m2 m3:Md}{g1 g2 g3:Ev->R (U×Ev)}{y:Str}
noncomputable def jU:U->U->R U:=λu w=>match u with
 | .dct ks us=>if zH ks w=true then (match e_ ks us w with
  |some z=>.ok z
  |none=>.stk) else .stk
 |_=>.stk
theorem NW (h:Pk K H A u v)(c:Ey u=true\/Ez u=true):Rp K H A u v:=by
 cases u<;>first|(exfalso;rcases c with c|c<;>cases c;done)|(unfold Pk at h;unfold Rp;exact h)
theorem HB {k:U}(f:zH ks k=true):Ey k=true\/Ez k=true:=by
 unfold zH at f;rw[Y_,Vw,Vw] at f;rcases f with⟨f,_⟩|⟨f,_⟩
 ·exact .inl f
 ·cases k<;>first|(cases f;done)|exact .inr rfl
theorem zL (hu:X.A.units+64<W9)(ha:DE X G o b1 m1 g1)(hb:DE X G i b2 m2 g2)(hs:K7 i:=by intro _ _;rfl)(hm:m1=.P->b2=false:=by first|exact λ_=>rfl|exact λh=>nomatch h):DE X G (.Subscript o i pos) (b1||b2) .S (aG jU g1 g2):=⟨(HA hu ha.un hb.un hs).to λσ H Q h=>by
 have hp:fo X.K (λx y H Q=>∃a v,x=.ref a/\NP H a y (some v)/\Q v H) .S jU:=λA H x y u w z Q hx hy mu e q=>by
  unfold jU at e;split at e;rotate_left
  ·cases e
  split at e
  ·rename_i fk;split at e
   ·rename_i z' hz;cases e;unfold Pk at hx;obtain⟨a,xs,rfl,d,l,r⟩:=hx;obtain⟨ov,g,q1,_⟩:=Lv d r fk (NW hy (HB fk));obtain⟨v,rfl,rp⟩:=q1 _ hz;exact⟨a,v,rfl,g,q v H (aT.refl _) rp⟩
   ·cases e
  ·cases e
 exact mn hp hm h⟩
end
end L2
namespace Hc.Sx
open PySem.SetTable
noncomputable def gI:Nat->Nat
 |0=>0
 |n+1=>5*gI n+1
theorem AX (n:Nat):5 ^ n=4*gI n+1:=by
 induction n with
 |zero=>rfl
 |succ n ih=>rw[XC,ih];show _=4*(5*gI n+1)+1;lia
theorem HC (m n:Nat):gI (m+n)=5 ^ n*gI m+gI n:=by
 induction n with
 |zero=>simp[gI]
 |succ n ih=>
  show 5*gI (m+n)+1=5 ^ (n+1)*gI m+(5*gI n+1);rw[ih,XC,Xo (5 ^ n) 5,Nat.mul_add,WT];lia
theorem HD (n:Nat):gI n % 2=n % 2:=by
 induction n with
 |zero=>rfl
 |succ n ih=>unfold gI;lia
theorem HF (d:Nat):gI (d+d)=gI d*(2*(2*gI d+1)):=by
 rw[HC,AX];have:gI d*(2*(2*gI d+1))=4*(gI d*gI d)+2*gI d:=by
  rw[←WT,Nat.mul_add,Xo (gI d) 2,Nat.mul_one];have:2*gI d*(2*gI d)=4*(gI d*gI d):=by
   rw[WT,Zk (gI d) 2,←WT]
  rw[this]
 rw[this,Nat.add_mul,WT];lia
theorem cop (k q:Nat):Nat.Coprime (2 ^ k) (2*q+1):=by
 refine Nat.Coprime.pow_left k ?_;unfold Nat.Coprime;rw[Nat.gcd_rec,show (2*q+1) % 2=1 by lia];rfl
theorem AY:∀(k d:Nat),2 ^ k ∣ gI d->2 ^ k ∣ d
 |0,d,_=>⟨d,by simp⟩
 |k+1,d,h=>by
  have e:d % 2=0:=by
   rw[←HD];obtain⟨c,hc⟩:=h;rw[hc,XC,WT,Zk];lia
  obtain⟨d',rfl⟩:∃d',d=d'+d':=⟨d / 2,by lia⟩;rw[HF,XC,Xo (2 ^ k) 2,Zk (gI d') 2] at h;have h1:2 ^ k ∣ gI d'*(2*gI d'+1):=Nat.dvd_of_mul_dvd_mul_left (by decide) h;have h2:2 ^ k ∣ gI d':=Ze (cop k _) h1;obtain⟨c,hc⟩:=AY k d' h2;exact⟨c,by rw[XC,WT,Zk,←hc];lia⟩
noncomputable def tO (M x:Nat):Nat->Nat
 |0=>x
 |n+1=>(tO M x n*5+1) % M
theorem AZ (M x:Nat):∀n,tO M x n % M=(5 ^ n*x+gI n) % M
 |0=>by simp[tO,gI]
 |n+1=>by
  unfold tO gI;rw[Nat.mod_mod,XC,Xo (5 ^ n) 5,WT];have:=AZ M x n;rw[Nat.add_mod,Nat.mul_mod,this,←Nat.mul_mod,←Nat.add_mod];congr 1;rw[Xo _ 5,Nat.mul_add];lia
theorem vF (M x m:Nat):∀n,tO M x (m+n)=tO M (tO M x m) n
 |0=>rfl
 |n+1=>by
  show (tO M x (m+n)*5+1) % M=_;rw[vF M x m n];rfl
theorem EB {M x:Nat}(h:x<M):∀n,tO M x n<M
 |0=>h
 |n+1=>Yz _ (by lia)
theorem EC {x d:Nat}(hx:x<2 ^ k)(h:tO (2 ^ k) x d=x):2 ^ k ∣ d:=by
 have e:=AZ (2 ^ k) x d;rw[h,AX,Nat.add_mul,Nat.one_mul] at e;have h2:2 ^ k ∣ gI d*(2*(2*x)+1):=by
  have:gI d*(2*(2*x)+1)=4*gI d*x+gI d:=by
   rw[Nat.mul_add,Nat.mul_one,←WT,←WT,WT (gI d) 2 2,Xo (gI d)]
  rw[this];have e2:(x+(4*gI d*x+gI d)) % 2 ^ k=x % 2 ^ k:=by rw[e];congr 1;lia
  have e3:((4*gI d*x+gI d)) % 2 ^ k=0:=by
   have:=(Nat.mod_eq_mod_iff (x:=x+(4*gI d*x+gI d)) (y:=x) (z:=2 ^ k)).mp e2;obtain⟨a,b,vg⟩:=this;have:4*gI d*x+gI d+2 ^ k*a=2 ^ k*b:=by rw[Xo _ a,Xo _ b];lia
   have h3:2 ^ k ∣ 4*gI d*x+gI d:=(Nat.dvd_add_right (Nat.dvd_mul_right (2 ^ k) a)).mp (by rw[Nat.add_comm,this];exact Nat.dvd_mul_right _ _);exact Nat.mod_eq_zero_of_dvd h3
  exact Nat.dvd_of_mod_eq_zero e3
 exact AY k d (Ze (cop k _) h2)
theorem HG {x a b:Nat}(hx:x<2 ^ k)(ha:a<2 ^ k)(hb:b<2 ^ k)(h:tO (2 ^ k) x a=tO (2 ^ k) x b):a=b:=by
 have key:∀a b,a<=b->b<2 ^ k->tO (2 ^ k) x a=tO (2 ^ k) x b->a=b:=λa b vg hb h=>by
  obtain⟨d,rfl⟩:∃d,b=a+d:=⟨b-a,by lia⟩;rw[vF] at h;have:=EC (EB hx a) h.symm;have:d=0:=Nat.eq_zero_of_dvd_of_lt this (by lia);lia
 rcases Nat.le_total a b with z|z
 ·exact key a b z hb h
 ·exact (key b a z ha h.symm).symm
theorem HH {x y:Nat}(hx:x<2 ^ k)(hy:y<2 ^ k):∃n,n<2 ^ k/\tO (2 ^ k) x n=y:=by
 refine XN λhn=>?_;have nd:((VN (2 ^ k)).map (tO (2 ^ k) x)).Nodup:=by
  unfold List.Nodup;rw[Xb];refine X3 (λ{a b} ha hb vg e=>?_) YN;exact vg (HG hx (VJ.mp ha) (VJ.mp hb) e)
 have:=X7 (l₁:=y::(VN (2 ^ k)).map (tO (2 ^ k) x)) (l₂:=VN (2 ^ k))
  (Wj.mpr ⟨λh=>by
   obtain⟨n,h1,h2⟩:=V3.mp h;exact hn ⟨n,VJ.mp h1,h2⟩,nd⟩)
  (λz hz=>by
   rcases Vk.mp hz with e|hz
   ·rw[e];exact VJ.mpr hy
   ·obtain⟨n,_,rfl⟩:=V3.mp hz;exact VJ.mpr (EB hx n))
 rw[Vi,Vd,WC] at this;lia
noncomputable def fw (mask:Nat):Nat->Nat×Nat->Nat×Nat
 |0,p=>p
 |n+1,p=>fw mask n (leap mask p.1 p.2)
theorem uA (mask m n:Nat)(p:Nat×Nat):fw mask (m+n) p=fw mask n (fw mask m p):=by
 induction m generalizing p with
 |zero=>rw[XB];rfl
 |succ m ih=>rw[Nat.succ_add];exact ih _
theorem uB (mask:Nat):∀(n i q:Nat),(fw mask n (i,q)).2=q / 32 ^ n
 |0,i,q=>by simp[fw]
 |n+1,i,q=>by
  show (fw mask n (leap mask i q)).2=_;unfold leap;rw[uB,Nat.div_div_eq_div_mul,XC,Xo 32]
theorem xD (mask:Nat):∀(n i q:Nat),i<=mask->(fw mask n (i,q)).1<=mask
 |0,i,q,h=>h
 |n+1,i,q,h=>xD mask n _ _ (Xr (Yz _ (Yk _)))
theorem qZ (mask:Nat):∀(n i:Nat),fw mask n (i,0)=(tO (mask+1) i n,0)
 |0,i=>rfl
 |n+1,i=>by
  rw[Nat.add_comm n 1,uA];show fw mask n (leap mask i 0)=_;rw[show leap mask i 0=(tO (mask+1) i 1,0) by unfold leap tO tO;simp,qZ,vF]
theorem uC (hm:mask+1=2 ^ k){q y:Nat}(hi:i<=mask)(hq:q<2 ^ 64)(hy:y<=mask):∃n,n<mask+14/\(fw mask n (i,q)).1=y:=by
 have z:(fw mask 13 (i,q)).2=0:=by
  rw[uB];exact Nat.div_eq_of_lt (Nat.lt_trans hq (by decide))
 have e:fw mask 13 (i,q)=((fw mask 13 (i,q)).1,0):=by rw[←z]
 obtain⟨n,h1,h2⟩:=HH (k:=k) (x:=(fw mask 13 (i,q)).1) (y:=y) (by rw[←hm];exact Nat.lt_succ_of_le (xD mask 13 i q hi)) (by lia);refine⟨13+n,by lia,?_⟩;rw[uA,e,qZ,hm];exact h2
end Hc.Sx
namespace Hc.Sx
open PySem.SetTable
def NY (xs:Array Nat):Prop:=∀i j (hi:i<xs.size) (hj:j<xs.size),i<j->xs[i]<xs[j]
theorem q_ {xs:Array Nat}{j:Nat}(hr:NY xs):∀(fuel lo hi:Nat),lo<=hi->hi<=xs.size->hi-lo<=fuel->(∀i (h:i<xs.size),i<lo->xs[i]<j)->(∀i (h:i<xs.size),hi<=i->j<=xs[i])->
  (∀i (h:i<xs.size),i<below.go xs j fuel lo hi->xs[i]<j)/\(∀i (h:i<xs.size),below.go xs j fuel lo hi<=i->j<=xs[i])/\below.go xs j fuel lo hi<=xs.size
 |0,lo,hi,h1,h2,h3,a,b=>by
  have:lo=hi:=by lia
  subst this;exact⟨a,b,h2⟩
 |fuel+1,lo,hi,h1,h2,h3,a,b=>by
  unfold below.go;by_cases c:lo<hi
  ·rw[hV c];dsimp only;have hm:(lo+hi) / 2<xs.size:=by lia
   have hd:xs.getD ((lo+hi) / 2) j=xs[(lo+hi) / 2]:=by simp[Zl,hm]
   rw[hd];by_cases c2:xs[(lo+hi) / 2]<j
   ·rw[hV c2];refine q_ hr fuel _ hi (by lia) h2 (by lia) (λi h wO=>?_) b;rcases Yl i ((lo+hi) / 2) with z|z
    ·exact Nat.lt_trans (hr _ _ h hm z) c2
    ·have:i=(lo+hi) / 2:=by lia
     subst this;exact c2
   ·rw[hU c2];refine q_ hr fuel lo _ (by lia) (by lia) (by lia) a (λi h wO=>?_);rcases Yl ((lo+hi) / 2) i with z|z
    ·have:=hr _ _ hm h z;lia
    ·have:i=(lo+hi) / 2:=by lia
     subst this;lia
  ·rw[hU c];have:lo=hi:=by lia
   subst this;exact⟨a,b,h2⟩
theorem mJ {xs:Array Nat}(hr:NY xs):(∀i (h:i<xs.size),i<below xs j->xs[i]<j)/\(∀i (h:i<xs.size),below xs j<=i->j<=xs[i])/\below xs j<=xs.size:=
 q_ hr _ _ _ (Wt _) (Vh _) (by lia) (λi _ h=>by lia) (λi h h'=>by lia)
theorem ED {xs:Array Nat}(hr:NY xs)(h:xs[i]? = some j):below xs j=i:=by
 obtain⟨hi,e⟩:=V_.mp h;obtain⟨a,b,c⟩:=mJ (j:=j) hr;rcases Zm (below xs j) i with z|z|z
 ·have h1:=b (below xs j) (by lia) (Vh _);have h2:=hr _ _ (by lia) hi z;lia
 ·exact z
 ·have:=a i hi z;lia
variable {V:Type}
structure uD (t:YI)(es:Array (Int×V))(C:Nat->Option (Int×V)):Prop where
 ris:NY t.place
 sz:t.place.size=es.size
 dum:t.dummies=#[]
 pow:∃k,t.mask+1=2 ^ k
 room:es.size<=t.mask
 top:∀(i j:Nat),t.place[i]? = some j->j<=t.mask
 con:∀(j:Nat) (e:Int×V),C j=some e↔∃i:Nat,t.place[i]? = some j/\es[i]? = some e
section
variable {es:Array (Int×V)}{C:Nat->Option (Int×V)}
theorem xE {xs:Array Nat}(h:xs=#[])(j:Nat):has xs j=false:=by subst h;rfl
theorem uD.live (T:uD t es C){e:Int×V}(h:C j=some e):∃i,t.slot j=.live i/\es[i]? = some e/\t.place[i]? = some j:=by
 obtain⟨i,h1,h2⟩:=(T.con j e).mp h;refine⟨i,?_,h2,h1⟩;unfold SetTable.slot;dsimp only;rw[ED T.ris h1,h1];simp
theorem uD.empty (T:uD t es C)(h:C j=none):t.slot j=.empty:=by
 unfold SetTable.slot;dsimp only;have n:(t.place[below t.place j]? == some j)=false:=by
  rw[Yw];intro c;have c:t.place[below t.place j]? = some j:=by simpa using c
  have hi:=(V_.mp c).1;have Kq:below t.place j<es.size:=by rw[←T.sz];exact hi
  have:es[below t.place j]? = some es[below t.place j]:=VD Kq;rw[(T.con j _).mpr ⟨_,c,this⟩] at h;cases h
 rw[n,xE T.dum];rfl
theorem uD.free (T:uD t es C):∃y,y<=t.mask/\C y=none:=by
 refine XN λhn=>?_;have hs:=T.sz;have hr:=T.room;have:=X7 (l₁:=VN (t.mask+1)) (l₂:=t.place.toList) YN (λy hy=>by
  have hy:=VJ.mp hy;cases e:C y with
  |none=>exact absurd ⟨y,by lia,e⟩ hn
  |some v=>
   obtain⟨i,h1,_⟩:=(T.con y v).mp e;have:=Array.mem_of_getElem? h1;simpa using this)
 rw[WC,U9] at this;lia
end
noncomputable def adv (mask:Nat)(p:Probe):Probe:=
 if p.more>0 then {p with j:=p.j+1,more:=p.more-1} else
 {p with j:=(leap mask p.i p.perturb).1,more:=runEnd mask (leap mask p.i p.perturb).1-(leap mask p.i p.perturb).1,i:=(leap mask p.i p.perturb).1,perturb:=(leap mask p.i p.perturb).2}
theorem EE (t:YI)(p:Probe):t.advance p=adv t.mask p:=by unfold SetTable.advance adv;rfl
noncomputable def advs (mask:Nat):Nat->Probe->Probe
 |0,p=>p
 |n+1,p=>advs mask n (adv mask p)
theorem iq (mask m n:Nat)(p:Probe):advs mask (m+n) p=advs mask n (advs mask m p):=by
 induction m generalizing p with
 |zero=>rw[XB];rfl
 |succ m ih=>rw[Nat.succ_add];exact ih _
theorem uE (mask n:Nat)(p:Probe):advs mask (n+1) p=adv mask (advs mask n p):=by rw[iq];rfl
structure j_ (mask:Nat)(p:Probe):Prop where
 i:p.i<=mask
 q:p.perturb<2 ^ 64
 m:p.more<=9
 d:p.dummy=none
theorem nO (mask i:Nat):runEnd mask i-i<=9:=by unfold runEnd;split<;>lia
theorem j_.adv {p:Probe}(h:j_ mask p):j_ mask (adv mask p):=by
 unfold Hc.Sx.adv;split
 ·exact⟨h.i,h.q,by have:=h.m;dsimp only;lia,h.d⟩
 ·refine⟨Xr (Yz _ (Yk _)),?_,nO _ _,h.d⟩;exact Y6 (Nat.div_le_self _ _) h.q
theorem j_.advs {mask:Nat}:∀(n:Nat) {p:Probe},j_ mask p->j_ mask (advs mask n p)
 |0,_,h=>h
 |n+1,_,h=>j_.advs n h.adv
theorem A4 (h:Int):bits h<2 ^ 64:=by
 unfold bits;have:h % (2 ^ 64:Int)<2 ^ 64:=XD _ (by decide);have h0:0<=h % (2 ^ 64:Int):=Ym _ (by decide);lia
theorem j_.start (t:YI)(h:Int):j_ t.mask (t.probeStart h):=
 ⟨Xr (Yz _ (Yk _)),A4 h,nO _ _,rfl⟩
theorem rf {mask:Nat}:∀(n:Nat) {p:Probe},p.more=n->(advs mask (n+1) p).j=(leap mask p.i p.perturb).1/\(advs mask (n+1) p).i=(leap mask p.i p.perturb).1/\(advs mask (n+1) p).perturb=(leap mask p.i p.perturb).2/\(advs mask (n+1) p).more<=9
 |0,p,e=>by
  show (adv mask p).j=_/\(adv mask p).i=_/\(adv mask p).perturb=_/\(adv mask p).more<=9;unfold adv;rw[hU (by lia)];exact⟨rfl,rfl,rfl,nO _ _⟩
 |n+1,p,e=>by
  have:=rf (mask:=mask) n (p:=adv mask p) (by unfold adv;rw[hV (by lia)];show p.more-1=n;lia);have e1:(adv mask p).i=p.i/\(adv mask p).perturb=p.perturb:=by unfold adv;rw[hV (by lia)];exact⟨rfl,rfl⟩
  rw[e1.1,e1.2] at this;exact this
theorem oF {mask:Nat}:∀(n:Nat) {p:Probe},j_ mask p->∃m,m<=10*(n+1)/\(advs mask m p).j=(fw mask (n+1) (p.i,p.perturb)).1
 |0,p,h=>by
  obtain⟨a,_⟩:=rf (mask:=mask) p.more (p:=p) rfl;exact⟨p.more+1,by have:=h.m;lia,a⟩
 |n+1,p,h=>by
  obtain⟨a,b,c,d⟩:=rf (mask:=mask) p.more (p:=p) rfl;obtain⟨m,h1,h2⟩:=oF n (j_.advs (p.more+1) h);refine⟨p.more+1+m,by have:=h.m;lia,?_⟩;rw[iq,h2,b,c];rfl
theorem uF (hm:mask+1=2 ^ k){p:Probe}(h:j_ mask p){y:Nat}(hy:y<=mask):∃m,m<10*turns mask/\(advs mask m p).j=y:=by
 obtain⟨n,h1,h2⟩:=uC hm (i:=(leap mask p.i p.perturb).1) (q:=(leap mask p.i p.perturb).2) (y:=y) (Xr (Yz _ (Yk _))) (Y6 (Nat.div_le_self _ _) h.q) hy;obtain⟨m,h3,h4⟩:=oF n h;refine⟨m,by unfold turns;lia,?_⟩;rw[h4];exact h2
section
variable {es:Array (Int×V)}{C:Nat->Option (Int×V)}{hashAt:Nat->Int}
theorem A5 (T:uD t es C)(hh:∀i e,es[i]? = some e->hashAt i=e.1)(h:Int):∀(m fuel:Nat) (p:Probe),j_ t.mask p->m<fuel->C (advs t.mask m p).j=none->
    ∃m',m'<=m/\(∀a,a<m'->∃e,C (advs t.mask a p).j=some e/\e.1≠h)/\
      ((C (advs t.mask m' p).j=none/\probe.go t hashAt h fuel p=some (.empty (advs t.mask m' p).j none)) \/
       ∃e i,C (advs t.mask m' p).j=some e/\e.1=h/\es[i]? = some e/\t.place[i]? = some (advs t.mask m' p).j/\probe.go t hashAt h fuel p=some (.candidate (advs t.mask m' p).j i (advs t.mask (m'+1) p)))
  |m,0,p,_,hf,_=>by lia
  |m,fuel+1,p,hp,hf,he=>by
    unfold probe.go;cases c:C p.j with
    |none=>
      refine⟨0,Wt _,λa ha=>by lia,.inl ⟨c,?_⟩⟩;rw[T.empty c];dsimp only;rw[hp.d];rfl
    |some e=>
      obtain⟨i,h1,h2,h3⟩:=T.live c;rw[h1];dsimp only;rw[hh i e h2];by_cases q:e.1=h
      · refine⟨0,Wt _,λa ha=>by lia,.inr ⟨e,i,c,q,h2,h3,?_⟩⟩;rw[hV (by rw[q];simp),EE];rfl
      · rw[hU (by simpa using q),EE];cases m with
        |zero=>rw[show advs t.mask 0 p=p from rfl,c] at he;cases he
        |succ m=>
          obtain⟨m',g1,g2,g3⟩:=A5 T hh h m fuel (adv t.mask p) hp.adv (by lia) he;refine⟨m'+1,by lia,λa ha=>?_,g3⟩;cases a with
          |zero=>exact⟨e,c,q⟩
          |succ a=>exact g2 a (by lia)
theorem zM (T:uD t es C)(hh:∀i e,es[i]? = some e->hashAt i=e.1)(h:Int){p:Probe}(hp:j_ t.mask p) :
    ∃m',(∀a,a<m'->∃e,C (advs t.mask a p).j=some e/\e.1≠h)/\
      ((C (advs t.mask m' p).j=none/\t.probe hashAt h p=some (.empty (advs t.mask m' p).j none)) \/
       ∃e i,C (advs t.mask m' p).j=some e/\e.1=h/\es[i]? = some e/\t.place[i]? = some (advs t.mask m' p).j/\t.probe hashAt h p=some (.candidate (advs t.mask m' p).j i (advs t.mask (m'+1) p))):=by
  obtain⟨y,hy,hc⟩:=T.free;obtain⟨k,hk⟩:=T.pow;obtain⟨m,h1,h2⟩:=uF hk hp hy;obtain⟨m',_,g2,g3⟩:=A5 T hh h m _ p hp h1 (by rw[h2];exact hc);exact⟨m',g2,g3⟩
end
end Hc.Sx
namespace Hc.Sx
open PySem.SetTable
theorem i6 {α:Type}(xs:Array α)(p:Nat)(x:α):(insertAt xs p x).toList=xs.toList.take p++x::xs.toList.drop p:=by
 unfold insertAt;simp[XS,List.extract_eq_drop_take];exact Xx (by simp)
theorem bE {α:Type}{xs:Array α}{p:Nat}{x:α}(h:p<=xs.size)(i:Nat):(insertAt xs p x)[i]? = if i<p then xs[i]? else if i=p then some x else xs[i-1]? := by
 rw[←Vq,i6];have lt:(xs.toList.take p).length=p:=by rw[V5,U9];lia
 by_cases c:i<p
 ·rw[hV c,Wn (by lia),aas c,Vq]
 ·rw[hU c,V9 (by lia),lt];by_cases c2:i=p
  ·rw[hV c2,c2,aaf];rfl
  ·rw[hU c2,show i-p=(i-p-1)+1 by lia,Wg,Za,Vq];congr 1;lia
theorem fZ {α:Type}{xs:Array α}{p:Nat}{x:α}(h:p<=xs.size):(insertAt xs p x).size=xs.size+1:=by
 rw[←U9,i6,Ve,Vi,V5,Wy,U9];lia
variable {V:Type}
noncomputable def Lw (C:Nat->Option (Int×V))(j:Nat)(e:Int×V):Nat->Option (Int×V):=λy=>if y=j then some e else C y
def Jc (mask:Nat)(st:Int->Probe)(C:Nat->Option (Int×V)):Prop:=∀(j:Nat) (e:Int×V),C j=some e->∃n,(advs mask n (st e.1)).j=j/\∀m,m<n->∃e',C (advs mask m (st e.1)).j=some e'
section
variable {es:Array (Int×V)}{C:Nat->Option (Int×V)}
theorem uD.put (T:uD t es C){e:Int×V}(hj:j<=t.mask)(hc:C j=none)(hr:es.size+1<=t.mask) :
  uD (t.put j).1 (insertAt es (t.put j).2 e) (Lw C j e)/\(t.put j).1.mask=t.mask/\(t.put j).1.plain=t.plain/\(t.put j).1.led=t.led/\(t.put j).1.moves=t.moves/\(t.put j).1.finger=t.finger:=by
 obtain⟨a,b,c⟩:=mJ (j:=j) T.ris;have nz:∀i,t.place[i]? ≠ some j:=λi h=>by
  have hi:=(V_.mp h).1;have Kq:i<es.size:=by rw[←T.sz];exact hi
  rw[(T.con j es[i]).mpr ⟨i,h,VD Kq⟩] at hc;cases hc
 have ep:(t.put j).1={t with place:=insertAt t.place (below t.place j) j}:=by
  unfold SetTable.put;dsimp only;rw[xE T.dum];rfl
 have e2:(t.put j).2=below t.place j:=rfl;have c2:below t.place j<=es.size:=by rw[←T.sz];exact c
 rw[ep,e2];refine⟨⟨?_,?_,T.dum,T.pow,?_,?_,?_⟩,rfl,rfl,rfl,rfl,rfl⟩
 ·intro i i' hi wO lt;have g:=λx=>bE (x:=j) c x;dsimp only at hi wO ⊢;have e1:=g i;have yM:=g i';rw[VD hi] at e1;rw[VD wO] at yM;rw[fZ c] at hi wO;have at_:∀x (hx:x<t.place.size),t.place[x]? = some t.place[x]:=λx hx=>VD hx;have T4:∀x (hx:x<t.place.size),t.place[x]≠j:=λx hx z=>nz x (by rw[at_ x hx,z]);by_cases q:i<below t.place j
  ·rw[hV q,at_ i (by lia)] at e1;have e1:=Vy e1;rw[e1];by_cases q':i'<below t.place j
   ·rw[hV q',at_ i' (by lia)] at yM;rw[Vy yM];exact T.ris _ _ _ _ lt
   ·rw[hU q'] at yM;by_cases r':i'=below t.place j
    ·rw[hV r'] at yM;rw[Vy yM];exact a i (by lia) q
    ·rw[hU r',at_ (i' - 1) (by lia)] at yM;rw[Vy yM];have h1:=a i (by lia) q;have h2:=b (i' - 1) (by lia) (by lia);lia
  ·rw[hU q] at e1;rw[hU (by lia),hU (by lia),at_ (i' - 1) (by lia)] at yM;rw[Vy yM];by_cases r:i=below t.place j
   ·rw[hV r] at e1;rw[Vy e1];have h2:=b (i' - 1) (by lia) (by lia);have h3:=T4 (i' - 1) (by lia);lia
   ·rw[hU r,at_ (i-1) (by lia)] at e1;rw[Vy e1];exact T.ris _ _ _ _ (by lia)
 ·show (insertAt t.place _ j).size=_;rw[fZ c,fZ c2,T.sz]
 ·rw[fZ c2];exact hr
 ·intro i y h;have h:(insertAt t.place (below t.place j) j)[i]? = some y:=h;rw[bE c] at h;split at h
  ·exact T.top i y h
  ·split at h
   ·cases h;exact hj
   ·exact T.top _ y h
 ·intro y v;show Lw C j e y=some v↔∃i,(insertAt t.place (below t.place j) j)[i]? = some y/\(insertAt es (below t.place j) e)[i]? = some v;unfold Lw;constructor
  ·intro h;split at h
   ·rename_i q;cases h;subst q;refine⟨below t.place y,?_,?_⟩
    ·rw[bE c,hU (Xd _),hV rfl]
    ·rw[bE c2,hU (Xd _),hV rfl]
   ·obtain⟨i,h1,h2⟩:=(T.con y v).mp h;by_cases q:i<below t.place j
    ·exact⟨i,by rw[bE c,hV q];exact h1,by rw[bE c2,hV q];exact h2⟩
    ·exact⟨i+1,by rw[bE c,hU (by lia),hU (by lia)];exact h1,by rw[bE c2,hU (by lia),hU (by lia)];exact h2⟩
  ·rintro⟨i,h1,h2⟩;rw[bE c] at h1;rw[bE c2] at h2;by_cases q:i<below t.place j
   ·rw[hV q] at h1 h2;rw[hU (λz=>nz i (by rw[h1,z]))];exact (T.con y v).mpr ⟨i,h1,h2⟩
   ·rw[hU q] at h1 h2;by_cases r:i=below t.place j
    ·rw[hV r] at h1 h2;rw[hV (Vy h1).symm];exact h2
    ·rw[hU r] at h1 h2;rw[hU (λz=>nz (i-1) (by rw[h1,z]))];exact (T.con y v).mpr ⟨_,h1,h2⟩
theorem Jc.up {st:Int->Probe}(P:Jc mask st C){e:Int×V}(hb:∀m,m<n->∃e',C (advs mask m (st e.1)).j=some e')(hc:C (advs mask n (st e.1)).j=none):Jc mask st (Lw C (advs mask n (st e.1)).j e):=by
 have Gy:∀y,(∃e',C y=some e')->∃e',Lw C (advs mask n (st e.1)).j e y=some e':=λy h00=>by
  obtain⟨e',h⟩:=h00;unfold Lw;split
  ·exact⟨_,rfl⟩
  ·exact⟨e',h⟩
 intro j v h;unfold Lw at h;split at h
 ·rename_i q;cases h;exact⟨n,q.symm,λm hm=>Gy _ (hb m hm)⟩
 ·obtain⟨n',h1,h2⟩:=P j v h;exact⟨n',h1,λm hm=>Gy _ (h2 m hm)⟩
theorem Jc.met {st:Int->Probe}(P:Jc mask st C){h:Int}(hc:C (advs mask n (st h)).j=none){e:Int×V}(he:C j=some e)(hh:e.1=h):∃m,m<n/\(advs mask m (st h)).j=j:=by
 obtain⟨m,h1,h2⟩:=P j e he;rw[hh] at h1 h2;rcases Zm m n with z|z|z
 ·exact⟨m,z,h1⟩
 ·subst z;rw[h1,he] at hc;cases hc
 ·obtain⟨e',q⟩:=h2 n z;rw[q] at hc;cases hc
end
noncomputable def Y1 (mask:Nat)(h:Int):Probe:={j:=bits h % (mask+1),more:=runEnd mask (bits h % (mask+1))-bits h % (mask+1),i:=bits h % (mask+1),perturb:=bits h,dummy:=none}
theorem nP {mask:Nat}:∀(k:Nat) {p:Probe},k<=p.more->(advs mask k p).j=p.j+k/\(advs mask k p).more=p.more-k/\(advs mask k p).i=p.i/\(advs mask k p).perturb=p.perturb/\(advs mask k p).dummy=p.dummy
 |0,p,_=>⟨rfl,rfl,rfl,rfl,rfl⟩
 |k+1,p,h=>by
  obtain⟨a,b,c,d,e⟩:=nP (mask:=mask) k (p:=adv mask p) (by unfold adv;rw[hV (by lia)];dsimp only;lia);have e1:(adv mask p).j=p.j+1/\(adv mask p).more=p.more-1/\(adv mask p).i=p.i/\(adv mask p).perturb=p.perturb/\(adv mask p).dummy=p.dummy:=by unfold adv;rw[hV (by lia)];exact⟨rfl,rfl,rfl,rfl,rfl⟩
  refine⟨?_,?_,c.trans e1.2.2.1,d.trans e1.2.2.2.1,e.trans e1.2.2.2.2⟩
  ·show (advs mask k (adv mask p)).j=_;rw[a,e1.1];lia
  ·show (advs mask k (adv mask p)).more=_;rw[b,e1.2.1];lia
theorem uG {mask:Nat}{owner:Array (Option Nat)}(hs:owner.size=mask+1):∀(n fuel:Nat) (p:Probe),p.j=p.i->p.more=runEnd mask p.i-p.i->p.i<=mask->n<fuel->owner[(fw mask n (p.i,p.perturb)).1]? = some none->
  ∃m,layClean.free mask owner fuel p.i p.perturb=some (advs mask m p).j/\owner[(advs mask m p).j]? = some none/\∀a,a<m->∃i,owner[(advs mask a p).j]? = some (some i)
 |n,0,p,_,_,_,hf,_=>by lia
 |n,fuel+1,p,hj,hm,hi,hf,hn=>by
  have re:runEnd mask p.i<=mask/\p.i<=runEnd mask p.i:=by unfold runEnd;split<;>lia
  have at_:∀a,a<=p.more->∃o,owner[p.i+a]? = some o:=λa ha=>⟨owner[p.i+a]'(by lia),VD (by lia)⟩;have gd:∀a o,owner[p.i+a]? = some o->owner.getD (p.i+a) (some 0)=o:=λa o h=>by
   obtain⟨h1,h2⟩:=V_.mp h;simp[Zl,h1,h2]
  unfold layClean.free;cases hq:(VN (runEnd mask p.i+1-p.i)).find? (λk=>(owner.getD (p.i+k) (some 0)).isNone) with
  |some k=>
   obtain⟨h1,as,bs,h2,h3⟩:=List.find?_eq_some_iff_append.mp hq;have hk:k<runEnd mask p.i+1-p.i:=VJ.mp (by rw[h2];simp);have Kr:k<=p.more:=by lia
   obtain⟨o,ho⟩:=at_ k Kr;rw[gd k o ho] at h1;have on:o=none:=by cases o with
    |none=>rfl
    |some x=>cases h1
   subst on;refine⟨k,?_,?_,λa ha=>?_⟩
   ·dsimp only;rw[(nP k Kr).1,hj]
   ·rw[(nP k Kr).1,hj];exact ho
   ·rw[(nP a (by lia)).1,hj];obtain⟨o,ho⟩:=at_ a (by lia);have am:a∈as:=by
     have la:as.length=k:=by
      have e:(VN (runEnd mask p.i+1-p.i))[as.length]? = some k:=by rw[h2,V9 (Vh _),aaf];rfl
      have lt:as.length<runEnd mask p.i+1-p.i:=by
       have:=(Vg.mp e).1;simpa using this
      rw[YT lt] at e;exact Vy e
     have e:(VN (runEnd mask p.i+1-p.i))[a]? = some a:=YT (by lia);rw[h2,Wn (by lia)] at e;exact Wc e
    have:=h3 a am;rw[gd a o ho] at this;cases o with
    |none=>simp at this
    |some x=>exact⟨x,ho⟩
  |none=>
   have all:=Zb.mp hq;have SY:∀a,a<=p.more->∃i,owner[p.i+a]? = some (some i):=λa ha=>by
    obtain⟨o,ho⟩:=at_ a ha;have:=all a (VJ.mpr (by lia));rw[gd a o ho] at this;cases o with
    |none=>simp at this
    |some x=>exact⟨x,ho⟩
   cases n with
   |zero=>
    obtain⟨i,h⟩:=SY 0 (Wt _);rw[show fw mask 0 (p.i,p.perturb)=(p.i,p.perturb) from rfl,←aag p.i,h] at hn;cases hn
   |succ n=>
    obtain⟨a1,a2,a3,a4,a5⟩:=nP (mask:=mask) p.more (p:=p) (Vh _);have e1:advs mask (p.more+1) p={advs mask p.more p with j:=(leap mask p.i p.perturb).1,more:=runEnd mask (leap mask p.i p.perturb).1-(leap mask p.i p.perturb).1,i:=(leap mask p.i p.perturb).1,perturb:=(leap mask p.i p.perturb).2}:=by
     rw[uE];unfold adv;rw[hU (by lia),a3,a4]
    obtain⟨m,g1,g2,g3⟩:=uG hs n fuel (advs mask (p.more+1) p) (by rw[e1]) (by rw[e1]) (by rw[e1];exact Xr (Yz _ (Yk _))) (by lia) (by rw[e1];exact hn);refine⟨p.more+1+m,?_,by rw[iq];exact g2,λa ha=>?_⟩
    ·rw[iq];rw[e1] at g1 ⊢;exact g1
    ·rcases Yl a (p.more+1) with z|z
     ·rw[(nP a (by lia)).1,hj];exact SY a (by lia)
     ·have:=g3 (a-(p.more+1)) (by lia);rw[←iq,show p.more+1+(a-(p.more+1))=a by lia] at this;exact this
end Hc.Sx
namespace Hc.Sx
open PySem.SetTable
structure Jd (mask:Nat)(owner:Array (Option Nat))(k:Nat)(Hf:Nat->Int):Prop where
 sz:owner.size=mask+1
 ix:∀(j i:Nat),owner[j]? = some (some i)->i<k
 ex:∀i:Nat,i<k->∃j:Nat,owner[j]? = some (some i)
 un:∀(j j' i:Nat),owner[j]? = some (some i)->owner[j']? = some (some i)->j=j'
 pt:∀(j i:Nat),owner[j]? = some (some i)->∃n,(advs mask n (Y1 mask (Hf i))).j=j/\∀m,m<n->∃i':Nat,owner[(advs mask m (Y1 mask (Hf i))).j]? = some (some i')
section
variable {owner:Array (Option Nat)}{Hf:Nat->Int}
theorem Jd.free (O:Jd mask owner k Hf)(hk:k<=mask):∃y,y<=mask/\owner[y]? = some none:=by
 refine XN λhn=>?_;have full:∀y,y<mask+1->∃i,owner[y]? = some (some i):=λy hy=>by
  have h1:y<owner.size:=by rw[O.sz];exact hy
  cases e:owner[y] with
  |none=>exact absurd ⟨y,by lia,by rw[VD h1,e]⟩ hn
  |some i=>exact⟨i,by rw[VD h1,e]⟩
 have g:∀y,∃i,y<mask+1->owner[y]? = some (some i):=λy=>by
  by_cases h:y<mask+1
  ·obtain⟨i,e⟩:=full y h;exact⟨i,λ_=>e⟩
  ·exact⟨0,λz=>absurd z h⟩
 let f:=λy=>Classical.choose (g y)
 have hf:∀y,y<mask+1->owner[y]? = some (some (f y)):=λy=>Classical.choose_spec (g y);have:=X7 (l₁:=(VN (mask+1)).map f) (l₂:=VN k) (by
  unfold List.Nodup;rw[Xb];refine X3 (λ{a b} ha hb vg e=>?_) YN;have h1:=hf a (VJ.mp ha);have h2:=hf b (VJ.mp hb);rw[e] at h1;exact vg (O.un _ _ _ h1 h2)) (λx hx=>by
  obtain⟨y,hy,rfl⟩:=V3.mp hx;exact VJ.mpr (O.ix y _ (hf y (VJ.mp hy))))
 rw[Vd,WC,WC] at this;lia
theorem Jd.step (O:Jd mask owner k Hf)(hp:∃p,mask+1=2 ^ p)(hk:k<=mask):∃j,layClean.free mask owner (turns mask) (bits (Hf k) % (mask+1)) (bits (Hf k))=some j/\Jd mask (owner.setIfInBounds j (some k)) (k+1) Hf:=by
 obtain⟨y,hy,ho⟩:=O.free hk;obtain⟨p,hp⟩:=hp;have hi:bits (Hf k) % (mask+1)<=mask:=Xr (Yz _ (Yk _));obtain⟨n,h1,h2⟩:=uC hp (i:=bits (Hf k) % (mask+1)) (q:=bits (Hf k)) hi (A4 _) hy;obtain⟨m,g1,g2,g3⟩:=uG O.sz n (turns mask) (Y1 mask (Hf k)) rfl rfl hi (by unfold turns;lia) (by
  show owner[(fw mask n (bits (Hf k) % (mask+1),bits (Hf k))).1]? = _;rw[h2];exact ho)
 refine⟨_,g1,?_⟩;have hj:(advs mask m (Y1 mask (Hf k))).j<owner.size:=(V_.mp g2).1;generalize ej:(advs mask m (Y1 mask (Hf k))).j=j at *;have gt:∀x,(owner.setIfInBounds j (some k))[x]? = if x=j then some (some k) else owner[x]? := λx=>by
  rw[Array.getElem?_setIfInBounds];by_cases c:j=x
  ·rw[hV c,hV c.symm,hV hj]
  ·rw[hU c,hU (λz=>c z.symm)]
 have Gy:∀x:Nat,(∃i':Nat,owner[x]? = some (some i'))->∃i':Nat,(owner.setIfInBounds j (some k))[x]? = some (some i'):=λx h00=>by
  obtain⟨i',h⟩:=h00;rw[gt];split
  ·exact⟨k,rfl⟩
  ·exact⟨i',h⟩
 refine⟨by rw[Array.size_setIfInBounds];exact O.sz,λx i h=>?_,λi hi=>?_,λx x' i h h'=>?_,λx i h=>?_⟩
 ·rw[gt] at h;split at h
  ·cases h;lia
  ·have:=O.ix x i h;lia
 ·by_cases c:i=k
  ·exact⟨j,by rw[gt,hV rfl,c]⟩
  ·obtain⟨x,h⟩:=O.ex i (by lia);refine⟨x,?_⟩;rw[gt,hU (λz=>by rw[z,g2] at h;cases h)];exact h
 ·rw[gt] at h h';by_cases c:x=j
  ·by_cases c':x'=j
   ·rw[c,c']
   ·rw[hV c] at h;rw[hU c'] at h';cases h;have:=O.ix _ _ h';lia
  ·by_cases c':x'=j
   ·rw[hU c] at h;rw[hV c'] at h';cases h';have:=O.ix _ _ h;lia
   ·rw[hU c] at h;rw[hU c'] at h';exact O.un _ _ _ h h'
 ·rw[gt] at h;split at h
  ·rename_i c;cases h;exact⟨m,by rw[ej,c],λa ha=>Gy _ (g3 a ha)⟩
  ·obtain⟨n,h1,h2⟩:=O.pt x i h;exact⟨n,h1,λa ha=>Gy _ (h2 a ha)⟩
end
noncomputable def HJ (mask:Nat)(cv:Option (Array (Option Nat)×Nat))(h:Int):Option (Array (Option Nat)×Nat):=do
  let (owner,k) ←cv
  let j ←layClean.free mask owner (turns mask) (bits h % (mask+1)) (bits h)
  pure (owner.setIfInBounds j (some k),k+1)
theorem A6 {mask:Nat}{Hf:Nat->Int}(hp:∃p,mask+1=2 ^ p):∀(hs:List Int) (k:Nat) (owner:Array (Option Nat)),Jd mask owner k Hf->(∀i,i<hs.length->hs[i]? = some (Hf (k+i)))->k+hs.length<=mask->
  ∃owner',hs.foldl (HJ mask) (some (owner,k))=some (owner',k+hs.length)/\Jd mask owner' (k+hs.length) Hf
 | [],k,owner,O,_,_=>⟨owner,rfl,O⟩
 |h::hs,k,owner,O,he,hl=>by
  have e0:h=Hf k:=by have:=he 0 (by simp);simpa using this
  rw[Vi] at hl;obtain⟨j,g1,g2⟩:=O.step hp (by lia);obtain⟨owner',f1,f2⟩:=A6 hp hs (k+1) _ g2 (λi hi=>by
   have:=he (i+1) (by rw[Vi];lia);rw[Wg] at this;rw[this];congr 2;lia) (by lia)
  refine⟨owner',?_,?_⟩
  ·rw[List.foldl_cons,show HJ mask (some (owner,k)) h=some (owner.setIfInBounds j (some k),k+1) by unfold HJ;rw[e0];simp[g1],f1,Vi];congr 2;lia
  ·rw[Vi,show k+(hs.length+1)=k+1+hs.length by lia];exact f2
theorem HK (mask:Nat)(Hf:Nat->Int):Jd mask (Array.replicate (mask+1) none) 0 Hf:=by
 have no:∀(j i:Nat),(Array.replicate (mask+1) (none:Option Nat))[j]? ≠ some (some i):=λj i h=>by
  rw[Array.getElem?_replicate] at h;split at h<;>cases h
 exact⟨by simp,λj i h=>absurd h (no j i),λi h=>absurd h (Nat.not_lt_zero _),λj _ i h=>absurd h (no j i),λj i h=>absurd h (no j i)⟩
theorem i7 {α β:Type}{f:α->Option β}:∀{l:List α},(∀x∈l,∃y,f x=some y)->∀n:Nat,(l.filterMap f)[n]? = (l[n]?).bind f
 | [],_,n=>by simp
 |x::l,h,n=>by
  obtain⟨y,hy⟩:=h x U8;rw[aay hy];cases n with
  |zero=>simp[hy]
  |succ n=>simpa using i7 (λz hz=>h z (Vc _ hz)) n
theorem lr {α β:Type}{f:α->Option β}:∀{l:List α},(∀x∈l,∃y,f x=some y)->(l.filterMap f).length=l.length
 | [],_=>rfl
 |x::l,h=>by
  obtain⟨y,hy⟩:=h x U8;rw[aay hy,Vi,Vi,lr λz hz=>h z (Vc _ hz)]
variable {V:Type}
theorem HL {finger moves:Nat}{led plain:Bool}{es:Array (Int×V)}(hp:∃p,mask+1=2 ^ p)(hl:es.size<=mask):∃(t:YI) (order:Array Nat) (C:Nat->Option (Int×V)),laid mask finger moves led plain (es.map (·.1))=some (t,order)/\
  uD t (order.filterMap (es[·]?)) C/\Jc mask (Y1 mask) C/\(order.filterMap (es[·]?)).size=es.size/\t.mask=mask/\t.finger=finger/\t.moves=moves/\t.led=led/\t.plain=plain/\
  (order.filterMap (es[·]?)).toList.Perm es.toList:=by
 obtain⟨owner,f1,O⟩:=A6 (Hf:=λi=>(es[i]?.map (·.1)).getD 0) hp (es.map (·.1)).toList 0 _ (HK mask _) (λi hi=>by
  have Kq:i<es.size:=by simpa using hi
  simp[Kq]) (by simpa using hl)
 rw[XB,U9,Array.size_map] at f1 O;have lc:layClean mask (es.map (·.1))=some owner:=by
  unfold layClean;rw[←Array.foldl_toList];show ((es.map (·.1)).toList.foldl (HJ mask) (some (Array.replicate (mask+1) none,0))).map (·.1)=some owner;rw[f1];rfl
 let live:=(VN (mask+1)).filterMap λj=>(owner.getD j none).map (j,·)
 have gd:∀j i,owner.getD j none=some i↔owner[j]? = some (some i):=λj i=>by
  by_cases h:j<owner.size
  ·simp[Zl,h]
  ·simp[Zl,h]
 have ml:∀j i,(j,i)∈live↔owner[j]? = some (some i):=λj i=>by
  show (j,i)∈List.filterMap _ _↔_;rw[Z6];constructor
  ·rintro⟨a,_,h⟩;cases e:owner.getD a none with
   |none=>rw[e] at h;cases h
   |some x=>rw[e] at h;cases h;exact (gd _ _).mp e
  ·intro h;refine⟨j,VJ.mpr ?_,by rw[(gd j i).mpr h];rfl⟩;have:=(V_.mp h).1;rw[O.sz] at this;exact this
 have pw:live.Pairwise (λa b=>a.1<b.1/\a.2≠b.2):=by
  show List.Pairwise _ (List.filterMap _ _);rw[List.pairwise_filterMap];refine List.pairwise_lt_range.imp λ{a b} vg x hx y hy=>?_;cases e:owner.getD a none with
  |none=>rw[e] at hx;cases hx
  |some i=>cases e':owner.getD b none with
   |none=>rw[e'] at hy;cases hy
   |some i'=>
    rw[e] at hx;rw[e'] at hy;cases hx;cases hy;refine⟨vg,λz=>?_⟩;dsimp only at z;subst z;have:=O.un _ _ _ ((gd _ _).mp e) ((gd _ _).mp e');lia
 have S0:(live.map (·.2)).Perm (VN es.size):=by
  have nd:(live.map (·.2)).Nodup:=by
   unfold List.Nodup;rw[Xb];exact pw.imp λh=>h.2
  exact (List.perm_ext_iff_of_nodup nd YN).mpr λi=>by
   rw[V3,VJ];constructor
   ·rintro⟨⟨j,i'⟩,h,rfl⟩;exact O.ix j i' ((ml j i').mp h)
   ·intro h;obtain⟨j,e⟩:=O.ex i h;exact⟨(j,i),(ml j i).mpr e,rfl⟩
 have len:live.length=es.size:=by
  have:=S0.length_eq
  rwa [Vd,WC] at this
 have T5:∀x∈live,∃y,es[x.2]? = some y:=λx hx=>by
  have:=O.ix x.1 x.2 ((ml x.1 x.2).mp hx);exact⟨es[x.2],VD this⟩
 have Pf:∀x∈live.map (·.2),∃y,es[x]? = some y:=λx hx=>by
  obtain⟨z,hz,rfl⟩:=V3.mp hx;exact T5 z hz
 have RO:((live.map (·.2)).toArray.filterMap (es[·]?)).toList=(live.map (·.2)).filterMap (es[·]?):=by simp
 have S1:∀n:Nat,((live.map (·.2)).toArray.filterMap (es[·]?))[n]? = (live[n]?).bind λx=>es[x.2]? := λn=>by
  rw[←Vq,RO,i7 Pf,VL];cases live[n]? <;> rfl
 have RP:∀n:Nat,(live.map (·.1)).toArray[n]? = (live[n]?).map (·.1):=λn=>by
  rw[←Vq];simp
 let C:Nat->Option (Int×V):=λj=>(owner.getD j none).bind (es[·]?)
 have hC:∀j e,C j=some e↔∃i,owner[j]? = some (some i)/\es[i]? = some e:=λj e=>by
  show (owner.getD j none).bind _=some e↔_;cases q:owner.getD j none with
  |none=>
   refine⟨λh=>(by cases h),fun⟨i,h,_⟩=>?_⟩;rw[(gd j i).mpr h] at q;cases q
  |some i=>
   constructor
   ·intro h;exact⟨i,(gd j i).mp q,h⟩
   ·rintro⟨i',h,h2⟩;rw[(gd j i').mpr h] at q;cases q;exact h2
 have GO:((live.map (·.2)).toArray.filterMap (es[·]?)).size=es.size:=by
  rw[←U9,RO,lr Pf,Vd,len]
 refine⟨{mask,place:=(live.map (·.1)).toArray,dummies:=#[],finger,led,moves,plain},(live.map (·.2)).toArray,C,?_,⟨?_,?_,rfl,hp,?_,?_,?_⟩,?_,GO,rfl,rfl,rfl,rfl,rfl,?_⟩
 ·unfold laid;rw[lc];rfl
 ·intro i j hi hj lt;have g:=pw;rw[XO] at g;have wO:i<live.length:=by simpa using hi
  have T6:j<live.length:=by simpa using hj
  have:=(g i j wO T6 lt).1;simpa using this
 ·show ((live.map (·.1)).toArray).size=_;rw[GO];simp[len]
 ·rw[GO];exact hl
 ·intro i j h;have h:(live.map (·.1)).toArray[i]? = some j:=h;rw[RP] at h;cases e:live[i]? with
  |none=>rw[e] at h;cases h
  |some x=>
   rw[e] at h;cases h;have:=(V_.mp ((ml x.1 x.2).mp (Wc e))).1;rw[O.sz] at this;exact Xr this
 ·intro j e;show C j=some e↔∃i:Nat,(live.map (·.1)).toArray[i]? = some j/\_;rw[hC];constructor
  ·rintro⟨i,h1,h2⟩;obtain⟨n,hn⟩:=List.mem_iff_getElem?.mp ((ml j i).mpr h1);exact⟨n,by rw[RP,hn];rfl,by rw[S1,hn];exact h2⟩
  ·rintro⟨n,h1,h2⟩;rw[RP] at h1;rw[S1] at h2;cases q:live[n]? with
   |none=>rw[q] at h1;cases h1
   |some x=>
    rw[q] at h1 h2;cases h1;exact⟨x.2,(ml x.1 x.2).mp (Wc q),h2⟩
 ·intro j e h;obtain⟨i,h1,h2⟩:=(hC j e).mp h;obtain⟨n,g1,g2⟩:=O.pt j i h1;have hf:(es[i]?.map (·.1)).getD 0=e.1:=by rw[h2];rfl
  rw[hf] at g1 g2;refine⟨n,g1,λm hm=>?_⟩;obtain⟨i',h3⟩:=g2 m hm;have:=O.ix _ _ h3;exact⟨es[i'],(hC _ _).mpr ⟨i',h3,VD this⟩⟩
 ·rw[RO];refine (S0.filterMap _).trans ?_;have e:(VN es.size).filterMap (es[·]?)=es.toList:=by
   refine X2 λn=>?_;rw[i7 (λx hx=>⟨es[x]'(VJ.mp hx),VD (VJ.mp hx)⟩)];by_cases h:n<es.size
   ·rw[YT h];simp
   ·rw[WH.mpr (by simpa using h),WH.mpr (by simpa using h)];rfl
  rw[e]
end Hc.Sx
namespace Hc.Sx
open PySem.SetTable
theorem xF:∀(fuel size n:Nat),(∃p,size=2 ^ p)->8<=size->(size<=8\/size<=2*n)->n<size*2 ^ fuel->(∃p,sizeAbove.go n fuel size=2 ^ p)/\n<sizeAbove.go n fuel size/\8<=sizeAbove.go n fuel size/\(sizeAbove.go n fuel size<=8\/sizeAbove.go n fuel size<=2*n)
 |0,size,n,hp,h8,hb,hn=>by
  unfold sizeAbove.go;exact⟨hp,by simpa using hn,h8,hb⟩
 |fuel+1,size,n,⟨p,hp⟩,h8,hb,hn=>by
  unfold sizeAbove.go;by_cases c:size<=n
  ·rw[hV c];exact xF fuel (size*2) n ⟨p+1,by rw[hp,XC]⟩ (by lia) (.inr (by lia)) (by rw[XC,Xo (2 ^ fuel) 2,←WT] at hn;exact hn)
  ·rw[hU c];exact⟨⟨p,hp⟩,by lia,h8,hb⟩
theorem EF (h:n<2 ^ 60):(∃p,sizeAbove n=2 ^ p)/\n<sizeAbove n/\8<=sizeAbove n/\(sizeAbove n<=8\/sizeAbove n<=2*n):=
 xF 64 8 n ⟨3,rfl⟩ (Vh _) (.inl (Vh _)) (Nat.lt_trans h (by decide))
structure oG {prog:XJ}{w:Ya}{K:Type}[DecidableEq K](knd:Y9 prog w K):Prop where
 cls:∀{A:VR} {E:Va->Vo->Prop} {s:Vo} {k:K} {a:Vr} {Q:Bool->Vo->Prop},knd.is s.heap k a->Q false s->Vs (VE prog w) A (ofAClassStatement 8 (.ref a)) Q E s
 byv:∀{A:VR} {E:Va->Vo->Prop} {s:Vo} {k:K} {a:Vr} {Q:Bool->Vo->Prop},knd.is s.heap k a->Q true s->Vs (VE prog w) A (hashByValue 8 (.ref a)) Q E s
 kept:∀{h h':XI} {k:K} {a d:Vr} {o:Obj} {es:Array (Int×Va)} {ep:Nat} {t:YI},knd.is h k a->h.get? d=some o->o.data=.set es ep t->Xe d h h'->knd.is h' k a
section
variable {K:Type}[DecidableEq K]{knd:Y9 prog w K}
noncomputable def PH (knd:Y9 prog w K)(x:K×Vr):Int×Va:=(knd.hash x.1,.ref x.2)
structure HS (knd:Y9 prog w K)(h:XI)(xs:List (K×Vr))(es:Array (Int×Va))(t:YI)(C:Nat->Option (Int×Va)):Prop where
 tab:uD t es C
 pth:Jc t.mask (Y1 t.mask) C
 pl:t.plain=true
 lo:7<=t.mask
 hi:t.mask<=8191
 few:es.size*5<t.mask*3
 per:es.toList.Perm (xs.map (PH knd))
 keys:∀x∈xs,knd.is h x.1 x.2
 nd:(xs.map (·.1)).Nodup
def lQ (knd:Y9 prog w K)(byText:Bool)(h:XI)(a:Vr)(xs:List (K×Vr)):Prop:=
 ∃o es ep t C,h.get? a=some o/\o.ExactSet/\o.data=.set es ep t/\HS knd h xs es t C/\(byText=true\/t.led=true)
variable {A:VR}
theorem HS.fits {xs:List (K×Vr)}{es:Array (Int×Va)}(S:HS knd h xs es t C):t.fits es.size=true:=by
 unfold SetTable.fits SetTable.fill;rw[S.tab.sz,S.tab.dum];simp;exact S.tab.room
theorem HS.stays {xs:List (K×Vr)}{es:Array (Int×Va)}(S:HS knd h xs es t C):t.gaveWay=false:=by
 unfold SetTable.gaveWay;obtain⟨p,hp⟩:=S.tab.pow;have:=S.lo;cases p with
 |zero=>simp at hp;lia
 |succ p=>rw[XC] at hp;simp;lia
theorem HS.entry {xs:List (K×Vr)}{es:Array (Int×Va)}(S:HS knd h xs es t C){e:Int×Va}(he:e∈es.toList):∃k b,(k,b)∈xs/\e=(knd.hash k,.ref b)/\knd.is h k b:=by
 obtain⟨⟨k,b⟩,hx,rfl⟩:=V3.mp (S.per.mem_iff.mp he);exact⟨k,b,hx,rfl,S.keys _ hx⟩
theorem HS.at {xs:List (K×Vr)}{es:Array (Int×Va)}(S:HS knd h xs es t C){e:Int×Va}(hc:C j=some e):∃k b,(k,b)∈xs/\e=(knd.hash k,.ref b)/\knd.is h k b:=by
 obtain⟨i,_,h2⟩:=(S.tab.con j e).mp hc;exact S.entry (by have:=Array.mem_of_getElem? h2;simpa using this)
theorem HS.has {xs:List (K×Vr)}{es:Array (Int×Va)}(S:HS knd h xs es t C){k:K}(hx:(k,b)∈xs):∃j,C j=some (knd.hash k,.ref b):=by
 have:PH knd (k,b)∈es.toList:=S.per.mem_iff.mpr (V3.mpr ⟨_,hx,rfl⟩);obtain⟨i,hi⟩:=List.mem_iff_getElem?.mp this;rw[Vq] at hi;have h2:i<t.place.size:=by rw[S.tab.sz];exact (V_.mp hi).1
 exact⟨t.place[i],(S.tab.con _ _).mpr ⟨i,VD h2,hi⟩⟩
theorem Cu (sk:oG knd){k:K}(hk:knd.is s.heap k b){Q:Bool->Vo->Prop}(l:List Va)(hl:∀y∈l,∃k' b',y=.ref b'/\knd.is s.heap k' b')(h:Q false s):Vs (VE prog w) A (searchCouldBeSeen (.ref b) l) Q E s:=by
 unfold searchCouldBeSeen;refine U3 ?_;refine ZA _ (λrest r s'=>r.1=none/\s'=s/\∀y∈rest,∃k' b',y=.ref b'/\knd.is s.heap k' b') _ ?_ ?_ _ _ ⟨rfl,rfl,hl⟩
 ·rintro y rest r s' ⟨hr,rfl,hy⟩;obtain⟨k',b',rfl,Kr⟩:=hy y U8;have next:∀z∈rest,∃k' b',z=Value.ref b'/\knd.is s'.heap k' b':=λz hz=>hy z (Vc _ hz)
  dsimp only;split
  ·exact U6 ⟨rfl,rfl,next⟩
  ·refine U3 (knd.quiet hk ?_);simp only[Yy,VG,if_false];refine U3 (knd.quiet Kr ?_);simp only[Yy,VG,if_false];refine U3 (sk.cls hk ?_);simp only[VG,if_false];refine U3 (sk.cls Kr ?_);simp only[VG,if_false];exact U6 ⟨rfl,rfl,next⟩
 ·rintro⟨r1,r2⟩ s' ⟨hr,rfl,_⟩;simp only at hr;subst hr;exact U6 h
end
end Hc.Sx
namespace Hc.Sx
open PySem.SetTable
section
variable {K:Type}[DecidableEq K]{knd:Y9 prog w K}{A:VR}
variable {o:Obj}{es:Array (Int×Va)}{xs:List (K×Vr)}{k:K}
noncomputable abbrev A7 (t:YI)(h:Int)(n:Nat):Nat:=(advs t.mask n (Y1 t.mask h)).j
theorem oH (sk:oG knd)(hr:knd.room A)(hk:knd.is s.heap k b)(ho:s.heap.get? a=some o)(hd:o.data=.set es ep t)(S:HS knd s.heap xs es t C){Q:SetFound->Vo->Prop}{N:Nat}(hN:C (A7 t (knd.hash k) N)=none)
  (wQ:k∈xs.map (·.1)->Q (.there none) s)
  (sZ:k∉xs.map (·.1)->∀n,(∀m,m<n->∃e,C (A7 t (knd.hash k) m)=some e)->C (A7 t (knd.hash k) n)=none->Q (.free (A7 t (knd.hash k) n) false) s) :
  ∀(fuel n:Nat) (stand:Option Probe),stand.getD (t.probeStart (knd.hash k))=advs t.mask n (Y1 t.mask (knd.hash k))->N<n+fuel->(∀m,m<n->∃k' b',C (A7 t (knd.hash k) m)=some (knd.hash k',.ref b')/\(k',b')∈xs/\k'≠k)->
   Vs (VE prog w) A (setSearchFrom a (.ref b) (knd.hash k) true fuel stand) Q E s
 |0,n,stand,hs,hf,hb=>by
  obtain⟨k',b',e,_⟩:=hb N (by lia);rw[e] at hN;cases hN
 |fuel+1,n,stand,hs,hf,hb=>by
  unfold setSearchFrom;refine U3 (Wr ho hd S.fits ?_);dsimp only;rw[S.stays];simp only[VG,if_false];obtain⟨m',g1,g2⟩:=zM S.tab (hashAt:=λi=>(es[i]?.map (·.1)).getD 0) (λi e h=>by show (es[i]?.map (·.1)).getD 0=e.1;rw[h];rfl) (knd.hash k) (j_.advs n (j_.start t (knd.hash k)));have pa:∀x,(advs t.mask x (advs t.mask n (t.probeStart (knd.hash k)))).j=A7 t (knd.hash k) (n+x):=λx=>by rw[←iq];rfl
  have P9:∀m,m<n+m'->∃k' b',C (A7 t (knd.hash k) m)=some (knd.hash k',.ref b')/\(k',b')∈xs/\k'≠k:=λm hm=>by
   rcases Yl m n with z|z
   ·exact hb m z
   ·obtain⟨e,h1,h2⟩:=g1 (m-n) (by lia);rw[pa,show n+(m-n)=m by lia] at h1;obtain⟨k',b',hx,rfl,_⟩:=S.at h1;exact⟨k',b',h1,hx,λz=>h2 (by rw[z])⟩
  have pe:t.probe (λi=>(es[i]?.map (·.1)).getD 0) (knd.hash k) (stand.getD (t.probeStart (knd.hash k)))=t.probe (λi=>(es[i]?.map (·.1)).getD 0) (knd.hash k) (advs t.mask n (t.probeStart (knd.hash k))):=by rw[hs];rfl
  rcases g2 with⟨c1,c2⟩|⟨e,i,c1,c2,c3,c4,c5⟩
  ·
   have RQ:=pe.trans c2;rw[pa] at c1 RQ;have nx:k∉xs.map (·.1):=λhm=>by
    obtain⟨⟨k0,b0⟩,hx,rfl⟩:=V3.mp hm;obtain⟨j,hj⟩:=S.has hx;obtain⟨m,hm,hmj⟩:=S.pth.met c1 hj rfl;obtain⟨k',b',h1,h2,h3⟩:=P9 m hm;have h1:C j=some (knd.hash k',.ref b'):=by rw[←hmj];exact h1
    rw[hj] at h1;have eb:b0=b':=by
     have:=(Prod.mk.inj (Vy h1)).2;injection this
    subst eb;exact h3 (knd.inj (S.keys _ h2) (S.keys _ hx))
   have fin:=sZ nx (n+m') (λm hm=>let ⟨k',b',h1,_⟩:=P9 m hm;⟨_,h1⟩) c1;split
   ·rename_i met hq;have e:=(hq.symm.trans RQ);cases e;exact U6 fin
   ·rename_i hq;exact absurd RQ (by intro z;exact hq _ z)
  ·
   have MB:=pe.trans c5;rw[pa] at c1 c4 MB;rw[←iq] at MB;obtain⟨k',b',hx,rfl,Kr⟩:=S.at c1;have lN:n+m'<N:=by
    rcases Zm N (n+m') with z|z|z
    ·obtain⟨_,_,e,_⟩:=P9 N z;rw[e] at hN;cases hN
    ·rw[z,c1] at hN;cases hN
    ·exact z
   have body:∀R:Sem SetFound,R=(do
     let some (_,y):=es[i]? | Zn "internal:set-entry"
     let equal ←holding [y] (eqBool y (.ref b))
     let (Gz,_,t') ←setState a
     if true&&equal then return .there none
     let some same:=t'.sameMemory t.moves t.mask|Zn "set.changed-during-lookup:is-the-new-block-at-the-old-address"
     let BZ ←match (if same then t'.slot (A7 t (knd.hash k) (n+m')) else .empty) with
      | .live i'=>match Gz[i']? with
       |some (_,y')=>do pure (if ←isSame y' y then some i' else none)
       |none=>pure none
      |_=>pure none
     match BZ with
     |none=>rule "set.search.anew";setSearchFrom a (.ref b) (knd.hash k) true fuel none
     |some i'=>if equal then return .there (some i') else setSearchFrom a (.ref b) (knd.hash k) true fuel (some (advs t.mask (n+(m'+1)) (t.probeStart (knd.hash k)))))->Vs (VE prog w) A R Q E s:=λR hR=>by
    subst hR;rw[c3];dsimp only;refine U3 (WA (knd.eqBool hr Kr hk ?_));refine U3 (Wr ho hd S.fits ?_);dsimp only;by_cases q:k'=k
    ·rw[hG q];simp only[Bool.and_self,if_true];subst q;exact U6 (wQ (V3.mpr ⟨_,hx,rfl⟩))
    ·rw[hJ q];simp only[Zu,VG,if_false];have sm:t.sameMemory t.moves t.mask=some true:=by unfold SetTable.sameMemory;simp
     rw[sm];dsimp only;obtain⟨i2,l1,l2,l3⟩:=S.tab.live c1;rw[l1];simp only[if_true];rw[l2];dsimp only;refine U3 (wpAny_isSame_ref_self ?_);simp only[if_true];refine U3 (U6 ?_);dsimp only;refine oH sk hr hk ho hd S hN wQ sZ fuel (n+(m'+1)) _ rfl (by lia) λm hm=>?_;rcases Yl m (n+m') with z|z
     ·exact P9 m z
     ·have:m=n+m':=by lia
      subst this;exact⟨k',b',c1,hx,q⟩
   split
   ·rename_i met hq;have e:=(hq.symm.trans MB);cases e;dsimp only;split
    ·refine U3 (Cu sk hk _ (λy hy=>?_) ?_)
     ·obtain⟨e,he,rfl⟩:=V3.mp hy;have he:e∈es.toList:=by
       have:e∈(es.filter λx=>x.1==knd.hash k):=by simpa using he
       have:=(Array.mem_filter.mp this).1;simpa using this
      obtain⟨k2,b2,_,rfl,h2⟩:=S.entry he;exact⟨k2,b2,rfl,h2⟩
     ·simp only[VG,if_false];exact body _ rfl
    ·exact body _ rfl
   ·rename_i hq;exact absurd MB (by intro z;exact hq _ z)
theorem Cv (sk:oG knd)(hr:knd.room A)(hk:knd.is s.heap k b)(ho:s.heap.get? a=some o)(hd:o.data=.set es ep t)(S:HS knd s.heap xs es t C){Q:SetFound->Vo->Prop}
  (wQ:k∈xs.map (·.1)->Q (.there none) s)
  (sZ:k∉xs.map (·.1)->∀n,(∀m,m<n->∃e,C (A7 t (knd.hash k) m)=some e)->C (A7 t (knd.hash k) n)=none->Q (.free (A7 t (knd.hash k) n) false) s) :
  Vs (VE prog w) A (setSearch a (.ref b) (knd.hash k) true) Q E s:=by
 obtain⟨y,hy,hc⟩:=S.tab.free;obtain⟨p,hp⟩:=S.tab.pow;obtain⟨N,h1,h2⟩:=uF hp (j_.start t (knd.hash k)) hy;unfold setSearch;refine oH sk hr hk ho hd S (N:=N) (by show C (advs t.mask N (t.probeStart (knd.hash k))).j=none;rw[h2];exact hc) wQ sZ 100000 0 none rfl ?_ λm hm=>by lia
 have:=S.hi;unfold turns at h1;lia
end
end Hc.Sx
namespace Hc.Sx
open PySem.SetTable
theorem lu {α:Type}(xs:Array α)(p:Nat)(x:α):(insertAt xs p x).toList.Perm (xs.toList++[x]):=by
 rw[i6];have h:(x::xs.toList.drop p).Perm (xs.toList.drop p++[x]):=(List.perm_append_singleton x _).symm;refine (Wv _ h).trans ?_;rw[←VC,Ww]
section
variable {K:Type}[DecidableEq K]{knd:Y9 prog w K}{A:VR}
variable {o:Obj}{es:Array (Int×Va)}{xs:List (K×Vr)}{k:K}{byText:Bool}
noncomputable def lx (xs:List (K×Vr))(k:K)(b:Vr):List (K×Vr):=if k∈xs.map (·.1) then xs else xs++[(k,b)]
theorem EG (ho:h.get? a=some o)(hd:o.data=.set es ep t)(Gz:Array (Int×Va))(t':YI) :
  (h.update a (aaz Gz t')).get? a=some {o with data:=.set Gz (ep+1) t'}:=by
 have:=WQ (aaz Gz t') ho (by rw[putSet_of Gz t' hd];rfl);rw[putSet_of Gz t' hd] at this;exact this
theorem EH {h:XI}(sk:oG knd)(ho:s.heap.get? a=some o)(GK:o.ExactSet)(hd:o.data=.set es ep t)(tab:uD t es C)(pl:t.plain=true)(per:es.toList.Perm (xs.map (PH knd)))(keys:∀x∈xs,knd.is s.heap x.1 x.2)(nd:(xs.map (·.1)).Nodup)(led:byText=true\/t.led=true)(hn:es.size=n)(US:1<=n)(S2:n<=2047){Q:Unit->Vo->Prop}(q:∀h',Xe a s.heap h'->lQ knd byText h' a xs->Q () {s with heap:=h'}) :
  Vs (VE prog w) A (setRelay a (grown n)) Q E s:=by
 have hw:grown n=n*4:=by unfold grown;rw[hU (by lia)]
 have ab:=EF (n:=grown n) (by rw[hw];exact Y6 (show n*4<=8192 by lia) (by decide));have sz:Vf=16777216:=rfl;generalize eS:sizeAbove (grown n)=sA at ab;obtain⟨⟨p,hp⟩,a1,a2,a3⟩:=ab;have m1:sA-1+1=2 ^ p:=by lia
 have m8:sA<=8192:=by
  have UT:p<14:=by
   refine XN λz=>?_;have UU:(2:Nat) ^ 14<=2 ^ p:=Nat.pow_le_pow_right (by decide) (by lia);rw[hw] at a3;lia
  have UW:(2:Nat) ^ p<=2 ^ 13:=Nat.pow_le_pow_right (by decide) (by lia);lia
 have T7:t.fits es.size=true:=by
  unfold SetTable.fits SetTable.fill;rw[tab.sz,tab.dum];simp;exact tab.room
 obtain⟨t',order,C',h1,T',P',hsz,e1,e2,e3,e4,e5,hall⟩:=HL (mask:=sA-1) (finger:=t.finger) (moves:=t.movedTo (sA-1)) (led:=t.led) (plain:=t.plain) (es:=es) ⟨p,m1⟩ (by rw[hw] at a1;lia);unfold setRelay;refine U3 (Wr ho hd T7 ?_);dsimp only;rw[eS,hU (by rw[hw] at a3;lia)];have hr:t.relaid (es.map (·.1)) (grown n)=some (t',order):=by unfold SetTable.relaid;rw[eS];exact h1
 have GO:(order.filterMap (es[·]?)).size<=Vf:=by rw[hsz,hn];lia
 have GL:¬(((order.filterMap (es[·]?)).size != es.size)=true):=by rw[hsz];simp
 refine U3 (Zo (a:=(order.filterMap (es[·]?),t')) (by rw[hr];exact hU GL) ?_);refine wpAny_storeSet_of ho hd ?_ GO;have MC:=Wh s.heap a (aaz (order.filterMap (es[·]?)) t');refine q _ MC ⟨_,_,_,t',C',EG ho hd _ _,GK,rfl,⟨T',by rw[e1];exact P',by rw[e5];exact pl,by rw[e1];lia,by rw[e1];rw[hw] at a3;lia,by rw[hsz,e1,hn];rw[hw] at a1;lia,?_,λx hx=>sk.kept (keys x hx) ho hd MC,nd⟩,led.imp id λz=>by rw[e4];exact z⟩;exact hall.trans per
end
end Hc.Sx
namespace Hc.Sx
open PySem.SetTable
section
variable {K:Type}[DecidableEq K]{knd:Y9 prog w K}{A:VR}
variable {xs:List (K×Vr)}{k:K}{byText:Bool}
theorem zN (b:Vr)(es:Array (Int×Va)):byScan (.ref b) es=false:=by unfold byScan Value.scannable;simp
theorem Lx (sk:oG knd)(hr:knd.room A)(hk:knd.is s.heap k b)(hS:lQ knd byText s.heap a xs)(hl:xs.length+1<=2047){Q:Bool->Vo->Prop}
  (q:∀h' r,Xe a s.heap h'->lQ knd byText h' a (lx xs k b)->Q r {s with heap:=h'}):Vs (VE prog w) A (setAddHashed a (.ref b) (knd.hash k)) Q E s:=by
 obtain⟨o,es,ep,t,C,ho,GK,hd,S,led⟩:=hS;have UX:es.size=xs.length:=by have:=S.per.length_eq;simpa using this
 unfold setAddHashed setAddHashedIn;refine WA (U3 (Wr ho hd S.fits ?_));dsimp only;rw[zN];simp only[VG,if_false];refine U3 (Cv sk hr hk ho hd S (λsY=>?_) λPg n hb hc=>?_)
 ·dsimp only;refine U6 ?_;have e:s={s with heap:=s.heap}:=by cases s;rfl
  rw[e];exact q s.heap false (Heap.SameBut.refl a s.heap) (by unfold lx;rw[hV sY];exact⟨o,es,ep,t,C,ho,GK,hd,S,led⟩)
 ·dsimp only;refine U3 (Wr ho hd S.fits ?_);dsimp only;have few:=S.few;have lo:=S.lo;have jm:A7 t (knd.hash k) n<=t.mask:=by
   obtain⟨p,hp⟩:=S.tab.pow;have:∀n,(advs t.mask n (Y1 t.mask (knd.hash k))).j+(advs t.mask n (Y1 t.mask (knd.hash k))).more<=t.mask:=by
    intro n
    induction n with
    |zero=>
     show bits (knd.hash k) % (t.mask+1)+(runEnd t.mask (bits (knd.hash k) % (t.mask+1))-bits (knd.hash k) % (t.mask+1))<=t.mask;have:bits (knd.hash k) % (t.mask+1)<t.mask+1:=Yz _ (Yk _);unfold runEnd;split<;>lia
    |succ n ih=>
     rw[uE];unfold adv;split
     ·dsimp only;lia
     ·dsimp only;have:(leap t.mask (advs t.mask n (Y1 t.mask (knd.hash k))).i (advs t.mask n (Y1 t.mask (knd.hash k))).perturb).1<t.mask+1:=Yz _ (Yk _);unfold runEnd;split<;>lia
   have:=this n;show (advs t.mask n (Y1 t.mask (knd.hash k))).j<=t.mask;lia
  obtain⟨T1,p1,p2,p3,p4,p5⟩:=S.tab.put (e:=(knd.hash k,Value.ref b)) jm hc (by lia);have P1:=Jc.up S.pth (e:=(knd.hash k,Value.ref b)) hb hc;generalize et:(t.put (A7 t (knd.hash k) n)).1=t1 at *;generalize ei:(t.put (A7 t (knd.hash k) n)).2=ip at *;have GO:(insertAt es ip (knd.hash k,Value.ref b)).size=es.size+1:=by
   have:=(lu es ip (knd.hash k,Value.ref b)).length_eq;simpa using this
  rw[hV (by rw[p2];exact S.pl)];refine U3 (sk.byv hk ?_);simp only[if_true];have sl:Vf=16777216:=rfl;refine U3 (wpAny_storeSet_of ho hd ?_ (by rw[GO];lia));have MC:=Wh s.heap a (aaz (insertAt es ip (knd.hash k,Value.ref b)) t1);have S3:=EG ho hd (insertAt es ip (knd.hash k,Value.ref b)) t1;have S4:lx xs k b=xs++[(k,b)]:=by unfold lx;rw[hU Pg]
  have Ph:(insertAt es ip (knd.hash k,Value.ref b)).toList.Perm ((xs++[(k,b)]).map (PH knd)):=by
   rw[WI];exact (lu _ _ _).trans (W7 _ S.per)
  have Ks:∀x∈xs++[(k,b)],knd.is (s.heap.update a (aaz (insertAt es ip (knd.hash k,Value.ref b)) t1)) x.1 x.2:=λx hx=>by
   rcases Vv.mp hx with z|z
   ·exact sk.kept (S.keys x z) ho hd MC
   ·rw[Vu.mp z];exact sk.kept hk ho hd MC
  have P_:((xs++[(k,b)]).map (·.1)).Nodup:=by
   rw[WI,Xc];exact⟨S.nd,by simp,λx hx y hy e=>by
    simp at hy;subst e hy;exact Pg hx⟩
  have Pj:byText=true\/t1.led=true:=led.imp id λz=>by rw[p3];exact z
  have Pl:t1.fill=es.size+1:=by
   unfold SetTable.fill;rw[T1.sz,T1.dum,GO];rfl
  cases tf:t1.tooFull with
  |false=>
   simp only[aam,Zu,VG,if_false];refine U6 (q _ true MC ?_);rw[S4];refine⟨_,_,_,t1,_,S3,GK,rfl,⟨T1,by rw[p1];exact P1,by rw[p2];exact S.pl,by rw[p1];exact lo,by rw[p1];exact S.hi,?_,Ph,Ks,P_⟩,Pj⟩;unfold SetTable.tooFull at tf;rw[Pl] at tf;rw[GO];simpa using tf
  |true=>
   simp only[aam,Bool.and_self,if_true];refine U3 (EH (h:=s.heap) (s:={s with heap:=s.heap.update a (aaz (insertAt es ip (knd.hash k,Value.ref b)) t1)}) sk S3 GK rfl T1 (by rw[p2];exact S.pl) Ph Ks P_ Pj GO (by lia) (by lia) λh' RS H'=>?_);refine U6 (q h' true (MC.trans RS) ?_);rw[S4];exact H'
theorem EI {led:Bool}(hl:byText=true\/led=true)(hg:h.get? a=some {cls:=.type "set",dict:=none,data:=.set #[] 0 (.fresh 0 0 led)}):lQ knd byText h a []:=by
 refine⟨_,#[],0,.fresh 0 0 led,λ_=>none,hg,⟨rfl,rfl,rfl⟩,rfl,⟨⟨λi j hi=>absurd hi (Nat.not_lt_zero _),rfl,rfl,⟨3,rfl⟩,Wt _,λi j h=>?_,λj e=>⟨λh=>(by cases h),fun⟨i,h,_⟩=>?_⟩⟩,λj e h=>(by cases h),rfl,Vh _,(show (7:Nat)<=8191 by decide),(show 0*5<7*3 by decide),Wz _,λx hx=>(by cases hx),Zv⟩,hl⟩
 ·have h:(#[]:Array Nat)[i]? = some j:=h;simp at h
 ·have h:(#[]:Array Nat)[i]? = some j:=h;simp at h
end
end Hc.Sx
namespace Hc.Sx
open PySem.SetTable
section
variable {K:Type}[DecidableEq K]{knd:Y9 prog w K}{A:VR}
variable {xs:List (K×Vr)}{k:K}{byText:Bool}
theorem lQ.keep (H:lQ knd byText h a xs)(e:∀o,h.get? a=some o->h'.get? a=some o)(hk:∀x∈xs,knd.is h' x.1 x.2):lQ knd byText h' a xs:=by
 obtain⟨o,es,ep,t,C,ho,GK,hd,S,led⟩:=H;exact⟨o,es,ep,t,C,e o ho,GK,hd,⟨S.tab,S.pth,S.pl,S.lo,S.hi,S.few,S.per,hk,S.nd⟩,led⟩
theorem lQ.setAt (H:lQ knd byText h a xs):∃o es ep t,h.get? a=some o/\o.data=.set es ep t:=by
 obtain⟨o,es,ep,t,C,ho,GK,hd,S,led⟩:=H;exact⟨o,es,ep,t,ho,hd⟩
noncomputable def eI (val:Nat->K×Vr):Nat->List (K×Vr)
 |0=>[]
 |i+1=>lx (eI val i) (val i).1 (val i).2
theorem xG (val:Nat->K×Vr){i:Nat}:∀{n:Nat},i<=n->(eI val i).length<=(eI val n).length
 |0,h=>by rw[Nat.le_zero.mp h];exact Vh _
 |n+1,h=>by
  by_cases e:i=n+1
  ·rw[e];exact Vh _
  ·refine Wa (xG val (n:=n) (by lia)) ?_;show (eI val n).length<=(lx _ _ _).length;unfold lx;split
   ·exact Vh _
   ·rw[Ve];lia
theorem kP (val:Nat->K×Vr):∀(i:Nat) (x:K×Vr),x∈eI val i->∃j,j<i/\x=val j
 |0,x,h=>by cases h
 |i+1,x,h=>by
  unfold eI lx at h;split at h
  ·obtain⟨j,h1,h2⟩:=kP val i x h;exact⟨j,by lia,h2⟩
  ·rcases Vv.mp h with z|z
   ·obtain⟨j,h1,h2⟩:=kP val i x z;exact⟨j,by lia,h2⟩
   ·exact⟨i,by lia,Vu.mp z⟩
variable {R:Result->Vo->Prop}{I:Vr}{wr:List Vr}{G:Array GenState->Array GenState->Prop}{P:Nat->Va->Prop}{St:Nat->Vo->Prop}
theorem Cw (sk:oG knd)(hr:knd.room A.in1)(W:WalksS prog w A.in1 I fp wr G n P St)(S:Vr)(S5:S∉fp)(val:Nat->K×Vr)(RT:∀i v,P i v->v=.ref (val i).2)(hn:(eI val n).length+1<=2047)
  (mv:∀i (s s':Vo),i<=n->St i s->Moved wr G s s'->(∀j,j<n->knd.is s.heap (val j).1 (val j).2)->∀j,j<n->knd.is s'.heap (val j).1 (val j).2) :
  ∀(d i:Nat) (s:Vo),n-i=d->i<=n->St i s->(∀j,j<n->knd.is s.heap (val j).1 (val j).2)->lQ knd byText s.heap S (eI val i)->
   (∀s',Moved (S::wr) G s s'->(∀j,j<n->knd.is s'.heap (val j).1 (val j).2)->lQ knd byText s'.heap S (eI val n)->R (.ok (.ret .none)) s')->
   codeAny (VE prog w) A (.builtin "set.update.loop" ⟨[.ref S,.ref I],[]⟩) R s:=by
 have nS:S∉wr:=λh=>S5 (W.sub _ h);have up:∀b∈wr,b∈S::wr:=λb hb=>Vc _ hb;have BZ:∀i (s s':Vo),i<=n->St i s->Moved wr G s s'->(∀j,j<n->knd.is s.heap (val j).1 (val j).2)->lQ knd byText s.heap S (eI val i)->lQ knd byText s'.heap S (eI val i):=λi s s' hi st m hk H=>
  H.keep (λo e=>m.heap S o nS e) λx hx=>by
   obtain⟨j,h1,rfl⟩:=kP val i x hx;exact mv i s s' hi st m hk j (by lia)
 intro d
 induction d with
 |zero=>
  intro i s hd hi st hk H q;obtain rfl:i=n:=by lia
  refine Yn F.entry_set_update_loop ?_;rw[XT Zc _];show Vs _ A.in1 (ZD (Value.ref I) >>= _) _ _ s;refine U3 (W.done s _ _ st λs' m=>?_);exact U6 (q s' (m.mono up) (mv i s s' hi st m hk) (BZ i s s' hi st m hk H))
 |succ d ih=>
  intro i s hd hi st hk H q;have lt:i<n:=by lia
  refine Yn F.entry_set_update_loop ?_;rw[XT Zc _];show Vs _ A.in1 (ZD (Value.ref I) >>= _) _ _ s;refine U3 (W.item i s _ _ lt st λv s1 hP yL m=>?_);obtain rfl:=RT i v hP;have H1:=BZ i s s1 hi st m hk H;have As:=mv i s s1 hi st m hk;show Vs _ A.in1 (holding [Value.ref (val i).2] (setAdd S (Value.ref (val i).2)) >>= _) _ _ s1;refine U3 (WA ?_);unfold setAdd;refine WA (U3 (knd.pyHash hr (As i lt) ?_));refine Lx (s:={s1 with toks:=s1.toks+knd.draws (val i).1}) sk hr (As i lt) H1 (by have:=xG val hi;lia) λh' r sb H2=>?_;obtain⟨oS,eS,epS,tS,gS,dS⟩:=H1.setAt;have Pm:∀j,j<n->knd.is h' (val j).1 (val j).2:=λj hj=>sk.kept (As j hj) gS dS sb;refine U6 ⟨plainId_quiet Zc _,ih (i+1) _ (by lia) lt (W.frame _ s1 _ _ yL (WK _ _) λb hb o e=>?_) Pm H2 λs2 m2 T8 H3=>?_⟩
  ·rw[sb.2 b (λz:b=S=>S5 (by rw[←z];exact hb))];exact e
  ·refine q s2 (Moved.trans W.gtrans ((m.mono up).then_heap (WK _ _) λb o hb e=>?_) m2) T8 H3;rw[sb.2 b (λz:b=S=>hb (by rw[z];exact U8))];exact e
end
end Hc.Sx
namespace Hc.Sx
open PySem.SetTable
noncomputable abbrev yR (w:Ya):Bool:=w.params.followText "set-order"
noncomputable abbrev newS (w:Ya):Obj:={cls:=.type "set",dict:=none,data:=.set #[] 0 (.fresh 0 0 (!yR w))}
section
variable {A:VR}
theorem EJ (x:Va)(q:Q (.ref s.heap.objs.size) {s with heap:=s.heap.push (newS w)}):codeAny (VE prog w) A (.call (.builtin "set.__new__") ⟨[.type "set",x],[]⟩) (wants Q E) s:=by
 refine codeAny_of_tree ?_;show Vs _ A.in1 (do checkBuiltinCall "set.__new__" ⟨[Value.type "set",x],[]⟩;again (.builtin "set.__new__" ⟨[Value.type "set",x],[]⟩)) _ _ s;refine U3 (Zo (PySem.F.newCall_set_1 x) (U6 ⟨plainId_quiet PySem.F.plain_set_new _,Yn PySem.F.entry_set_new ?_⟩));rw[XT PySem.F.plain_set_new _];unfold Builtin.«set.__new__» Builtin.Frozenset.newClass;have sb:=sub_set_self;obtain⟨hp,g,d,tk,os⟩:=s;dsimp only;wp_walk;refine Xi (U6 ?_);dsimp only;simp only[newObj];exact U3 (wpAny_alloc (U6 (U6 q)))
theorem set_call {t:Vr}(R:Vo->Prop)(fill:Vs (VE prog w) A.in1.in1 (Builtin.«set.__init__» ⟨[.ref s.heap.objs.size,.ref t],[]⟩) (λfin s'=>∃r,fin=.done (.ret r)/\r=.none/\R s') E {s with heap:=s.heap.push (newS w)})(q:∀s',R s'->Q (.ref s.heap.objs.size) s'):Vs (VE prog w) A (call (.type "set") [.ref t]) Q E s:=by
 obtain⟨c0,tl0,mro0⟩:=PySem.F.called_set.mro;have UY:=PySem.F.called_set.made;have UZ:=PySem.F.called_set.sub;have U0:=PySem.F.called_set.notType;have U1:=PySem.F.called_set.canCreate;have U2:=PySem.F.typeCall_set_1 (Value.ref t);refine wpAny_call (codeAny_of_tree ?_);show Vs _ _ (callAny (Value.type "set") _) _ _ _;refine U6 ⟨Code.quiet_builtin _ (by decide+kernel),Yn PySem.F.entry_type_call ?_⟩;rw[Around.under_plain (weight_type_call_type "set" [Value.ref t] []) rfl]
 repeat (any_goals first|assumption|wp_step)
 refine Z8 (EJ (Value.ref t) (E:=E) (Q:=λx s1=>x=.ref s.heap.objs.size/\s1={s with heap:=s.heap.push (newS w)}) ⟨rfl,rfl⟩) λr s1 hr=>?_;cases r with
 |error e=>exact hr
 |ok fl=>
  cases fl with
  |ret ob=>
   obtain⟨rfl,rfl⟩:=hr;have gS:(s.heap.push (newS w)).get? s.heap.objs.size=some (newS w):=Vj _ rfl;have tS:Shared.TypeIs {s with heap:=s.heap.push (newS w)} (.ref s.heap.objs.size) "set":=⟨_,gS,rfl⟩;have il:=PySem.F.called_set.init.lookup;have ib:=PySem.F.called_set.init.bind (Value.ref s.heap.objs.size)
   repeat (any_goals first|assumption|wp_step)
   refine Z8 (codeAny_call_builtin (R:=wants (λr s2=>r=.none/\R s2) E) PySem.F.called_set.init.plain PySem.F.entry_set_init (check_set_init_1 tS ?_)) λr2 s2 fA=>?_
   ·exact Wm fill (λfin s' ⟨r,e,h1,h2⟩=>by subst e;exact⟨h1,h2⟩) (λe s' h=>h)
   ·cases r2 with
    |error e=>exact fA
    |ok f2=>
     cases f2 with
     |ret r=>
      obtain⟨rfl,h2⟩:=fA
      repeat (any_goals first|assumption|wp_step)
      exact q _ h2
     |_=>exact fA.elim
  |_=>exact hr.elim
variable {K:Type}[DecidableEq K]{knd:Y9 prog w K}
theorem xH {l:Vr}{its:Array Va}(sk:oG knd)(mono:∀{h h':XI} {k:K} {a:Vr},knd.is h k a->(∀b its,h.IsTuple b its->h'.IsTuple b its)->knd.is h' k a)(hr:knd.room A.in1.in1.in1)(hh:A.handled=none)(hl:s.heap.IsList l its)(val:Nat->K×Vr)(hv:∀(i:Nat) (v:Va),its[i]? = some v->v=.ref (val i).2)(hk:∀j,j<its.size->knd.is s.heap (val j).1 (val j).2)(hb:(eI val its.size).length+1<=2047)(q:∀(h':XI) (tk:Nat),lQ knd (yR w) h' s.heap.objs.size (eI val its.size)->(∀b o,s.heap.get? b=some o->h'.get? b=some o)->Q (.ref s.heap.objs.size) {s with heap:=h',toks:=tk}) :
  Vs (VE prog w) A (call (.type "set") [.ref l]) Q E s:=by
 refine set_call (λs'=>∃h' tk,s'={s with heap:=h',toks:=tk}/\lQ knd (yR w) h' s.heap.objs.size (eI val its.size)/\∀b o,s.heap.get? b=some o->h'.get? b=some o) ?_ λs' ⟨h',tk,e,h1,h2⟩=>by subst e;exact q h' tk h1 h2
 obtain⟨ot,gt,ct,nt,dt⟩:=hl;obtain⟨oc,od,oda,os⟩:=ot;simp only at ct dt;subst ct;subst dt;have RU:(s.heap.push (newS w)).get? l=some {cls:=.type "list",dict:=od,data:=.seq its nt,slots:=os}:=U5 _ gt;have gS:(s.heap.push (newS w)).get? s.heap.objs.size=some (newS w):=Vj _ rfl;have n1:=PySem.F.sub_list_set;have n2:=PySem.F.sub_list_frozenset;have n3:(Value.type "list"==Value.type "dict")=false:=by decide
 have Pn:(s.heap.push (newS w)).IsList l its:=⟨_,RU,rfl,nt,rfl⟩;unfold Builtin.«set.__init__» noKeywords ZI;generalize ePI:pyIter=PI;wp_walk;subst ePI;refine aar Pn ?_;refine U3 (wpAny_runValue ?_);have lt:l<s.heap.objs.size:=Vl gt;have h3:A.in1.in1.in1.handled=none:=by simp[hh]
 have RV:l≠(s.heap.push (newS w)).objs.size:=by rw[Wo];exact VB (Xa lt)
 have ni:s.heap.objs.size∉[(s.heap.push (newS w)).objs.size,l]:=by
  rw[Wo];simp only[Vk,W2,or_false,not_or];exact⟨VB (YK _),Yf lt⟩
 have S6:∀(h:XI) (o:Obj) b its,h.IsTuple b its->(h.push o).IsTuple b its:=λh o b its x=>x.push o;refine Cw (byText:=yR w) sk hr ((Walks.list h3 _ l RV its).toS) s.heap.objs.size ni val hv hb (λi u u' _ st m ks j hj=>?_) (its.size-0) 0 _ (by lia) (Wt _) ⟨⟨_,Vj _ rfl,rfl,rfl⟩,Pn.push _⟩ (λj hj=>mono (hk j hj) λb i2 x=>S6 _ _ _ _ (S6 _ _ _ _ x)) ?z0 ?zR
 ·refine mono (ks j hj) λb i2 ⟨o,e,c,n,d⟩=>⟨o,m.heap b o (λhm=>?_) e,c,n,d⟩;rw[Vu] at hm;subst hm;obtain⟨o2,e2,c2,_⟩:=st.1;rw[e] at e2;cases e2;rw[c] at c2;exact absurd c2 (by decide)
 case z0=>exact EI (by cases yR w<;>simp) (U5 _ gS)
 case zR=>
  intro s' hm _ Km;obtain⟨h',g',d',tk',o'⟩:=s';have eg:g'=s.gens:=hm.gens;have ed:d'=s.drawn:=hm.drawn;have RW:o'=s.os:=hm.os;subst eg;subst ed;subst RW;show Vs _ _ _ _ _ _;refine U6 ?_;show Vs _ _ (ret Value.none) _ _ _;refine U6 ⟨_,rfl,rfl,h',tk',rfl,Km,λb o e=>?_⟩;have Po:=Vl e;refine hm.heap b o ?_ (U5 _ (U5 _ e));rw[Wo];simp only[Vk,W2,or_false,not_or];exact⟨VB Po,VB (Xa Po)⟩
end
end Hc.Sx
namespace L2
noncomputable def oI (ns:List Int):List Int:=ns.foldl step_dedup []
theorem mK (ns:List Int):firstMet (λi=>ns.getD i 0) ns.length=oI ns:=by
 unfold firstMet oI;congr 1;apply List.ext_getElem (by simp);intro i h1 h2;simp[YF,U4 h2]
section
variable {A:VR}
theorem zO {t:Vr}{its:Array Va}(hh:A.handled=none)(ht:s.heap.IsTuple t its)(hi:Xh its.toList ns)(hb:its.size+1<scanBound)(q:∀(h':XI) (tk:Nat) (S:Int->Bool),h'.SetOf (aaj prog w) s.heap.objs.size S (oI ns).length->(∀b o,s.heap.get? b=some o->h'.get? b=some o)->Q (.ref s.heap.objs.size) {s with heap:=h',toks:=tk}) :
  Vs (VE prog w) A (call (.type "set") [.ref t]) Q E s:=by
 have sz:its.size=ns.length:=by have:=hi.length;simpa using this
 refine Hc.Sx.set_call (λs'=>∃h' tk S,s'={s with heap:=h',toks:=tk}/\h'.SetOf (aaj prog w) s.heap.objs.size S (oI ns).length/\∀b o,s.heap.get? b=some o->h'.get? b=some o) ?_ λs' ⟨h',tk,S,e,h1,h2⟩=>by subst e;exact q h' tk S h1 h2
 obtain⟨ot,gt,ct,nt,dt⟩:=ht;obtain⟨oc,od,oda,os⟩:=ot;simp only at ct dt;subst ct;subst dt;have RU:(s.heap.push (Hc.Sx.newS w)).get? t=some {cls:=.type "tuple",dict:=od,data:=.seq its nt,slots:=os}:=U5 _ gt;have gS:(s.heap.push (Hc.Sx.newS w)).get? s.heap.objs.size=some (Hc.Sx.newS w):=Vj _ rfl;have n1:=PySem.F.sub_tuple_set;have n2:=PySem.F.sub_tuple_frozenset;have n3:(Value.type "tuple"==Value.type "dict")=false:=by decide
 have Pn:(s.heap.push (Hc.Sx.newS w)).IsTuple t its:=⟨_,RU,rfl,nt,rfl⟩;unfold Builtin.«set.__init__» noKeywords ZI;generalize ePI:pyIter=PI;wp_walk;subst ePI;refine Y2 Pn ?_;refine U3 (wpAny_runValue ?_);have lt:t<s.heap.objs.size:=Vl gt;have h3:A.in1.in1.in1.handled=none:=by simp[hh]
 have RV:t≠(s.heap.push (Hc.Sx.newS w)).objs.size:=by rw[Wo];exact VB (Xa lt)
 have ni:s.heap.objs.size∉[(s.heap.push (Hc.Sx.newS w)).objs.size,t]:=by
  rw[Wo];simp only[Vk,W2,or_false,not_or];exact⟨VB (YK _),Yf lt⟩
 have vl:∀(i:Nat) (v:Va),its[i]? = some v->∃t,v=.int ((λi=>ns.getD i 0) i) t:=λi v hv=>IntsAre.int_at hi i v (by rw[Vq];exact hv);refine codeAny_set_update_loopS ((Walks.tuple h3 _ t RV its).toS) s.heap.objs.size ni (λi=>ns.getD i 0) vl hb (its.size-0) 0 _ (by lia) (Wt _) ⟨⟨_,Vj _ rfl,rfl,rfl⟩,Pn.push _⟩ ?z0 ?zR
 case z0=>exact SetOf_congr ((setObjOf_fresh (knd:=aaj prog w) _).setOf (U5 _ gS) (by unfold scanBound;lia)) (λ_=>rfl) rfl
 case zR=>
  intro s' hm Km;obtain⟨h',g',d',tk',o'⟩:=s';have eg:g'=s.gens:=hm.gens;have ed:d'=s.drawn:=hm.drawn;have RW:o'=s.os:=hm.os;subst eg;subst ed;subst RW;show Vs _ _ _ _ _ _;refine U6 ?_;show Vs _ _ (ret Value.none) _ _ _;rw[sz,mK] at Km;refine U6 ⟨_,rfl,rfl,h',tk',_,rfl,Km,λb o e=>?_⟩;have Po:=Vl e;refine hm.heap b o ?_ (U5 _ (U5 _ e));rw[Wo];simp only[Vk,W2,or_false,not_or];exact⟨VB Po,VB (Xa Po)⟩
end
section
variable {e:W5}{jY p1 p2:Pos}{b1:Bool}{ga:Ev->R (List U×Ev)}
theorem EK:We "set"=some (.type "set"):=by decide+kernel
def Je (K:U7):List V->Hp->VK->Prop:=λxs H Q=>∃(p:Vr) (ns:List Int),xs=[.ref p]/\fK K H p (ns.map V.int)/\ns.length<64/\∀(l:Vr) (S:Int->Bool),H l=none->Q (.ref l) (cQ H l (.set S (oI ns).length))
theorem EL (ns:List Int):(oI ns).length<=ns.length:=by
 rw[←mK];exact firstMet_length_le _ _
theorem Cy (hc:X.calm=true):eH X (.type "set") (Je X.K):=by
 intro pins s σ H xs us Q I r h;obtain⟨p,ns,rfl,hq,h64,q⟩:=h;obtain⟨u,rfl,rx⟩:=ig r;cases rx;obtain⟨its,rv,pl,hz⟩:=I.tuple hq;have hI:Xh its ns:=de rv;have hl:=hI.length;refine zO (I.ok.hd hc) (its:=its.toArray) pl hI (by unfold scanBound;rw[U_];lia) λh' tk S hS hk=>?_;exact⟨.ref s.heap.objs.size,_,I.laid (a:=s.heap.objs.size) (o:=.set S (oI ns).length) (t':=tk) hk (Vh _) hS,rfl,q _ S (I.hok.fresh (Vh _))⟩
def Jf:List V->Hp->VK->Prop:=λxs H Q=>∃(p:Vr) (S:Int->Bool) (n:Nat),xs=[.ref p]/\H p=some (.set S n)/\n<64/\Q (.int n) H
theorem Cz:eH X (.builtin "len") Jf:=by
 intro pins s σ H xs us Q I r h;obtain⟨p,S,n,rfl,hq,h64,q⟩:=h;obtain⟨u,rfl,rx⟩:=ig r;cases rx;obtain⟨o,es,ep,t,ho,hx,hd,_,_,_,hf,hn⟩:s.heap.SetOf (aaj X.prog X.w) p S n:=I.hok p _ hq;subst hn;exact call_len_set ho hx hd hf (by lia) ⟨.int _,H,I.tok _,⟨_,rfl⟩,q⟩
noncomputable def qa:List U->R U:=λus=>match us with
 | [.tup xs]=>match ik xs with
  |some ns=>if ns.length<64 then .ok (.int (oI ns).length) else .stk
  |none=>.stk
 |_=>.stk
theorem zP:j3 K (λvs H Q=>Je K vs H λx H2=>Jf [x] H2 Q) .S qa:=λA H vs us z Q h mu e q=>by
 unfold qa at e;split at e
 ·rename_i xs;split at e
  ·rename_i ns hb;split at e
   ·rename_i hl;cases e;obtain⟨v,rfl,p⟩:=h.one;unfold Pk at p;obtain⟨a,ys,rfl,h1,l1,r1⟩:=p;rw[gL hb] at r1;rw[r1.toI] at h1;have:=EL ns;exact⟨a,ns,rfl,fK.of h1,hl,λl S hn=>⟨l,S,_,rfl,bI,by lia,q _ _ (cN hn _) (show Rp K _ A _ _ from dN)⟩⟩
   ·cases e
  ·cases e
 ·cases e
theorem CA (hc:X.calm=true)(ha:DA X G [e] b1 true ga)(hg:Gl X "len")(hm:X.mg "len"=none)(Pd:Gl X "set")(RX:X.mg "set"=none)
  (he:Vx [e] X.env=(false,YD e X.env)::Vx [] X.env:=by rfl) (tE:(XR jY (Vx [] X.env)).any (·.1)=false:=by rfl)
  (Pp:Vx [.Call (.Name "set" p2) [e] [] jY] X.env=(false,YD (.Call (.Name "set" p2) [e] [] jY) X.env)::Vx [] X.env:=by rfl) (Gx:(XR pos (Vx [] X.env)).any (·.1)=false:=by rfl) :
  DE X G (.Call (.Name "len" p1) [.Call (.Name "set" p2) [e] [] jY] [] pos) b1 .S (gz qa ga):=⟨(qp Cz hg hm df (ma (je (Cy hc) Pd RX EK ha.un (by decide) (by decide) he tE) qo Pp) (by decide) (by decide) Pp Gx).to λ_ _ _ h=>p0 (p:=true) (zP (K:=X.K)) h⟩
end
theorem xI {xs:List V}{us:List Va}(r:a_ xs us):∀n:Nat,a_ (V2 n xs).flatten (V2 n us).flatten
 |0=>.nil
 |n+1=>by
  rw[WM,WM,VP,VP];exact r.append (xI r n)
theorem A8 {α:Type}(xs:List α)(n:Nat):(V2 n xs).flatten.length=xs.length*n:=by
 simp[Xo]
theorem A9 {H:Hp}{A:Vr->Prop}{us:List U}{xs:List V}(r:aK K H A us xs):∀n:Nat,aK K H A (V2 n us).flatten (V2 n xs).flatten
 |0=>aK.nil
 |n+1=>by
  rw[WM,WM,VP,VP];exact r.append (A9 r n)
@[irreducible] noncomputable def Ly (X:Cx)(G:Gm)(es:List W5)(b p:Bool)(g:Ev->R (List U×Ev)):Prop:=DA X G es b p g
section
variable {e:W5}{es:List W5}{b1 b2 p:Bool}{m1:Md}{g1:Ev->R (U×Ev)}{ga:Ev->R (List U×Ev)}
theorem NZ (h:Ly X G es b1 p ga):DA X G es b1 p ga:=by unfold Ly at h;exact h
theorem mL:Ly X G [] false p ar:=by unfold Ly;exact ai
theorem bb (ha:DE X G e b1 m1 g1)(hr:Ly X G es b2 p ga)(hm:m1=.P->(p=true/\b2=false):=by first|exact λ_=>⟨rfl,rfl⟩|exact λh=>nomatch h)
  (hs:Vx (e::es) X.env=(false,YD e X.env)::Vx es X.env:=by rfl):Ly X G (e::es) (b1||b2) p (af g1 ga):=by
 unfold Ly at hr ⊢;exact ae ha hr hm hs
end
end L2
namespace Hc.Zp
def iT (l:Bool)(h:XI)(a:Vr)(xs:Array Va):Prop:=if l=true then h.IsList a xs else h.IsTuple a xs
def fQ (l:Bool)(h:XI)(it a:Vr)(i:Nat):Prop:=if l=true then h.IsListIter it a i else h.IsTupleIter it a i
noncomputable def CB (l:Bool):String:=if l=true then "list_iterator" else "tuple_iterator"
theorem iT.at {l:Bool}{xs:Array Va}(x:iT l h a xs)(e:∀o,h.get? a=some o->h'.get? a=some o):iT l h' a xs:=by
 cases l with
 |true=>exact Heap.IsList.at x e
 |false=>exact Heap.IsTuple.at x e
theorem fQ.at {l:Bool}(x:fQ l h it a i)(e:∀o,h.get? it=some o->h'.get? it=some o):fQ l h' it a i:=by
 cases l with
 |true=>exact Heap.IsListIter.at x e
 |false=>exact Heap.IsTupleIter.at x e
theorem fQ.obj {l:Bool}(x:fQ l h it a i):∃o,h.get? it=some o/\o.data=.fields #[.ref a,.int i 0]/\o.cls=.type (CB l):=by
 cases l with
 |true=>obtain⟨o,e,c,d⟩:=x;exact⟨o,e,d,c⟩
 |false=>obtain⟨o,e,c,d⟩:=x;exact⟨o,e,d,c⟩
section
variable {A:VR}
theorem zQ {xs:Array Va}{x:Va}(hi:s.heap.IsTupleIter it a i)(ha:s.heap.IsTuple a xs)(hx:xs[i]? = some x)(q:∀h',h'.IsTupleIter it a (i+1)->Xe it s.heap h'->Q x {s with heap:=h'}):Vs (VE prog w) A (VT (.ref it)) Q E s:=by
 obtain⟨o,ho,hc,hd⟩:=id hi;obtain⟨oa,hoa,_,na,hda⟩:=ha;unfold VT;refine U3 (V1 (name:=Xf "__next__") hi.typeIs Xz (VY Xz hi.typeIs ZT ?_ (ZJ _)));show Vs _ _ (field (Value.ref it) 0 >>= _) _ _ s;refine U3 (WR ho hd (x:=.ref a) rfl ?_);show Vs _ _ (if (Value.ref a==Value.none)=true then _ else _) _ _ s;rw[hU (show ¬((Value.ref a==Value.none)=true) from Vb)];show Vs _ _ (field (Value.ref it) 1 >>= _) _ _ s;refine U3 (WR ho hd (x:=.int i 0) rfl ?_);show Vs _ _ (seqItems? (Value.ref a) >>= _) _ _ s;refine U3 (Xn hoa hda ?_);simp only[WD,hx];refine U3 (Yd ho hd (by simp) (U6 ⟨x,rfl,U6 (q _ ⟨_,WQ _ ho (Yo (WU hd _)),(Zq ..).trans hc,?_⟩ (Wh ..))⟩));rw[WU hd];simp[Z5]
theorem CC {xs:Array Va}(hh:A.handled=none)(hi:s.heap.IsTupleIter it a i)(ha:s.heap.IsTuple a xs)(hx:xs[i]? = none)(q:∀h' e,Heap.ExtBut it s.heap h'->(∃o,h'.get? e=some o/\o.cls=.type "StopIteration")->E (.ref e) {s with heap:=h'}):Vs (VE prog w) A (VT (.ref it)) Q E s:=by
 obtain⟨o,ho,hc,hd⟩:=id hi;obtain⟨oa,hoa,_,na,hda⟩:=ha;unfold VT;refine U3 (V1 (name:=Xf "__next__") hi.typeIs Xz (VY Xz hi.typeIs ZT ?_ (ZJ _)));show Vs _ _ (field (Value.ref it) 0 >>= _) _ _ s;refine U3 (WR ho hd (x:=.ref a) rfl ?_);show Vs _ _ (if (Value.ref a==Value.none)=true then _ else _) _ _ s;rw[hU (show ¬((Value.ref a==Value.none)=true) from Vb)];show Vs _ _ (field (Value.ref it) 1 >>= _) _ _ s;refine U3 (WR ho hd (x:=.int i 0) rfl ?_);show Vs _ _ (seqItems? (Value.ref a) >>= _) _ _ s;refine U3 (Xn hoa hda ?_);simp only[WD,hx];refine U3 (Xq (U3 (Yd ho hd (by simp) ?_)));show Vs _ _ (newExc (Value.type "StopIteration") [] >>= _) _ _ _;refine U3 ?_;simp only[newExc,newTuple];refine U3 (VX ?_ (by size_fits));refine U3 (m:=YG _ _) (Zo (a:=Value.none) (by first|rfl|(simp only[YG];rfl)) ?_);refine VX ?_ (by size_fits);simp only[raiseNew];refine U3 (wpAny_handled ?_)
 first|rw[show A.in1.handled=none from hh]|rw[hh]
 exact U3 (U6 (wpAny_throw (q _ _ (((Wh ..).extBut.push _).push _) ⟨_,Vj _ rfl,rfl⟩)))
theorem nQ {l:Bool}{xs:Array Va}{x:Va}(hi:fQ l s.heap it a i)(ha:iT l s.heap a xs)(hx:xs[i]? = some x)(q:∀h',fQ l h' it a (i+1)->Xe it s.heap h'->Q x {s with heap:=h'}):Vs (VE prog w) A (VT (.ref it)) Q E s:=by
 cases l with
 |true=>exact wpAny_nextOf_list_item hi ha hx q
 |false=>exact zQ hi ha hx q
theorem xJ {l:Bool}{xs:Array Va}(hh:A.handled=none)(hi:fQ l s.heap it a i)(ha:iT l s.heap a xs)(hx:xs[i]? = none)(q:∀h' e,Heap.ExtBut it s.heap h'->(∃o,h'.get? e=some o/\o.cls=.type "StopIteration")->E (.ref e) {s with heap:=h'}):Vs (VE prog w) A (VT (.ref it)) Q E s:=by
 cases l with
 |true=>exact wpAny_nextOf_list_end hh hi ha hx q
 |false=>exact CC hh hi ha hx q
theorem A_ {l:Bool}{xs:Array Va}(ha:iT l s.heap a xs)(q:Q (.ref s.heap.objs.size) {s with heap:=s.heap.push {cls:=.type (CB l),data:=.fields #[.ref a,.int 0 0]}}):Vs (VE prog w) A (pyIter (.ref a)) Q E s:=by
 cases l with
 |true=>exact aar ha q
 |false=>exact Y2 ha q
theorem CD {TI TO:Vr}{xs:Array Va}{x y p:Va}(D:ZipApart z TI TO i1 i2 a1 a2)(hz:IsZip s.heap z TI TO .none)(MD:YB s.heap TI (.ref i1) (.ref i2))(ME:YB s.heap TO p q)(h1:fQ l1 s.heap i1 a1 k)(h2:fQ l2 s.heap i2 a2 k)(g1:iT l1 s.heap a1 xs)(g2:iT l2 s.heap a2 ys)(hx:xs[k]? = some x)(hy:ys[k]? = some y)(hQ:∀h',IsZip h' z TI TO (Z5 s.heap.objs.size)->YB h' TO x y->fQ l1 h' i1 a1 (k+1)->fQ l2 h' i2 a2 (k+1)->YB h' s.heap.objs.size x y->(∀c o,c≠z->c≠TO->c≠i1->c≠i2->s.heap.get? c=some o->h'.get? c=some o)->Q (.ref s.heap.objs.size) {s with heap:=h'}) :
  Vs (VE prog w) A (Builtin.«zip.__next__» ⟨[.ref z],[]⟩) (λfin s'=>∃v,fin=.done (.ret v)/\Q v s') E s:=by
 show Vs _ _ (field (Value.ref z) 2 >>= _) _ _ _;refine U3 (WR hz rfl (x:=.bool false) rfl ?_);show Vs _ _ (field (Value.ref z) 3 >>= _) _ _ _;refine U3 (WR hz rfl (x:=.ref TI) rfl (U3 (Xn MD rfl ?_)));show Vs _ _ (WN (Value.ref z) >>= _) _ _ _;refine U3 ?_;unfold WN;refine U3 (WR hz rfl (x:=.none) rfl (U6 ?_));simp only[if_true];refine U3 (Xq (U3 (WR hz rfl (x:=.ref TO) rfl (U3 (XF hz (by simp) λw1 z1 b1=>?_)))))
 replace z1:IsZip w1 z TI TO .ellipsis:=z1
 refine U3 ?_;simp only[List.zipIdx_cons,List.zipIdx_nil,Y7,List.forIn_nil];refine U3 (U3 (wpAny_onRaise ?_));show Vs _ _ (VT (Value.ref i1) >>= _) _ _ _;refine U3 (nQ (h1.at λo e=>b1.extBut _ _ D.i1z e) (g1.at λo e=>b1.extBut _ _ D.l1z e) hx λw2 n2 b2=>U6 ?_);have t2:YB w2 TO p q:=b2.extBut _ _ D.TOi1 (b1.extBut _ _ D.TOz ME);refine U3 (Xn t2 rfl (U3 (ZE t2 λw3 t3 b3=>?_)))
 replace t3:YB w3 TO x q:=t3
 refine U3 (wpAny_letGo (U6 ?_));refine U3 (U3 (wpAny_onRaise ?_));show Vs _ _ (VT (Value.ref i2) >>= _) _ _ _;refine U3 (nQ (h2.at λo e=>b3.extBut _ _ D.TOi2.symm (b2.extBut _ _ D.i12.symm (b1.extBut _ _ D.i2z e))) (g2.at λo e=>b3.extBut _ _ D.l2TO (b2.extBut _ _ D.l2i1 (b1.extBut _ _ D.l2z e))) hy λw4 n4 b4=>U6 ?_);have t4:YB w4 TO x q:=b4.extBut _ _ D.TOi2 t3;refine U3 (Xn t4 rfl (U3 (ZE t4 λw5 t5 b5=>?_)))
 replace t5:YB w5 TO x y:=t5
 refine U3 (wpAny_letGo (U6 (U6 ?_)));refine U3 (Xn t5 rfl (U3 (wpAny_newTuple ?_)));have sz:w5.objs.size=s.heap.objs.size:=by rw[b5.1,b4.1,b3.1,b2.1,b1.1]
 have z5:IsZip w5 z TI TO .ellipsis:=b5.extBut _ _ D.TOz.symm (b4.extBut _ _ D.i2z.symm (b3.extBut _ _ D.TOz.symm (b2.extBut _ _ D.i1z.symm z1)));have kp:∀c o,c≠z->c≠TO->c≠i1->c≠i2->s.heap.get? c=some o->w5.get? c=some o:=λc o c1 c2 c3 c4 e=>b5.extBut _ _ c2 (b4.extBut _ _ c4 (b3.extBut _ _ c2 (b2.extBut _ _ c3 (b1.extBut _ _ c1 e))));have n5:fQ l1 w5 i1 a1 (k+1):=n2.at λo e=>b5.extBut _ _ D.TOi1.symm (b4.extBut _ _ D.i12 (b3.extBut _ _ D.TOi1.symm e));have m5:fQ l2 w5 i2 a2 (k+1):=n4.at λo e=>b5.extBut _ _ D.TOi2.symm e;have lz:z<w5.objs.size:=Vl z5;show Vs _ _ (YH (Value.ref z) (Value.ref w5.objs.size) >>= _) _ _ _;refine U3 ?_;unfold YH;have z6:IsZip (w5.push {cls:=.type "tuple",data:=.seq #[x,y]}) z TI TO .ellipsis:=U5 _ z5;refine U3 (XF z6 (by simp) λw7 z7 b7=>?_)
 replace z7:IsZip w7 z TI TO (Z5 w5.objs.size):=z7
 refine XF z7 (by simp) λw8 z8 b8=>?_
 replace z8:IsZip w8 z TI TO (Z5 w5.objs.size):=z8
 have up:∀c o,c≠z->w5.get? c=some o->w8.get? c=some o:=λc o c1 e=>b8.extBut _ _ c1 (b7.extBut _ _ c1 (U5 _ e));have t8:YB w8 w5.objs.size x y:=b8.extBut _ _ (Yf lz) (b7.extBut _ _ (Yf lz) (Vj _ rfl));rw[sz] at z8 t8;refine U6 ⟨_,rfl,?_⟩;show Q (.ref w5.objs.size) _;rw[sz];exact hQ w8 z8 (up _ _ D.TOz t5) (n5.at λo e=>up _ o D.i1z e) (m5.at λo e=>up _ o D.i2z e) t8 λc o c1 c2 c3 c4 e=>up c o c1 (kp c o c1 c2 c3 c4 e)
theorem EM {TI TO:Vr}{xs:Array Va}{p:Va}{Q:Fin->Vo->Prop}(hh:A.handled=none)(D:ZipApart z TI TO i1 i2 a1 a2)(hz:IsZip s.heap z TI TO .none)(MD:YB s.heap TI (.ref i1) (.ref i2))(ME:YB s.heap TO p q)(h1:fQ l1 s.heap i1 a1 k)(h2:fQ l2 s.heap i2 a2 k)(g1:iT l1 s.heap a1 xs)(g2:iT l2 s.heap a2 ys)(MF:xs[k]? = none\/ys[k]? = none)(hE:∀h' e,(∀c o,c≠z->c≠TO->c≠i1->c≠i2->s.heap.get? c=some o->h'.get? c=some o)->(∃o,h'.get? e=some o/\o.cls=.type "StopIteration")->E (.ref e) {s with heap:=h'}) :
  Vs (VE prog w) A (Builtin.«zip.__next__» ⟨[.ref z],[]⟩) Q E s:=by
 show Vs _ _ (field (Value.ref z) 2 >>= _) _ _ _;refine U3 (WR hz rfl (x:=.bool false) rfl ?_);show Vs _ _ (field (Value.ref z) 3 >>= _) _ _ _;refine U3 (WR hz rfl (x:=.ref TI) rfl (U3 (Xn MD rfl ?_)));show Vs _ _ (WN (Value.ref z) >>= _) _ _ _;refine U3 ?_;unfold WN;refine U3 (WR hz rfl (x:=.none) rfl (U6 ?_));simp only[if_true];refine U3 (Xq (U3 (WR hz rfl (x:=.ref TO) rfl (U3 (XF hz (by simp) λw1 z1 b1=>?_)))))
 replace z1:IsZip w1 z TI TO .ellipsis:=z1
 refine U3 ?_;simp only[List.zipIdx_cons,List.zipIdx_nil,Y7,List.forIn_nil];refine U3 (U3 (wpAny_onRaise ?_));show Vs _ _ (VT (Value.ref i1) >>= _) _ _ _;cases hx:xs[k]? with
 |none=>
  refine U3 (xJ hh (h1.at λo e=>b1.extBut _ _ D.i1z e) (g1.at λo e=>b1.extBut _ _ D.l1z e) hx λw2 e b2 he=>?_);obtain⟨oe,hoe,hce⟩:=he;have z2:IsZip w2 z TI TO .ellipsis:=b2 _ _ D.i1z.symm z1;have nz:e≠z:=λx=>by subst x;rw[z2] at hoe;cases hoe;simp at hce
  exact XF z2 (by simp) λw3 _ b3=>hE w3 e (λc o c1 _ c3 _ x=>b3.extBut _ _ c1 (b2 _ _ c3 (b1.extBut _ _ c1 x))) ⟨oe,b3.extBut _ _ nz hoe,hce⟩
 |some x=>
  have hy:ys[k]? = none:=by rcases MF with h|h;rw[hx] at h;cases h;exact h
  refine U3 (nQ (h1.at λo e=>b1.extBut _ _ D.i1z e) (g1.at λo e=>b1.extBut _ _ D.l1z e) hx λw2 n2 b2=>U6 ?_);have t2:YB w2 TO p q:=b2.extBut _ _ D.TOi1 (b1.extBut _ _ D.TOz ME);refine U3 (Xn t2 rfl (U3 (ZE t2 λw3 t3 b3=>?_)));refine U3 (wpAny_letGo (U6 ?_));refine U3 (U3 (wpAny_onRaise ?_));show Vs _ _ (VT (Value.ref i2) >>= _) _ _ _;refine U3 (xJ hh (h2.at λo e=>b3.extBut _ _ D.TOi2.symm (b2.extBut _ _ D.i12.symm (b1.extBut _ _ D.i2z e))) (g2.at λo e=>b3.extBut _ _ D.l2TO (b2.extBut _ _ D.l2i1 (b1.extBut _ _ D.l2z e))) hy λw4 e b4 he=>?_);obtain⟨oe,hoe,hce⟩:=he;have z4:IsZip w4 z TI TO .ellipsis:=b4 _ _ D.i2z.symm (b3.extBut _ _ D.TOz.symm (b2.extBut _ _ D.i1z.symm z1));have nz:e≠z:=λx=>by subst x;rw[z4] at hoe;cases hoe;simp at hce
  exact XF z4 (by simp) λw5 _ b5=>hE w5 e (λc o c1 c2 c3 c4 x=>b5.extBut _ _ c1 (b4 _ _ c4 (b3.extBut _ _ c2 (b2.extBut _ _ c3 (b1.extBut _ _ c1 x))))) ⟨oe,b5.extBut _ _ nz hoe,hce⟩
theorem CF {TI TO:Vr}{xs:Array Va}{x y p:Va}{Q:Option Va->Vo->Prop}(D:ZipApart z TI TO i1 i2 a1 a2)(hz:IsZip s.heap z TI TO .none)(MD:YB s.heap TI (.ref i1) (.ref i2))(ME:YB s.heap TO p q)(h1:fQ l1 s.heap i1 a1 k)(h2:fQ l2 s.heap i2 a2 k)(g1:iT l1 s.heap a1 xs)(g2:iT l2 s.heap a2 ys)(hx:xs[k]? = some x)(hy:ys[k]? = some y)(hQ:∀h',IsZip h' z TI TO (Z5 s.heap.objs.size)->YB h' TO x y->fQ l1 h' i1 a1 (k+1)->fQ l2 h' i2 a2 (k+1)->YB h' s.heap.objs.size x y->(∀c o,c≠z->c≠TO->c≠i1->c≠i2->s.heap.get? c=some o->h'.get? c=some o)->Q (some (.ref s.heap.objs.size)) {s with heap:=h'}) :
  Vs (VE prog w) A (ZD (.ref z)) Q E s:=by
 have hT:s.TypeIs (.ref z) "zip":=⟨_,hz,rfl⟩;unfold ZD;exact U3 (X9 (V1 (name:=Xf "__next__") hT ZU (VY ZU hT F.entry_zip_next (CD D hz MD ME h1 h2 g1 g2 hx hy λh' c1 c2 c3 c4 c5 c6=>U6 (hQ h' c1 c2 c3 c4 c5 c6)) (F.args_zip_next_1 _))))
theorem CG {TI TO:Vr}{xs:Array Va}{p:Va}{Q:Option Va->Vo->Prop}(hh:A.handled=none)(D:ZipApart z TI TO i1 i2 a1 a2)(hz:IsZip s.heap z TI TO .none)(MD:YB s.heap TI (.ref i1) (.ref i2))(ME:YB s.heap TO p q)(h1:fQ l1 s.heap i1 a1 k)(h2:fQ l2 s.heap i2 a2 k)(g1:iT l1 s.heap a1 xs)(g2:iT l2 s.heap a2 ys)(MF:xs[k]? = none\/ys[k]? = none)(hQ:∀h',(∀c o,c≠z->c≠TO->c≠i1->c≠i2->s.heap.get? c=some o->h'.get? c=some o)->Q none {s with heap:=h'}):Vs (VE prog w) A (ZD (.ref z)) Q E s:=by
 have hT:s.TypeIs (.ref z) "zip":=⟨_,hz,rfl⟩;unfold ZD;refine U3 (X9 (V1 (name:=Xf "__next__") hT ZU (VY ZU hT F.entry_zip_next (EM hh D hz MD ME h1 h2 g1 g2 MF λh' e hk ⟨o,ho,hc⟩=>?_) (F.args_zip_next_1 _))));exact U3 (YL (T:="StopIteration") (b:=true) ⟨o,ho,hc⟩ isSubtype_stop (U6 (hQ _ hk)))
end
noncomputable abbrev PJ (l1:Bool)(h:XI)(a1:Vr):XI:=h.push {cls:=.type (CB l1),data:=.fields #[.ref a1,.int 0 0]}
noncomputable abbrev PM (l1 l2:Bool)(h:XI)(a1 a2:Vr):XI:=(PJ l1 h a1).push {cls:=.type (CB l2),data:=.fields #[.ref a2,.int 0 0]}
noncomputable abbrev PN (l1 l2:Bool)(h:XI)(a1 a2:Vr):XI:=(PM l1 l2 h a1 a2).push {cls:=.type "tuple",data:=.seq #[.ref h.objs.size,.ref (PJ l1 h a1).objs.size]}
noncomputable abbrev PQ (l1 l2:Bool)(h:XI)(a1 a2:Vr):XI:=(PN l1 l2 h a1 a2).push {cls:=.type "tuple",data:=.seq #[.none,.none]}
noncomputable abbrev MO (l1 l2:Bool)(h:XI)(a1 a2:Vr):XI:=(PQ l1 l2 h a1 a2).push {cls:=.type "zip",data:=.fields #[.none,.bool false,.bool false,.ref (PM l1 l2 h a1 a2).objs.size,.ref (PN l1 l2 h a1 a2).objs.size]}
theorem EN (l1 l2:Bool)(a1 a2:Vr)(xs ys:Array Va):Meets (Builtin.«zip.__new__» ⟨[.type "zip",.ref a1,.ref a2],[]⟩) (λ_ R s=>iT l1 s.heap a1 xs/\iT l2 s.heap a2 ys/\R (.ok (.ret (.ref (PQ l1 l2 s.heap a1 a2).objs.size))) {s with heap:=MO l1 l2 s.heap a1 a2}):=
 .of_wp λprog w A R s h=>by
  obtain⟨hp,g,d,tk,os⟩:=s;obtain⟨g1,g2,h⟩:=h;have sb:=sub_zip;have q1:iT l1 (Shared.heap ⟨hp,g,d,tk,os⟩) a1 xs:=g1;have q2:iT l2 (Shared.heap ⟨hp.push {cls:=.type (CB l1),data:=.fields #[.ref a1,.int 0 0]},g,d,tk,os⟩) a2 ys:=g2.at λo e=>U5 _ e;wp_walk using A_ q1,A_ q2;exact⟨_,rfl,h⟩
section
variable {A:VR}
theorem CH {xs:Array Va}(g1:iT l1 s.heap a1 xs)(g2:iT l2 s.heap a2 ys)(h:∀h',IsZip h' (s.heap.objs.size+4) (s.heap.objs.size+2) (s.heap.objs.size+3) .none->YB h' (s.heap.objs.size+2) (.ref s.heap.objs.size) (.ref (s.heap.objs.size+1))->YB h' (s.heap.objs.size+3) .none .none->
   fQ l1 h' s.heap.objs.size a1 0->fQ l2 h' (s.heap.objs.size+1) a2 0->(∀c o,s.heap.get? c=some o->h'.get? c=some o)->Q (.ref (s.heap.objs.size+4)) {s with heap:=h'}):Vs (VE prog w) A (call (.type "zip") [.ref a1,.ref a2]) Q E s:=by
 refine callType_new F.called_zip (by decide) (F.typeCall_zip_2 _ _) (F.newCall_zip_2 _ _) (λobj=>F.args_object_init_3 obj _ _) F.entry_zip_new (EN l1 l2 a1 a2 xs ys) ⟨g1,g2,?_⟩;have z1:(PJ l1 s.heap a1).objs.size=s.heap.objs.size+1:=Wo ..;have z2:(PM l1 l2 s.heap a1 a2).objs.size=s.heap.objs.size+2:=by rw[Wo,z1]
 have z3:(PN l1 l2 s.heap a1 a2).objs.size=s.heap.objs.size+3:=by rw[Wo,z2]
 have z4:(PQ l1 l2 s.heap a1 a2).objs.size=s.heap.objs.size+4:=by rw[Wo,z3]
 have e5:(MO l1 l2 s.heap a1 a2).get? (PQ l1 l2 s.heap a1 a2).objs.size=some _:=Vj _ rfl;have e4:(MO l1 l2 s.heap a1 a2).get? (PN l1 l2 s.heap a1 a2).objs.size=some _:=U5 _ (Vj _ rfl);have e3:(MO l1 l2 s.heap a1 a2).get? (PM l1 l2 s.heap a1 a2).objs.size=some _:=U5 _ (U5 _ (Vj _ rfl));have e2:(MO l1 l2 s.heap a1 a2).get? (PJ l1 s.heap a1).objs.size=some _:=U5 _ (U5 _ (U5 _ (Vj _ rfl)));have e1:(MO l1 l2 s.heap a1 a2).get? s.heap.objs.size=some _:=U5 _ (U5 _ (U5 _ (U5 _ (Vj _ rfl))));show _/\_;rw[z2,z3,z4] at e5;rw[z1,z2] at e3;rw[z3] at e4;rw[z1] at e2;rw[z4];have mk:∀(l:Bool) (hp:XI) (it a:Vr) (_:hp.get? it=some {cls:=.type (CB l),data:=.fields #[.ref a,.int 0 0]}),fQ l hp it a 0:=λl hp it a e=>by
  cases l with
  |true=>exact⟨_,e,rfl,rfl⟩
  |false=>exact⟨_,e,rfl,rfl⟩
 exact⟨⟨_,e5,rfl⟩,h _ e5 e3 e4 (mk l1 _ _ _ e1) (mk l2 _ _ _ e2) λc o x=>U5 _ (U5 _ (U5 _ (U5 _ (U5 _ x))))⟩
end
end Hc.Zp
namespace L2
open Hc.Zp
section
variable {T:Vr}{o:HO}
theorem aI.turnNew {t':Nat}(I:aI X pins σ H s)(hf:∀b∈fp,pB X pins H b)(k:∀b o,b∉fp->s.heap.get? b=some o->h'.get? b=some o)(hT:s.heap.objs.size<=T)(new:dG X.prog X.w (cQ H T o) h' T o) :
  aI X pins σ (cQ H T o) {s with heap:=h',toks:=t'}:=by
 have hn:H T=none:=I.hok.fresh hT;have nf:∀b u,H b=some u->b∉fp:=λb u e z=>by rw[(hf b z).1] at e;cases e
 have nT:∀b u,H b=some u->b≠T:=λb u e z=>by rw[z,hn] at e;cases e
 refine I.step (g':=s.gens) (d':=s.drawn) (ch:=fp) (λb hb=>?_) (λb o _ _ hc e _=>k b o hc e) (λb o _ _ hc e _=>⟨o.slots,k b o hc e⟩) (λb o _ e n=>?_) (λb o hc e=>⟨o,k b o hc e⟩)
  (λb xs e=>?_) (λb o u e=>?_) (λb ps e=>⟨#[],?_⟩) (λm hm=>?_) (λb u e=>?_) I.bare
 ·obtain⟨f0,f1,f2,f3,f4,f5⟩:=hf b hb;exact⟨f3,f1,f4,f5⟩
 ·rw[bg (VB (VO (Vl e) hT))];exact n
 ·rw[bg (nT b _ e)];exact e
 ·rw[bg (nT b _ e)];exact e
 ·rw[bg (nT b _ e),e];simp
 ·obtain⟨o,es,ep,ho,r⟩:=hm;exact⟨o,es,ep,k _ o (λz=>(hf _ z).2.1 rfl) ho,r⟩
 ·by_cases c:b=T
  ·subst c;rw[bI] at e;cases e;exact new
  ·rw[bg c] at e;refine (I.hok b u e).stay (λc v hc q=>k c v ?_ q) (λc q=>by rw[bg (nT c _ q)];exact q) λc xs q=>by rw[bg (nT c _ q)];exact q
   rcases hc with z|z
   ·rw[z];exact nf b u e
   ·exact nf c _ z
theorem aI.turneds {t':Nat}(I:aI X pins σ H s)(hf:∀b∈fp,pB X pins H b)(k:∀b o,b∉fp->s.heap.get? b=some o->h'.get? b=some o):aI X pins σ H {s with heap:=h',toks:=t'}:=by
 have nf:∀b u,H b=some u->b∉fp:=λb u e z=>by rw[(hf b z).1] at e;cases e
 refine I.step (g':=s.gens) (d':=s.drawn) (ch:=fp) (λb hb=>?_) (λb o _ _ hc e _=>k b o hc e) (λb o _ _ hc e _=>⟨o.slots,k b o hc e⟩) (λb o _ e n=>n) (λb o hc e=>⟨o,k b o hc e⟩)
  (λb xs e=>e) (λb o u e=>e) (λb ps e=>⟨#[],by rw[e];simp⟩) (λm hm=>?_) (λb u e=>?_) I.bare
 ·obtain⟨f0,f1,f2,f3,f4,f5⟩:=hf b hb;exact⟨f3,f1,f4,f5⟩
 ·obtain⟨o,es,ep,ho,r⟩:=hm;exact⟨o,es,ep,k _ o (λz=>(hf _ z).2.1 rfl) ho,r⟩
 ·refine (I.hok b u e).stay (λc v hc q=>k c v ?_ q) (λ_ q=>q) λ_ _ q=>q;rcases hc with z|z
  ·rw[z];exact nf b u e
  ·exact nf c _ z
def CI (l:Bool)(K:U7)(H:Hp)(a:Vr)(xs:List V):Prop:=if l=true then fH K H a xs else fK K H a xs
theorem aI.sq {l:Bool}(I:aI X pins σ H s)(q:CI l X.K H a xs):∃its,a_ xs its/\iT l s.heap a its.toArray:=by
 cases l with
 |true=>obtain⟨its,rv,p,_⟩:=I.list q;exact⟨its,rv,p.isList⟩
 |false=>obtain⟨its,rv,p,_⟩:=I.tuple q;exact⟨its,rv,p⟩
theorem aI.sq_inj {l:Bool}{ys:List V}(I:aI X pins σ H s)(q:CI l X.K H a xs)(q':CI l X.K H a ys):xs=ys:=by
 cases l with
 |true=>exact I.list_inj q q'
 |false=>exact I.tuple_inj q q'
end
noncomputable def Sh (K:U7)(l1 l2:Bool)(a1 a2:Vr):It:=
  ⟨λi H=>∃xs ys x y,CI l1 K H a1 xs/\CI l2 K H a2 ys/\xs[i]? = some x/\ys[i]? = some y,
   λi H v H'=>∃T x y,v=.ref T/\H T=none/\H'=cQ H T (.tup [x,y])/\(∀xs,CI l1 K H a1 xs->xs[i]? = some x)/\(∀ys,CI l2 K H a2 ys->ys[i]? = some y),
   λi H=>∃xs ys,CI l1 K H a1 xs/\CI l2 K H a2 ys/\(xs.length<=i\/ys.length<=i)⟩
theorem EO {GA:List W5}{kt:Nat}{tp:Pos}{TI TO:Vr}(D:ZipApart z TI TO i1 i2 a1 a2) :
  B4 P w K (.Tuple GA kt tp) (Sh K l1 l2 a1 a2) [z,TI,TO,i1,i2] z (λi h=>IsZip h z TI TO .none/\YB h TI (.ref i1) (.ref i2)/\(∃p q,YB h TO p q)/\fQ l1 h i1 a1 i/\fQ l2 h i2 a2 i) where
 mem:=by simp
 obj:=λi h ⟨hz,hI,⟨p,q,hO⟩,h1,h2⟩ b hb=>by
  obtain⟨o1,e1,d1,_⟩:=h1.obj;obtain⟨o2,e2,d2,_⟩:=h2.obj;simp only[Vk,YO,or_false] at hb;rcases hb with rfl|rfl|rfl|rfl|rfl
  ·exact⟨_,hz,λv e=>by cases e⟩
  ·exact⟨_,hI,λv e=>by cases e⟩
  ·exact⟨_,hO,λv e=>by cases e⟩
  ·exact⟨o1,e1,λv e=>by rw[d1] at e;cases e⟩
  ·exact⟨o2,e2,λv e=>by rw[d2] at e;cases e⟩
 keep:=λi h h' ⟨hz,hI,⟨p,q,hO⟩,h1,h2⟩ k=>⟨k z (by simp) _ hz,k TI (by simp) _ hI,⟨p,q,k TO (by simp) _ hO⟩,h1.at λo e=>k i1 (by simp) o e,h2.at λo e=>k i2 (by simp) o e⟩
 item:=by
  intro X hP hw hK hc i pins s σ H E I hf st hg;subst hP hw hK;obtain⟨hz,hI,⟨p,q,hO⟩,h1,h2⟩:=st;obtain⟨xs,ys,x,y,q1,q2,hx,hy⟩:=hg;obtain⟨is1,v1,g1⟩:=I.sq q1;obtain⟨is2,v2,g2⟩:=I.sq q2;obtain⟨u1,kE,r1⟩:=v1.get hx;obtain⟨u2,R6,r2⟩:=v2.get hy;obtain⟨o1,e1,_,_⟩:=h1.obj;obtain⟨o2,e2,_,_⟩:=h2.obj;have lz:=Vl hz;have lI:=Vl hI;have lO:=Vl hO;have T9:=Vl e1;have T_:=Vl e2;refine CF D hz hI hO h1 h2 g1 g2 (x:=u1) (y:=u2) (by simpa using kE) (by simpa using R6) λh' c1 c2 c3 c4 c5 kp=>⟨_,rfl,?_⟩;refine wpAny_letOwnedTupleGo_zip c1 λKn z2 sb=>?_;have MB:YB Kn s.heap.objs.size u1 u2:=sb.extBut _ _ (Yf lz) c5;have Ua:∀b o,b∉[z,TI,TO,i1,i2]->s.heap.get? b=some o->Kn.get? b=some o:=λb o hb e=>by
   simp only[Vk,YO,or_false,not_or] at hb;exact sb.extBut _ _ hb.1 (kp b o hb.1 hb.2.2.1 hb.2.2.2.1 hb.2.2.2.2 e)
  have I2:aI X pins σ (cQ H s.heap.objs.size (.tup [x,y])) {s with heap:=Kn}:=I.turnNew (t':=s.toks) hf Ua (Vh _) ⟨by rw[W8];simp,[u1,u2],.cons r1 (.cons r2 .nil),⟨_,MB,rfl,_,rfl⟩,_,MB⟩;have fr:H s.heap.objs.size=none:=I.hok.fresh (Vh _);refine⟨.ref s.heap.objs.size,_,I2,rfl,⟨_,x,y,rfl,fr,rfl,λzs hq=>by rw[I.sq_inj hq q1];exact hx,λzs hq=>by rw[I.sq_inj hq q2];exact hy⟩,⟨z2,?_,⟨u1,u2,?_⟩,?_,?_⟩,λb hb=>?_⟩
  ·exact sb.extBut _ _ D.TIz (kp _ _ D.TIz D.TITO D.TIi1 D.TIi2 hI)
  ·exact sb.extBut _ _ D.TOz c2
  ·exact c3.at λo e=>sb.extBut _ _ D.i1z e
  ·exact c4.at λo e=>sb.extBut _ _ D.i2z e
  ·have hn:b≠s.heap.objs.size:=by
    simp only[Vk,YO,or_false] at hb;rcases hb with rfl|rfl|rfl|rfl|rfl
    ·exact VB lz
    ·exact VB lI
    ·exact VB lO
    ·exact VB T9
    ·exact VB T_
   rw[bg hn];exact (hf b hb).1
 done:=by
  intro X hP hw hK hc i pins s σ H E I hf st hg;subst hP hw hK;obtain⟨hz,hI,⟨p,q,hO⟩,h1,h2⟩:=st;obtain⟨xs,ys,q1,q2,he⟩:=hg;obtain⟨is1,v1,g1⟩:=I.sq q1;obtain⟨is2,v2,g2⟩:=I.sq q2;have n1:=v1.length;have n2:=v2.length;refine CG (I.ok.hd hc) D hz hI hO h1 h2 g1 g2 (by
   rcases he with he|he
   ·exact .inl (by simp;lia)
   ·exact .inr (by simp;lia)) λh' kp=>⟨rfl,I.turneds (t':=s.toks) hf λb o hb e=>?_⟩
  simp only[Vk,YO,or_false,not_or] at hb;exact kp b o hb.1 hb.2.2.1 hb.2.2.2.1 hb.2.2.2.2 e
 self:=λ_ _ _ _ _ st h=>wpAny_pyIter_zip st.1 h
section
variable {GA:List W5}{kt:Nat}{tp p:Pos}{a b:W5}
theorem Lz:We "zip"=some (.type "zip"):=by decide+kernel
def QQ (K:U7)(ta:TA):TI:=λσ H R=>ta σ H λvs H1=>∃l1 l2 a1 a2 xs ys,vs=[.ref a1,.ref a2]/\CI l1 K H1 a1 xs/\CI l2 K H1 a2 ys/\R (Sh K l1 l2 a1 a2) H1
theorem LA {ta:TA}(hg:Gl X "zip")(hm:X.mg "zip"=none)(ha:PA X [a,b] ta)(hs:Vx [a,b] X.env=[(false,YD a X.env),(false,YD b X.env)]:=by rfl)(cK:Vx [b] X.env=[(false,YD b X.env)]:=by rfl) :
  PI X (.Tuple GA kt tp) (.Call (.Name "zip" p) [a,b] [] pos) (QQ X.K ta):=by
 intro pins s σ H R I h;refine Call_ (vj I hg hm Lz (Yg (ez (ha pos pins s σ H _ I h) λus s1 ⟨vs,H1,I1,r1,q1⟩=>?_) (by rw[hs,cK]) (by rw[cK];rfl)));obtain⟨l1,l2,a1,a2,xs,ys,rfl,g1,g2,q⟩:=q1;cases r1 with
 |cons r rr=>
  cases rr with
  |cons r' rr=>
   cases rr;cases r;cases r';obtain⟨is1,v1,m1⟩:=I1.sq g1;obtain⟨is2,v2,m2⟩:=I1.sq g2;have lt:∀(l:Bool) (c:Vr) (zs:Array Va),iT l s1.heap c zs->c<s1.heap.objs.size:=λl c zs hq=>by
    cases l with
    |true=>obtain⟨_,e,_⟩:=hq;exact Vl e
    |false=>obtain⟨_,e,_⟩:=hq;exact Vl e
   refine CH m1 m2 λh' z1 z2 z3 z4 z5 kp=>wpAny_pyIter_zip z1 ?_;refine⟨_,[s1.heap.objs.size+4,s1.heap.objs.size+2,s1.heap.objs.size+3,s1.heap.objs.size,s1.heap.objs.size+1],_,_,H1,rfl,I1.kept (t':=s1.toks) λb o e=>kp b o e,EO (zipApart_new (lt l1 a1 _ m1) (lt l2 a2 _ m2)),⟨z1,z2,⟨_,_,z3⟩,z4,z5⟩,λb hb=>?_,q⟩;have hb:s1.heap.objs.size<=b:=by
    simp only[Vk,YO,or_false] at hb;rcases hb with rfl|rfl|rfl|rfl|rfl
    ·exact WK _ _
    ·exact WK _ _
    ·exact WK _ _
    ·exact Vh _
    ·exact WK _ _
   exact I1.fpOk hb (I1.hok.fresh hb)
end
noncomputable def HM:U->Option (List U)
 | .lst us=>some us
 | .tup us=>some us
 |_=>none
noncomputable def CJ (ga:Ev->R (List U×Ev)):Ev->R (List U×Ev):=λρ=>(ga ρ).bind λx=>match x.1 with
 | [u,w]=>match HM u,HM w with
  |some us,some ws=>.ok (YX (λa b=>.tup [a,b]) us ws,x.2)
  |_,_=>.stk
 |_=>.stk
section
variable {GA:List W5}{kt:Nat}{tp p1:Pos}{a b:W5}{b1:Bool}{ga:Ev->R (List U×Ev)}
theorem ER (e:HM u=some us)(h:Rp K H A u v):∃l a xs,v=.ref a/\us.length<=Vf/\aK K H A us xs/\CI l K H a xs/\∀H',eT A H H'->(∀b,A b->Mu (H b))->CI l K H' a xs:=by
 unfold HM at e;split at e;rotate_right
 ·cases e
 rotate_left
 ·cases e;unfold Rp at h;obtain⟨a,xs,rfl,q,l,z⟩:=h;exact⟨false,a,xs,rfl,l,z,fK.of q,λH' x mu=>fK.of (x a _ (λy=>by have:=mu a y;rw[q] at this;exact this) q)⟩
 ·cases e;unfold Rp at h;obtain⟨a,xs,rfl,na,q,l,z⟩:=h;exact⟨true,a,xs,rfl,l,z,fH.of q,λH' x mu=>fH.of (x a _ na q)⟩
theorem zS (ha:DA X G [a,b] b1 false ga)(hm:X.mg "zip"=none)(hg:Gl X "zip":=by rfl)(hs:Vx [a,b] X.env=[(false,YD a X.env),(false,YD b X.env)]:=by rfl)(cK:Vx [b] X.env=[(false,YD b X.env)]:=by rfl) :
  DI X G (.Tuple GA kt tp) (.Call (.Name "zip" p1) [a,b] [] pos) b1 false (CJ ga):=⟨(LA hg hm ha.un hs cK).to λσ H RR h00=>by
 obtain⟨Z,A,ρ,q,f⟩:=h00;unfold CJ at f;cases e1:ga ρ with
 |stk=>rw[e1] at f;exact f.elim
 |exc=>rw[e1] at f;exact f.elim
 |ok y=>
  obtain⟨us,ρ1⟩:=y;rw[e1] at f;dsimp only[L2.R.bind] at f;refine⟨Z,A,ρ,q,?_⟩;rw[e1];intro vs H1 q1 x1 s1 vm;split at f
  ·rename_i T3 ρ' e2;split at e2
   ·rename_i u w';split at e2
    ·rename_i as bs ea eb;cases e2;have r:=vm.rps;unfold aK at r;obtain⟨v,vr,rfl,r1,r2⟩:=r;unfold aK at r2;obtain⟨v',vr',rfl,r3,r4⟩:=r2;unfold aK at r4;subst r4;obtain⟨l1,a1,xs,rfl,n1,z1,k1,yL⟩:=ER ea r1;obtain⟨l2,a2,ys,rfl,n2,z2,k2,kY⟩:=ER eb r3;refine⟨l1,l2,a1,a2,xs,ys,rfl,k1,k2,f _ H1 q1 x1 s1 ⟨?_,λH2 A' hx Au=>?_⟩⟩
     ·rw[ZV];exact Wa (Nat.min_le_left _ _) n1
     ·rw[hU Vb] at hx;have RY:=yL H2 hx q1.mu;have RZ:=kY H2 hx q1.mu;have w1:=z1.re q1.mu hx Au;have w2:=z2.re q1.mu hx Au;refine⟨λi u hu=>?_,⟨xs,ys,RY,RZ,?_⟩⟩
      ·rw[List.getElem?_zipWith] at hu;cases hA:as[i]? with
       |none=>rw[hA] at hu;cases hu
       |some ua=>cases hB:bs[i]? with
        |none=>rw[hA,hB] at hu;cases hu
        |some ub=>
         rw[hA,hB] at hu;cases hu;obtain⟨x,hx1,px⟩:=w1.get hA;obtain⟨y,hy1,py⟩:=w2.get hB;refine⟨⟨xs,ys,x,y,RY,RZ,hx1,hy1⟩,λx' H' yl=>?_⟩;obtain⟨T,x2,y2,rfl,hT,rfl,g1,g2⟩:=yl;have ex:x2=x:=by have:=g1 xs RY;rw[hx1] at this;cases this;rfl
         have ey:y2=y:=by have:=g2 ys RZ;rw[hy1] at this;cases this;rfl
         subst ex ey;have sm:=cN hT (.tup [x2,y2]);refine⟨sm,?_⟩;unfold Rp;exact⟨T,_,rfl,bI,by have:Vf=16777216:=rfl;rw[this];simp,aK.cons (px.same sm) (aK.cons (py.same sm) aK.nil)⟩
      ·rw[ZV,←z1.length,←z2.length];rcases Nat.le_total as.length bs.length with z|z
       ·exact .inl (by rw[Yp z];exact Vh _)
       ·exact .inr (by rw[Nat.min_eq_right z];exact Vh _)
    ·cases e2
   ·cases e2
  ·exact f.elim⟩
end
end L2
namespace L2
section
variable {e:W5}{p1 p2 p3 p4:Pos}{b1:Bool}{m1 m:Md}{g1:Ev->R (U×Ev)}{v:Option W5}{w:Option W5}
theorem LB {g:Ev->SR}(h:∀ρ,∃c u,g ρ=.exc c u)(hW:∀H,¬G.W H:=by exact λ_ h=>h):DS X G m (.Raise v w pos) g:=⟨λpins s σ H D I h00=>by
 obtain⟨Z,A,ρ,q,f⟩:=h00;obtain⟨c,u,e⟩:=h ρ;rw[e] at f;exact absurd (f H q.bas) (hW H)⟩
end
end L2
namespace L2
theorem nr {α:Sort _}{a b:α}(h:a=b):a=b:=h
noncomputable def look (o:Option (Option U))(ρ:Ev):R (U×Ev):=match o with
 |some (some u)=>.ok (u,ρ)
 |_=>.stk
noncomputable def Si (u:U)(ρ:Ev):R (Bool×Ev):=match u with
 | .bl c=>.ok (c,ρ)
 |_=>.stk
noncomputable def PR (o:Option U):R U:=match o with
 |some u=>.ok u
 |none=>.stk
noncomputable def SR.seq (r:SR)(g:Ev->SR):SR:=match r with
 | .nx ρ=>g ρ
 |r=>r
noncomputable def SR.turn (r:SR)(g:Ev->SR):SR:=match r with
 | .nx ρ=>g ρ
 | .ct ρ=>g ρ
 | .bk ρ=>.nx ρ
 |r=>r
noncomputable def N0 (m:Md)(r:SR):R U:=match r with
 | .rt u _=>.ok u
 | .nx _=>if m=.S then .ok .non else .stk
 | .exc c u=>.exc c u
 |_=>.stk
noncomputable def io0 (u:U)(o:Option (Option U)):R (U×U):=match o with
 |some (some w)=>.ok (u,w)
 |_=>.stk
noncomputable def rg (r:SR):R (U×U):=match r with
 | .rt u ρ=>io0 u ρ[0]?
 | .nx ρ=>io0 .non ρ[0]?
 | .exc c u=>.exc c u
 |_=>.stk
section
variable {w:U}{α β:Type}{g g1 g2 g3:Ev->R (U×Ev)}{h h1 h2:Ev->R (Bool×Ev)}{s s1 s2:Ev->SR}{ga:Ev->R (List U×Ev)}{m:Md}{ws:List U}
theorem Jg:ag i ρ=look ρ[i]? ρ:=nr rfl
theorem ES:look (some (some u)) ρ=.ok (u,ρ):=nr rfl
theorem Sj:gC u ρ=.ok (u,ρ):=nr rfl
theorem CK {a:α}{f:α->R β}:(R.ok a).bind f=f a:=nr rfl
theorem Jh {f:α->R β}:(R.stk:R α).bind f=.stk:=nr rfl
theorem rh {a:α}{f:α->SR}:SR.of (R.ok a) f=f a:=nr rfl
theorem N1 {p:U->U->R U}:aG p g1 g2 ρ=(g1 ρ).bind λx=>(g2 x.2).bind λy=>(p x.1 y.1).bind λz=>.ok (z,y.2):=nr rfl
theorem Sk:gB g ρ=(g ρ).bind λx=>Si x.1 x.2:=nr rfl
theorem Ji {c:Bool}:Si (.bl c) ρ=.ok (c,ρ):=nr rfl
theorem ET:nH h1 h2 ρ=(h1 ρ).bind λx=>if x.1=true then h2 x.2 else .ok (false,x.2):=nr rfl
theorem Jj:yQ h1 h2 ρ=(h1 ρ).bind λx=>if x.1=true then .ok (true,x.2) else h2 x.2:=nr rfl
theorem EU:Ef h ρ=(h ρ).bind λx=>.ok (!x.1,x.2):=nr rfl
theorem Jk:QF g1 g2 ρ=(gB g1 ρ).bind λx=>if x.1=true then g2 x.2 else .ok (.bl false,x.2):=nr rfl
theorem N2:Tn g1 g2 ρ=(gB g1 ρ).bind λx=>if x.1=true then .ok (.bl true,x.2) else g2 x.2:=nr rfl
theorem Jl:QG g ρ=(gB g ρ).bind λx=>.ok (.bl (!x.1),x.2):=nr rfl
theorem N3:QH h g1 g2 ρ=(h ρ).bind λx=>if x.1=true then g1 x.2 else g2 x.2:=nr rfl
noncomputable def Sl (p':U->U->R U)(g3:Ev->R (U×Ev))(y:U×Ev)(z:U):R (U×Ev):=match z with
 | .bl k=>if k=true then (g3 y.2).bind λw=>(p' y.1 w.1).bind λz'=>.ok (z',w.2) else .ok (.bl false,y.2)
 |_=>.stk
theorem Ba {p p':U->U->R U}:qO p p' g1 g2 g3 ρ=(g1 ρ).bind λx=>(g2 x.2).bind λy=>(p x.1 y.1).bind λz=>Sl p' g3 y z:=nr rfl
theorem Jm {p':U->U->R U}{y:U×Ev}{k:Bool}:Sl p' g3 y (.bl k)=if k=true then (g3 y.2).bind λw=>(p' y.1 w.1).bind λz'=>.ok (z',w.2) else .ok (.bl false,y.2):=nr rfl
theorem N4 {p:U->R U}:To p g ρ=(g ρ).bind λx=>(p x.1).bind λz=>.ok (z,x.2):=nr rfl
theorem EV:ar ρ=.ok ([],ρ):=nr rfl
theorem Bb:af g ga ρ=(g ρ).bind λx=>(ga x.2).bind λy=>.ok (x.1::y.1,y.2):=nr rfl
theorem EW:aL ga ρ=(ga ρ).bind λx=>if x.1.length<=Vf then .ok (.tup x.1,x.2) else .stk:=nr rfl
theorem EX:bX ga ρ=(ga ρ).bind λx=>if x.1.length<=Vf then .ok (.lst x.1,x.2) else .stk:=nr rfl
theorem N5 {p:List U->R U}:gz p ga ρ=(ga ρ).bind λx=>(p x.1).bind λz=>.ok (z,x.2):=nr rfl
theorem N6 {f:List U->R U}:eQ n f ga ρ=(ga ρ).bind λx=>(zt n f x.1).bind λz=>.ok (z,x.2):=nr rfl
theorem Jn {f:List U->R α}(h:us.length=n):zt n f us=f us:=hV h
noncomputable def Sm (n:Nat)(f:List U->R (U×U))(us:List U)(i:Nat)(ρ:Ev)(o:Option (Option U)):R (U×Ev):=match o with
 |some (some u0)=>(zt n f (u0::us)).bind λz=>.ok (z.1,ρ.set i (some z.2))
 |_=>.stk
theorem Jo {f:List U->R (U×U)}:Sm n f us i ρ (some (some u))=(zt n f (u::us)).bind λz=>.ok (z.1,ρ.set i (some z.2)):=nr rfl
noncomputable def EY (o:Option (Option U)):Bool:=match o with
 |some (some _)=>true
 |_=>false
theorem Bc:EY (some (some u))=true:=nr rfl
theorem N7 {f:List U->R (U×U)}:zu n i f ga ρ=if EY ρ[i]? = true then (ga ρ).bind λx=>Sm n f x.1 i x.2 x.2[i]? else .stk:=nr rfl
noncomputable def QR (i:Nat)(p:U->List U->R (U×U))(us:List U)(ρ:Ev)(o:Option (Option U)):R (U×Ev):=match o with
 |some (some u0)=>(p u0 us).bind λz=>.ok (z.1,ρ.set i (some z.2))
 |_=>.stk
theorem Jp {p:U->List U->R (U×U)}:QR i p us ρ (some (some u))=(p u us).bind λz=>.ok (z.1,ρ.set i (some z.2)):=nr rfl
noncomputable def Sn (T:String)(i:Nat)(p:U->List U->R (U×U))(ga:Ev->R (List U×Ev))(ρ:Ev)(o:Option (Option U)):R (U×Ev):=match o with
 |some (some u1)=>if Cg u1 T=true then (ga ρ).bind λx=>QR i p x.1 x.2 x.2[i]? else .stk
 |_=>.stk
theorem Jq {T:String}{p:U->List U->R (U×U)}:Sn T i p ga ρ (some (some u))=if Cg u T=true then (ga ρ).bind λx=>QR i p x.1 x.2 x.2[i]? else .stk:=nr rfl
theorem So {T:String}{p:U->List U->R (U×U)}:gM T i p ga ρ=Sn T i p ga ρ ρ[i]? := nr rfl
theorem EZ:Cg (.lst us) "list"=true:=nr rfl
theorem Be:oD ρ=.ok (none,ρ):=nr rfl
noncomputable def Sq (u:U)(ρ:Ev):R (Option Int×Ev):=match u with
 | .int i=>.ok (some i,ρ)
 |_=>.stk
theorem Jr {k:Int}:Sq (.int k) ρ=.ok (some k,ρ):=nr rfl
theorem Bf:ji g ρ=(g ρ).bind λx=>Sq x.1 x.2:=nr rfl
theorem N8 {p:U->Option Int->Option Int->R U}{lo hi:Ev->R (Option Int×Ev)}:GH p g lo hi ρ=(g ρ).bind λx=>(lo x.2).bind λl=>(hi l.2).bind λh=>(p x.1 l.1 h.1).bind λz=>.ok (z,h.2):=nr rfl
noncomputable def i8 (T:String)(u:U)(ρ:Ev):R (U×Ev):=if PD u="script" then .stk else .ok (.bl (iU (PD u) T),ρ)
theorem E1 {T:String}:NN T g ρ=(g ρ).bind λx=>i8 T x.1 x.2:=nr rfl
theorem E2:bu ρ=.nx ρ:=nr rfl
theorem Bg:Lh ρ=.bk ρ:=nr rfl
theorem E3:NH ρ=.ct ρ:=nr rfl
theorem uH:aF s1 s2 ρ=(s1 ρ).seq s2:=nr rfl
theorem nR:(SR.nx ρ).seq s=s ρ:=nr rfl
theorem E4:(SR.rt u ρ).seq s=.rt u ρ:=nr rfl
theorem E5:(SR.bk ρ).seq s=.bk ρ:=nr rfl
theorem E6:(SR.ct ρ).seq s=.ct ρ:=nr rfl
theorem E7:lj g ρ=SR.of (g ρ) λx=>.nx x.2:=nr rfl
theorem Js:bo g ρ=SR.of (g ρ) λx=>.rt x.1 x.2:=nr rfl
theorem E8:aZ i g ρ=SR.of (g ρ) λx=>.nx (x.2.set i (some x.1)):=nr rfl
theorem Jt {sg:U->Ev->R Ev}:Ci sg g ρ=SR.of (g ρ) λx=>SR.of (sg x.1 x.2) .nx:=nr rfl
theorem Ju:jT h s1 s2 ρ=SR.of (h ρ) λx=>if x.1=true then s1 x.2 else s2 x.2:=nr rfl
noncomputable def Sr (i j:Nat)(ρ:Ev)(o:Option (Option U)):SR:=match o with
 |some (some u)=>.nx ((ρ.set j none).set i (some u))
 |_=>.stk
theorem E9:NI i j ρ=Sr i j ρ ρ[j]? := nr rfl
theorem Jv:Sr i j ρ (some (some u))=.nx ((ρ.set j none).set i (some u)):=nr rfl
noncomputable def N9 (i j:Nat)(us:List U)(ρ:Ev):SR:=match us with
 | [u,w]=>.nx ((ρ.set i (some u)).set j (some w))
 |_=>.stk
theorem Jw:Li i j ga ρ=SR.of (ga ρ) λx=>N9 i j x.1 x.2:=nr rfl
theorem E_:N9 i j [u,w] ρ=.nx ((ρ.set i (some u)).set j (some w)):=nr rfl
noncomputable def PU (i:Nat)(v k:U)(ρ:Ev)(o:Option (Option U)):SR:=match k with
 | .int k=>match o with
  |some (some (.lst us))=>match C_ us.length k with
   |some j=>.nx (ρ.set i (some (.lst (us.set j v))))
   |none=>.stk
  |_=>.stk
 |_=>.stk
theorem Fb:qV i g1 g2 ρ=SR.of (g1 ρ) λx=>if EY x.2[i]? = true then SR.of (g2 x.2) λy=>PU i x.1 y.1 y.2 y.2[i]? else .stk:=nr rfl
theorem N_ {k:Int}(h:C_ us.length k=some j):PU i w (.int k) ρ (some (some (.lst us)))=.nx (ρ.set i (some (.lst (us.set j w)))):=by
 unfold PU;dsimp only;rw[h]
noncomputable def Oa (i:Nat)(p:U->U->R U)(g:Ev->R (U×Ev))(ρ:Ev)(o:Option (Option U)):SR:=match o with
 |some (some u)=>SR.of (g ρ) λy=>SR.of (p u y.1) λz=>.nx (y.2.set i (some z))
 |_=>.stk
theorem Jx {p:U->U->R U}:QM i p g ρ=Oa i p g ρ ρ[i]? := nr rfl
theorem Fc {p:U->U->R U}:Oa i p g ρ (some (some u))=SR.of (g ρ) λy=>SR.of (p u y.1) λz=>.nx (y.2.set i (some z)):=nr rfl
theorem Jy {gi:Ev->R (List U×Ev)}{sg:U->Ev->R Ev}:iR gi sg s ρ=SR.of (gi ρ) λx=>fJ sg s x.1 x.2:=nr rfl
theorem Bh {sg:U->Ev->R Ev}:fJ sg s [] ρ=.nx ρ:=nr rfl
theorem Fd:fJ sg s (u::us) ρ=SR.of (sg u ρ) λρ1=>(s ρ1).turn (fJ sg s us):=nr rfl
theorem Bi:(SR.nx ρ).turn s=s ρ:=nr rfl
theorem Bj:(SR.ct ρ).turn s=s ρ:=nr rfl
theorem Bk:(SR.bk ρ).turn s=.nx ρ:=nr rfl
theorem Bl:(SR.rt u ρ).turn s=.rt u ρ:=nr rfl
noncomputable def HN (u:U)(ρ:Ev):R (List U×Ev):=match u with
 | .lst us=>.ok (us,ρ)
 | .tup us=>.ok (us,ρ)
 | .scr us=>.ok (us,ρ)
 |_=>.stk
theorem Fe:bZ g ρ=(g ρ).bind λx=>HN x.1 x.2:=nr rfl
theorem Ff:HN (.lst us) ρ=.ok (us,ρ):=nr rfl
theorem Fg:HN (.tup us) ρ=.ok (us,ρ):=nr rfl
theorem Fh:HN (.scr us) ρ=.ok (us,ρ):=nr rfl
noncomputable def LC (us:List U)(ρ:Ev):R (List U×Ev):=match us with
 | [.int j]=>if -1000000<=j/\j<=1000000 then .ok (b_ 0 j.toNat,ρ) else .stk
 |_=>.stk
theorem Fi:lq ga ρ=(ga ρ).bind λx=>LC x.1 x.2:=nr rfl
theorem LD {k:Int}:LC [.int k] ρ=if -1000000<=k/\k<=1000000 then .ok (b_ 0 k.toNat,ρ) else .stk:=nr rfl
noncomputable def Fj (us:List U)(ρ:Ev):R (U×Ev):=match us with
 | [.int j]=>if zD 0 j=true then .ok (.lst (b_ 0 (j-0).toNat),ρ) else .stk
 |_=>.stk
noncomputable def Ob (us:List U)(ρ:Ev):R (U×Ev):=match us with
 | [.int j]=>if zD 0 j=true then .ok (.tup (b_ 0 (j-0).toNat),ρ) else .stk
 |_=>.stk
theorem Fl:qW ga ρ=(ga ρ).bind λx=>Fj x.1 x.2:=nr rfl
theorem Fm:NO ga ρ=(ga ρ).bind λx=>Ob x.1 x.2:=nr rfl
theorem Oc {k:Int}(h0:0<=k)(h1:k<=1000000):zD 0 k=true:=by
 unfold zD;simp only[Vw,decide_eq_true_eq];lia
theorem HP (n:Nat)(h:n<=1000000):Fj [.int n] ρ=.ok (.lst (b_ 0 n),ρ):=by
 unfold Fj;dsimp only;rw[hV (Oc (by lia) (by lia)),show ((n:Int)-0).toNat=n by lia]
theorem zT (n:Nat)(h:n<=1000000):LC [.int n] ρ=.ok (b_ 0 n,ρ):=by
 rw[LD,hV (by lia)];rfl
theorem Jz {gi:Ev->R (List U×Ev)}{js:List (Option Nat)}{sg:U->Ev->R Ev}:dO gi js sg h g ρ=(gi ρ).bind λx=>(MM (MN js sg h g x.2) x.1).bind λys=>.ok (.lst ys,x.2):=nr rfl
theorem JA {G:Gm}{gi:Ev->R (List U×Ev)}{js:List (Option Nat)}{sg:U->Ev->R Ev}:zx G gi js sg h g ρ=(gi ρ).bind λx=>(nI G js sg h g x.1 x.2).bind λy=>.ok (.lst y.1,y.2):=nr rfl
theorem JB {js:List (Option Nat)}{sg:U->Ev->R Ev}:MN js sg h g ρ u=(sg u (jz js ρ)).bind λρi=>(h ρi).bind λc=>if c.1=true then (g ρi).bind λy=>.ok (some y.1) else .ok none:=nr rfl
theorem Fo {G:Gm}{js:List (Option Nat)}{sg:U->Ev->R Ev}:nI G js sg h g [] ρ=.ok ([],ρ):=nr rfl
theorem LF:nI G js sg h g (u::us) ρ=(sg u (jz js ρ)).bind λρi=>(h ρi).bind λc=>if c.1=true then (g c.2).bind λy=>(nI G js sg h g us (wb G js y.2 ρ)).bind λr=>.ok (y.1::r.1,r.2) else nI G js sg h g us (wb G js c.2 ρ):=nr rfl
theorem Fp:fO ρ=.ok (true,ρ):=nr rfl
theorem JC:bJ i u ρ=.ok (ρ.set i (some u)):=nr rfl
theorem Od:PF ρ=.ok (.dct [] [],ρ):=nr rfl
theorem vG:dE m n s us=N0 m (s (jL n us)):=nr rfl
theorem Bm:N0 m (.rt u ρ)=.ok u:=nr rfl
theorem Fq:Ck n s us=rg (s (jL n us)):=nr rfl
theorem Bn:rg (.rt u ρ)=io0 u ρ[0]? := nr rfl
theorem JD:io0 u (some (some w))=.ok (u,w):=nr rfl
theorem xK {ρ:Ev}:jz [] ρ=[]:=nr rfl
theorem uI {js:List (Option Nat)}:jz (none::js) ρ=none::jz js ρ:=nr rfl
theorem uJ {js:List (Option Nat)}:jz (some j::js) ρ=(ρ[j]?).getD none::jz js ρ:=by
 unfold jz;rw[Vp];congr 1;dsimp only;cases ρ[j]? <;> rfl
end
section
variable {i j k:Int}{ws:List U}{w:U}{lo:Option Int}
theorem Fs:fu (.int i) (.int j)=.ok (.int (i+j)):=nr rfl
theorem zU:fu (.tup us) (.tup ws)=if us.length+ws.length<=Vf then .ok (.tup (us++ws)) else .stk:=nr rfl
theorem Ft:fu (.lst us) (.lst ws)=if us.length+ws.length<=Vf then .ok (.lst (us++ws)) else .stk:=nr rfl
theorem JE:xw (.int i) (.int j)=.ok (.int (i-j)):=nr rfl
theorem JF:dP (.int i) (.int j)=if pJ i j=true then .ok (.int (i*j)) else .stk:=nr rfl
theorem Fu:oE (.int i) (.int j)=if zz i j=true then .ok (.int (i / j)) else .stk:=nr rfl
theorem JG:vz (.int i) (.int j)=if decide (0<j)=true then .ok (.int (i % j)) else .stk:=nr rfl
theorem JH:Hx (.int i) (.int j)=if Hw i j=true then .ok (.int (i ^ j.toNat)) else .stk:=nr rfl
theorem JI:QN (.int i)=.ok (.int (-i)):=nr rfl
theorem Oe:NK (.int i) (.int j)=.ok (.bl (decide (i<j))):=nr rfl
theorem Of:NL (.int i) (.int j)=.ok (.bl (decide (i<=j))):=nr rfl
theorem Og:Hy (.int i) (.int j)=.ok (.bl (decide (j<i))):=nr rfl
theorem Oh:QO (.int i) (.int j)=.ok (.bl (decide (j<=i))):=nr rfl
theorem JJ:bS (.lst us) (.int i)=PR (nA us i):=by show (match nA us i with|some z=>R.ok z|none=>.stk)=_;cases nA us i<;>rfl
theorem JK:bS (.tup us) (.int i)=PR (nA us i):=by show (match nA us i with|some z=>R.ok z|none=>.stk)=_;cases nA us i<;>rfl
theorem JL:bS (.scr us) (.int i)=PR (nA us i):=by show (match nA us i with|some z=>R.ok z|none=>.stk)=_;cases nA us i<;>rfl
theorem JM:PR (some u)=.ok u:=nr rfl
theorem JN:Cm (.lst us) lo hi=.ok (.lst (pK us lo hi)):=nr rfl
theorem JO:Cm (.tup us) lo hi=.ok (.tup (pK us lo hi)):=nr rfl
theorem JP:Cm (.scr us) lo hi=.ok (.lst (pK us lo hi)):=nr rfl
theorem Fv:gK [.lst us]=.ok (.int us.length):=nr rfl
theorem Fw:gK [.tup us]=.ok (.int us.length):=nr rfl
theorem Fx:gK [.scr us]=.ok (.int us.length):=nr rfl
theorem Fy:ij [.lst us]=.ok (.tup us):=nr rfl
theorem Fz:ij [.tup us]=.ok (.tup us):=nr rfl
theorem FA:Ja [.lst us]=.ok (.lst us):=nr rfl
theorem FC:Ja [.tup us]=.ok (.lst us):=nr rfl
theorem JQ {a b:Bool}{f:Bool->Bool}:QP f (.bl a) (.bl b)=.ok (.bl (f (decide (a=b)))):=nr rfl
theorem JR {f:Bool->Bool}:j7 f u .non=.ok (.bl (f (xx u))):=nr rfl
theorem FD:AV [.int i,.int j]=.ok (.int (if j<i then j else i)):=nr rfl
theorem FE:AU [.int i,.int j]=.ok (.int (if j>i then j else i)):=nr rfl
theorem Oi {f:Bool->Bool}:iS f u w=(tM u w).bind λb=>.ok (.bl (f b)):=nr rfl
theorem Bo (n:Nat):nA us (n:Int)=us[n]? := by
 unfold nA C_;by_cases h:n<us.length
 ·rw[hV (by lia),hV (by lia)];rfl
 ·rw[hV (by lia),hU (by lia)];rw[WH.mpr (by lia)];rfl
theorem JS:nA us 0=us[0]? := Bo 0
theorem JT:nA us 1=us[1]? := Bo 1
theorem JU:nA us 2=us[2]? := Bo 2
theorem Oj (h:0<us.length):C_ us.length 0=some 0:=by unfold C_;rw[hV (by lia),hV (by lia)];rfl
theorem vH (h0:0<j)(h1:j<18446744073709551616):zz i j=true:=by unfold zz;simp[h0,h1]
theorem vI (h0:0<=i)(h1:i<18446744073709551616):pJ i j=true:=by
 unfold pJ;simp only[Y_,Vw,decide_eq_true_eq];exact .inl ⟨by lia,by lia⟩
theorem LG (h0:0<=j)(h1:j<18446744073709551616):pJ i j=true:=by
 unfold pJ;simp only[Y_,Vw,decide_eq_true_eq];exact .inr ⟨by lia,by lia⟩
end
end L2
namespace L2
theorem Bp {i:Nat}{w u:U}{us:List U}{ρ:Ev}:PU i w (.int 0) ρ (some (some (.lst (u::us))))=.nx (ρ.set i (some (.lst (w::us)))):=by
 rw[N_ (j:=0) (Oj (by rw[Vi];lia))];rfl
theorem Bq {ρ:Ev}:rg (.nx ρ)=io0 .non ρ[0]? := rfl
theorem rj {G:Gm}{js:List (Option Nat)}{sg:U->Ev->R Ev}{ge:Ev->R (U×Ev)}{σ:Type}(ev:σ->Ev)(N:Nat)(I:List U->σ->Prop)
  (step:∀done u s,done.length<N->I done s->∃ρi y ρi' s',sg u (jz js (ev s))=.ok ρi/\ge ρi=.ok (y,ρi')/\wb G js ρi' (ev s)=ev s'/\I (done++[y]) s') :
  ∀(us done:List U) (s:σ),done.length+us.length<=N->I done s->∃ys s',nI G js sg fO ge us (ev s)=.ok (ys,ev s')/\ys.length=us.length/\I (done++ys) s'
 | [],done,s,_,h=>⟨[],s,rfl,rfl,by rw[VU];exact h⟩
 |u::us,done,s,hl,h=>by
  rw[Vi] at hl;obtain⟨ρi,y,ρi',s',e1,e2,e3,h'⟩:=step done u s (by lia) h;obtain⟨ys,Mr,e4,e5,h''⟩:=rj ev N I step us (done++[y]) s' (by rw[Ve,Yi];lia) h';refine⟨y::ys,Mr,?_,by rw[Vi,Vi,e5],by rw[VC] at h'';exact h''⟩;rw[LF,e1,CK,Fp,CK,hV rfl,e2,CK,e3,e4,CK]
theorem uK {s:Ev->SR}(I:Nat->Ev->Prop)(step:∀(i:Nat) (u:U) (ρ:Ev),us[i]? = some u->I i ρ->∃ρ1 ρ2,sg u ρ=.ok ρ1/\(s ρ1=.nx ρ2\/s ρ1=.ct ρ2)/\I (i+1) ρ2)(h:I 0 ρ) :
  ∃ρ',fJ sg s us ρ=.nx ρ'/\I us.length ρ':=by
 have gen:∀(n i:Nat) (ρ:Ev),i+n=us.length->I i ρ->∃ρ',fJ sg s (us.drop i) ρ=.nx ρ'/\I us.length ρ':=by
  intro n
  induction n with
  |zero=>
   intro i ρ hi h;have:i=us.length:=by lia
   subst this;rw[YM];exact⟨ρ,rfl,h⟩
  |succ n ih=>
   intro i ρ hi h;have yT:i<us.length:=by lia
   obtain⟨ρ1,ρ2,e1,e2,h2⟩:=step i us[i] ρ (U4 yT) h;obtain⟨ρ',e3,h3⟩:=ih (i+1) ρ2 (by lia) h2;refine⟨ρ',?_,h3⟩;rw[Wq yT,Fd,e1,rh];rcases e2 with e2|e2<;>(rw[e2];exact e3)
 have:=gen us.length 0 ρ (by lia) h
 rwa [Zw] at this
theorem nU (ns:List Int):j6 (ns.map .int)=some (ns.map .int):=by
 induction ns with
 |nil=>unfold j6;rfl
 |cons n ns ih=>rw[Vp];unfold j6;rw[ih];unfold mF;rfl
theorem lR (ns:List Int):jK (ns.map .int)=0:=by
 induction ns with
 |nil=>unfold jK;rfl
 |cons n ns ih=>rw[Vp];unfold jK;rw[ih];unfold dJ;rfl
theorem nV:∀(ns ms:List Int),jw (ns.map .int) (ms.map .int)=decide (ns=ms)
 | [],[]=>by unfold jw;simp
 | [],m::ms=>by simp[jw]
 |n::ns,[]=>by simp[jw]
 |n::ns,m::ms=>by
  rw[Vp,Vp];unfold jw i5;rw[nV ns ms,X1];simp
theorem PV (ns ms:List Int):tM (.lst (ns.map .int)) (.lst (ms.map .int))=.ok (decide (ns=ms)):=by
 unfold tM;have e1:∀ns:List Int,mF (.lst (ns.map .int))=some (.lst (ns.map .int)):=λns=>by unfold mF;rw[nU];rfl
 rw[e1,e1];dsimp only;rw[hV (by unfold dJ;rw[lR];lia)];unfold i5;rw[nV]
theorem FF (ns ms:List Int):tM (.tup (ns.map .int)) (.tup (ms.map .int))=.ok (decide (ns=ms)):=by
 unfold tM;have e1:∀ns:List Int,mF (.tup (ns.map .int))=some (.tup (ns.map .int)):=λns=>by unfold mF;rw[nU];rfl
 rw[e1,e1];dsimp only;rw[hV (by unfold dJ;rw[lR];lia)];unfold i5;rw[nV]
noncomputable def ir (n:Nat):List Int:=(VN n).map λi=>(i:Nat)
theorem xM (n:Nat):b_ 0 n=(ir n).map .int:=by
 unfold b_ ir;rw[W0];exact X_ λi _=>by show U.int (0+(i:Int))=.int _;rw[Int.zero_add]
theorem rk (n:Nat):(ir n).length=n:=by unfold ir;rw[Vd,WC]
theorem zV {x:Int}:x∈ir n↔0<=x/\x<n:=by
 unfold ir;rw[V3];constructor
 ·rintro⟨i,h,rfl⟩;have:=VJ.mp h;lia
 ·intro h;exact⟨x.toNat,VJ.mpr (by lia),by lia⟩
end L2
namespace L2
theorem inb (s:String){T:String}{u:U}{ρ:Ev}{b:Bool}(h:PD u=s)(h1:¬s="script")(h2:iU s T=b):i8 T u ρ=.ok (.bl b,ρ):=by unfold i8;rw[h,hU h1,h2]
theorem oJ {ρ:Ev}:i8 "bool" (.non) ρ=.ok (.bl false,ρ):=inb "NoneType" rfl (by decide) (by decide)
theorem rn {ρ:Ev}:i8 "int" (.non) ρ=.ok (.bl false,ρ):=inb "NoneType" rfl (by decide) (by decide)
theorem rq {ρ:Ev}:i8 "str" (.non) ρ=.ok (.bl false,ρ):=inb "NoneType" rfl (by decide) (by decide)
theorem oK {ρ:Ev}:i8 "list" (.non) ρ=.ok (.bl false,ρ):=inb "NoneType" rfl (by decide) (by decide)
theorem mM {ρ:Ev}:i8 "tuple" (.non) ρ=.ok (.bl false,ρ):=inb "NoneType" rfl (by decide) (by decide)
theorem oM {ρ:Ev}:i8 "dict" (.non) ρ=.ok (.bl false,ρ):=inb "NoneType" rfl (by decide) (by decide)
theorem rA {b:Bool}{ρ:Ev}:i8 "bool" (.bl b) ρ=.ok (.bl true,ρ):=inb "bool" rfl (by decide) (by decide)
theorem uL {b:Bool}{ρ:Ev}:i8 "int" (.bl b) ρ=.ok (.bl true,ρ):=inb "bool" rfl (by decide) (by decide)
theorem uM {b:Bool}{ρ:Ev}:i8 "str" (.bl b) ρ=.ok (.bl false,ρ):=inb "bool" rfl (by decide) (by decide)
theorem rB {b:Bool}{ρ:Ev}:i8 "list" (.bl b) ρ=.ok (.bl false,ρ):=inb "bool" rfl (by decide) (by decide)
theorem oN {b:Bool}{ρ:Ev}:i8 "tuple" (.bl b) ρ=.ok (.bl false,ρ):=inb "bool" rfl (by decide) (by decide)
theorem rC {b:Bool}{ρ:Ev}:i8 "dict" (.bl b) ρ=.ok (.bl false,ρ):=inb "bool" rfl (by decide) (by decide)
theorem oO {i:Int}{ρ:Ev}:i8 "bool" (.int i) ρ=.ok (.bl false,ρ):=inb "int" rfl (by decide) (by decide)
theorem rD {i:Int}{ρ:Ev}:i8 "int" (.int i) ρ=.ok (.bl true,ρ):=inb "int" rfl (by decide) (by decide)
theorem rE {i:Int}{ρ:Ev}:i8 "str" (.int i) ρ=.ok (.bl false,ρ):=inb "int" rfl (by decide) (by decide)
theorem oP {i:Int}{ρ:Ev}:i8 "list" (.int i) ρ=.ok (.bl false,ρ):=inb "int" rfl (by decide) (by decide)
theorem mN {i:Int}{ρ:Ev}:i8 "tuple" (.int i) ρ=.ok (.bl false,ρ):=inb "int" rfl (by decide) (by decide)
theorem oQ {i:Int}{ρ:Ev}:i8 "dict" (.int i) ρ=.ok (.bl false,ρ):=inb "int" rfl (by decide) (by decide)
theorem oR {x:Str}{ρ:Ev}:i8 "bool" (.str x) ρ=.ok (.bl false,ρ):=inb "str" rfl (by decide) (by decide)
theorem rF {x:Str}{ρ:Ev}:i8 "int" (.str x) ρ=.ok (.bl false,ρ):=inb "str" rfl (by decide) (by decide)
theorem rG {x:Str}{ρ:Ev}:i8 "str" (.str x) ρ=.ok (.bl true,ρ):=inb "str" rfl (by decide) (by decide)
theorem oT {x:Str}{ρ:Ev}:i8 "list" (.str x) ρ=.ok (.bl false,ρ):=inb "str" rfl (by decide) (by decide)
theorem mO {x:Str}{ρ:Ev}:i8 "tuple" (.str x) ρ=.ok (.bl false,ρ):=inb "str" rfl (by decide) (by decide)
theorem oU {x:Str}{ρ:Ev}:i8 "dict" (.str x) ρ=.ok (.bl false,ρ):=inb "str" rfl (by decide) (by decide)
theorem oV {us:List U}{ρ:Ev}:i8 "bool" (.tup us) ρ=.ok (.bl false,ρ):=inb "tuple" rfl (by decide) (by decide)
theorem rH {us:List U}{ρ:Ev}:i8 "int" (.tup us) ρ=.ok (.bl false,ρ):=inb "tuple" rfl (by decide) (by decide)
theorem rJ {us:List U}{ρ:Ev}:i8 "str" (.tup us) ρ=.ok (.bl false,ρ):=inb "tuple" rfl (by decide) (by decide)
theorem oW {us:List U}{ρ:Ev}:i8 "list" (.tup us) ρ=.ok (.bl false,ρ):=inb "tuple" rfl (by decide) (by decide)
theorem mP {us:List U}{ρ:Ev}:i8 "tuple" (.tup us) ρ=.ok (.bl true,ρ):=inb "tuple" rfl (by decide) (by decide)
theorem oX {us:List U}{ρ:Ev}:i8 "dict" (.tup us) ρ=.ok (.bl false,ρ):=inb "tuple" rfl (by decide) (by decide)
theorem oY {us:List U}{ρ:Ev}:i8 "bool" (.lst us) ρ=.ok (.bl false,ρ):=inb "list" rfl (by decide) (by decide)
theorem rK {us:List U}{ρ:Ev}:i8 "int" (.lst us) ρ=.ok (.bl false,ρ):=inb "list" rfl (by decide) (by decide)
theorem rL {us:List U}{ρ:Ev}:i8 "str" (.lst us) ρ=.ok (.bl false,ρ):=inb "list" rfl (by decide) (by decide)
theorem oZ {us:List U}{ρ:Ev}:i8 "list" (.lst us) ρ=.ok (.bl true,ρ):=inb "list" rfl (by decide) (by decide)
theorem mQ {us:List U}{ρ:Ev}:i8 "tuple" (.lst us) ρ=.ok (.bl false,ρ):=inb "list" rfl (by decide) (by decide)
theorem o3 {us:List U}{ρ:Ev}:i8 "dict" (.lst us) ρ=.ok (.bl false,ρ):=inb "list" rfl (by decide) (by decide)
theorem o5 {ρ:Ev}:i8 "bool" (.dct [] []) ρ=.ok (.bl false,ρ):=inb "dict" rfl (by decide) (by decide)
theorem rM {ρ:Ev}:i8 "int" (.dct [] []) ρ=.ok (.bl false,ρ):=inb "dict" rfl (by decide) (by decide)
theorem rN {ρ:Ev}:i8 "str" (.dct [] []) ρ=.ok (.bl false,ρ):=inb "dict" rfl (by decide) (by decide)
theorem o7 {ρ:Ev}:i8 "list" (.dct [] []) ρ=.ok (.bl false,ρ):=inb "dict" rfl (by decide) (by decide)
theorem mR {ρ:Ev}:i8 "tuple" (.dct [] []) ρ=.ok (.bl false,ρ):=inb "dict" rfl (by decide) (by decide)
theorem o8 {ρ:Ev}:i8 "dict" (.dct [] []) ρ=.ok (.bl true,ρ):=inb "dict" rfl (by decide) (by decide)
theorem dF:type_of% @Jg/\type_of% @ES/\type_of% @Sj/\type_of% @CK/\type_of% @Jh/\type_of% @rh/\type_of% @N1/\type_of% @Sk/\type_of% @Ji/\type_of% @ET/\type_of% @Jj/\type_of% @EU/\type_of% @Jk/\type_of% @N2/\type_of% @Jl/\type_of% @N3/\type_of% @Ba/\type_of% @N4/\type_of% @EV/\type_of% @Bb/\type_of% @EW/\type_of% @EX/\type_of% @N5/\type_of% @N6/\type_of% @Jo/\type_of% @Bc/\type_of% @N7/\type_of% @Jp/\type_of% @Jq/\type_of% @So/\type_of% @EZ/\type_of% @Be/\type_of% @Jr/\type_of% @Bf/\type_of% @N8/\type_of% @E1/\type_of% @E2/\type_of% @Bg/\type_of% @E3/\type_of% @uH/\type_of% @nR/\type_of% @E4/\type_of% @E5/\type_of% @E6/\type_of% @E7/\type_of% @Js/\type_of% @E8/\type_of% @Jt/\type_of% @Ju/\type_of% @E9/\type_of% @Jv/\type_of% @Jw/\type_of% @E_/\type_of% @Fb/\type_of% @Jx/\type_of% @Fc/\type_of% @Jy/\type_of% @Bh/\type_of% @Bi/\type_of% @Bj/\type_of% @Bk/\type_of% @Bl/\type_of% @Fe/\type_of% @Ff/\type_of% @Fg/\type_of% @Fh/\type_of% @Fi/\type_of% @Fl/\type_of% @Fm/\type_of% @Jz/\type_of% @JA/\type_of% @JB/\type_of% @Fo/\type_of% @Fp/\type_of% @JC/\type_of% @Od/\type_of% @vG/\type_of% @Bm/\type_of% @Fq/\type_of% @Bn/\type_of% @JD/\type_of% @xK/\type_of% @uI/\type_of% @uJ/\type_of% @Fs/\type_of% @zU/\type_of% @Ft/\type_of% @JE/\type_of% @JF/\type_of% @Fu/\type_of% @JG/\type_of% @JH/\type_of% @JI/\type_of% @Oe/\type_of% @Of/\type_of% @Og/\type_of% @Oh/\type_of% @JJ/\type_of% @JK/\type_of% @JL/\type_of% @JM/\type_of% @JN/\type_of% @JO/\type_of% @JP/\type_of% @Fv/\type_of% @Fw/\type_of% @Fx/\type_of% @Fy/\type_of% @Fz/\type_of% @FA/\type_of% @FC/\type_of% @JQ/\type_of% @JR/\type_of% @FD/\type_of% @FE/\type_of% @Oi/\type_of% @JS/\type_of% @JT/\type_of% @JU/\type_of% @Jm/\type_of% @oJ/\type_of% @rn/\type_of% @rq/\type_of% @oK/\type_of% @mM/\type_of% @oM/\type_of% @rA/\type_of% @uL/\type_of% @uM/\type_of% @rB/\type_of% @oN/\type_of% @rC/\type_of% @oO/\type_of% @rD/\type_of% @rE/\type_of% @oP/\type_of% @mN/\type_of% @oQ/\type_of% @oR/\type_of% @rF/\type_of% @rG/\type_of% @oT/\type_of% @mO/\type_of% @oU/\type_of% @oV/\type_of% @rH/\type_of% @rJ/\type_of% @oW/\type_of% @mP/\type_of% @oX/\type_of% @oY/\type_of% @rK/\type_of% @rL/\type_of% @oZ/\type_of% @mQ/\type_of% @o3/\type_of% @o5/\type_of% @rM/\type_of% @rN/\type_of% @o7/\type_of% @mR/\type_of% @o8/\type_of% @Bp/\type_of% @Bq:=
 ⟨@Jg,@ES,@Sj,@CK,@Jh,@rh,@N1,@Sk,@Ji,@ET,@Jj,@EU,@Jk,@N2,@Jl,@N3,@Ba,@N4,@EV,@Bb,@EW,@EX,@N5,@N6,@Jo,@Bc,@N7,@Jp,@Jq,@So,@EZ,@Be,@Jr,@Bf,@N8,@E1,@E2,@Bg,@E3,@uH,@nR,@E4,@E5,@E6,@E7,@Js,@E8,@Jt,@Ju,@E9,@Jv,@Jw,@E_,@Fb,@Jx,@Fc,@Jy,@Bh,@Bi,@Bj,@Bk,@Bl,@Fe,@Ff,@Fg,@Fh,@Fi,@Fl,@Fm,@Jz,@JA,@JB,@Fo,@Fp,@JC,@Od,@vG,@Bm,@Fq,@Bn,@JD,@xK,@uI,@uJ,@Fs,@zU,@Ft,@JE,@JF,@Fu,@JG,@JH,@JI,@Oe,@Of,@Og,@Oh,@JJ,@JK,@JL,@JM,@JN,@JO,@JP,@Fv,@Fw,@Fx,@Fy,@Fz,@FA,@FC,@JQ,@JR,@FD,@FE,@Oi,@JS,@JT,@JU,@Jm,@oJ,@rn,@rq,@oK,@mM,@oM,@rA,@uL,@uM,@rB,@oN,@rC,@oO,@rD,@rE,@oP,@mN,@oQ,@oR,@rF,@rG,@oT,@mO,@oU,@oV,@rH,@rJ,@oW,@mP,@oX,@oY,@rK,@rL,@oZ,@mQ,@o3,@o5,@rM,@rN,@o7,@mR,@o8,@Bp,@Bq⟩
end L2
namespace Hc.Dw
def nW (h:XI)(a:Vr)(ds:Array DictEntry)(ep:Nat):Prop:=∃o,h.get? a=some o/\o.ExactDict/\o.data=.dict ds ep
theorem nW.ty (x:nW s.heap a ds ep):s.TypeIs (.ref a) "dict":=by
 obtain⟨o,e,c,_⟩:=x;exact⟨o,e,c.1⟩
theorem nW.at (x:nW h a ds ep)(e:∀o,h.get? a=some o->h'.get? a=some o):nW h' a ds ep:=by
 obtain⟨o,q,r⟩:=x;exact⟨o,e o q,r⟩
theorem nW.lt (x:nW h a ds ep):a<h.objs.size:=by obtain⟨o,e,_⟩:=x;exact Vl e
section
variable {A:VR}{d vw:Vr}
theorem Ol (lo:(d==Xp)=false)(x:nW s.heap d ds ep)(q:Q (.ref s.heap.objs.size) {s with heap:=s.heap.push {cls:=.type "dict_keyiterator",data:=.fields #[.ref d,.int 0 0,.int ds.size 0,.int ep 0]}}):Vs (VE prog w) A (pyIter (.ref d)) Q E s:=by
 have ty:=x.ty;obtain⟨od,e1,e2,e3⟩:=x;refine aaA ty F.slot_dict_iter (VY F.slot_dict_iter ty F.entry_dict_iter ?_ (F.args_dict_iter_1 _));unfold Builtin.«dict.__iter__»;refine U3 ?_;unfold Builtin.Dict.dictSlotNone;refine U3 (wpAny_notOrdered_dict ty ?_);change Vs _ _ (pure (Value.ref d)) _ _ s;refine U6 ?_;change Vs _ _ (Builtin.Dict.showsAll d >>= _) _ _ s;unfold Builtin.Dict.showsAll;rw[hU (by rw[lo];exact Vb)];refine U3 (U6 (U3 (Zr e1 e3 (U3 (wpAny_dictEpoch e1 e3 ?_)))));refine U3 (VX (U6 ⟨_,rfl,"dict_keyiterator",_,⟨_,Vj _ rfl,rfl⟩,F.slot_dict_keyiterator_next.lookup,?_⟩));simpa [Z5] using q
theorem Om {Q:Option Va->Vo->Prop}(t:s.heap.IsKeyIter it d i ds.size ep)(x:nW s.heap d ds ep)(hi:i<ds.size)
  (q:∀h',h'.IsKeyIter it d (i+1) ds.size ep->Xe it s.heap h'->Q (some ds[i].key) {s with heap:=h'}):Vs (VE prog w) A (ZD (.ref it)) Q E s:=by
 have ty:=t.typeIs;obtain⟨oi,i1,i2,i3⟩:=t;obtain⟨od,e1,e2,e3⟩:=x;unfold ZD;refine U3 (X9 (V1 (name:=Xf "__next__") ty Xm (VY Xm ty ZC ?_ (Zy _))));refine U3 (U6 (U3 (U3 ?_)))
 first|refine U3 (Xj ty (U6 ?_))|refine U3 (X4 ty (U6 ?_))
 refine U3 (aan i1 i3 ?_);simp only[show ZK "dict_keyiterator"=false by decide,VG,if_false];change Vs _ _ (if (Value.ref d==Value.none)=true then _ else _) _ _ s;rw[hU (show ¬((Value.ref d==Value.none)=true) from Vb)];refine U3 (U6 (U3 (Zr e1 e3 ?_)));rw[hU (by simp)];refine U3 (U6 (U3 (wpAny_dictEpoch e1 e3 ?_)));rw[hU (by simp)];refine U6 ?_;simp only[show ¬((i:Int)<0) from by lia,if_false,WD,VD hi];refine U3 ?_
 first|refine U3 (Xj ty (U6 ?_))|refine U3 (X4 ty (U6 ?_))
 refine U3 (wpAny_isOneOf_keyiter ty ?_);change Vs _ _ (setField (.ref it) 1 (Z5 ((i:Int)+1)) >>= _) _ _ s;refine U3 (Yd i1 i3 (by simp) ?_);have t':(s.heap.update it (Obj.mapFields (·.setIfInBounds 1 (Z5 ((i:Int)+1))))).IsKeyIter it d (i+1) ds.size ep:=
  ⟨_,WQ _ i1 (Yo (WU i3 _)),(Zq ..).trans i2,by rw[WU i3];simp[Z5]⟩
 refine U3 (WA (U3 ?_));refine wpAny_isOneOf_keyiter (s:={s with heap:=s.heap.update it (Obj.mapFields (·.setIfInBounds 1 (Z5 ((i:Int)+1))))}) t'.typeIs ?_;change Vs _ _ (pure ds[i].key) _ _ _;exact U6 (U6 ⟨_,rfl,U6 (q _ t' (Wh ..))⟩)
theorem Oo {Q:Option Va->Vo->Prop}(hh:A.handled=none)(t:s.heap.IsKeyIter it d i ds.size ep)(x:nW s.heap d ds ep)(hi:ds.size<=i)
  (q:∀h',Heap.ExtBut it s.heap h'->Q none {s with heap:=h'}):Vs (VE prog w) A (ZD (.ref it)) Q E s:=by
 have ty:=t.typeIs;obtain⟨oi,i1,i2,i3⟩:=t;obtain⟨od,e1,e2,e3⟩:=x;unfold ZD;refine U3 (X9 (V1 (name:=Xf "__next__") ty Xm (VY Xm ty ZC ?_ (Zy _))));refine U3 (U6 (U3 (U3 ?_)))
 first|refine U3 (Xj ty (U6 ?_))|refine U3 (X4 ty (U6 ?_))
 refine U3 (aan i1 i3 ?_);simp only[show ZK "dict_keyiterator"=false by decide,VG,if_false];change Vs _ _ (if (Value.ref d==Value.none)=true then _ else _) _ _ s;rw[hU (show ¬((Value.ref d==Value.none)=true) from Vb)];refine U3 (U6 (U3 (Zr e1 e3 ?_)));rw[hU (by simp)];refine U3 (U6 (U3 (wpAny_dictEpoch e1 e3 ?_)));rw[hU (by simp)];refine U6 ?_;simp only[show ¬((i:Int)<0) from by lia,if_false,WD,Zh hi];refine U3 ?_
 first|refine U3 (Xj ty (U6 ?_))|refine U3 (X4 ty (U6 ?_))
 change Vs _ _ (setField (.ref it) 0 .none >>= _) _ _ s;refine U3 (Yd i1 i3 (by simp) ?_);change Vs _ _ (newExc (.type "StopIteration") [] >>= _) _ _ _;refine U3 ?_;simp only[newExc,newTuple];refine U3 (VX (hd:=by size_fits) ?_);refine U3 (m:=YG _ _) (Zo (a:=Value.none) (by first|rfl|(simp only[YG];rfl)) (VX (hd:=by size_fits) ?_));simp only[raiseNew];refine U3 (wpAny_handled ?_);rw[show A.in1.handled=none from hh];refine U3 (U6 (wpAny_throw ?_));refine U3 (YL (b:=true) (T:="StopIteration") ⟨_,Vj _ rfl,rfl⟩ isSubtype_stop ?_);exact U6 (q _ (((Wh ..).extBut.push _).push _))
end
end Hc.Dw
namespace L2
open Hc.Dw
theorem rO {α β:Type}{R:α->β->Prop}:∀{xs:List α} {ys:List β} {i:Nat} {y:β},Z3 R xs ys->ys[i]? = some y->∃x,xs[i]? = some x/\R x y
 |_,_,_,_,.nil,h=>by simp at h
 |x::xs,y'::ys,0,y,.cons r t,h=>by simp at h;subst h;exact⟨x,by simp,r⟩
 |x::xs,y'::ys,i+1,y,.cons r t,h=>by
  obtain⟨x',m,q⟩:=rO t (i:=i) (by simpa using h);exact⟨x',by simpa using m,q⟩
theorem aI.rawD (I:aI X pins σ H s)(q:H a=some (DN a ep es)):(a==Xp)=false/\∃ds,nW s.heap a ds ep/\ds.size=es.length/\∀(i:Nat) (hi:i<ds.size),∃e,es[i]? = some e/\ds[i].key=.ref e.2.1/\bq e.2.2 ds[i].val:=by
 obtain⟨⟨l,o,ds,xs,h1,h2,h3,h4,h5⟩,_⟩:=I.hok a _ q;have n1:ds.size=es.length:=by rw[←U9,h5,Vd,Paired.length h4]
 refine⟨l,ds,⟨o,h1,h2,h3⟩,n1,λi hi=>?_⟩;have e1:ds.toList[i]? = some ds[i]:=by rw[Vq];exact getElem?_pos ds i hi
 rw[h5,VL] at e1;cases e2:xs[i]? with
 |none=>rw[e2] at e1;cases e1
 |some x=>
  rw[e2] at e1;have e3:NB x=ds[i]:=by injection e1
  obtain⟨e,m,r⟩:=rO h4 e2;refine⟨e,m,?_,?_⟩
  ·rw[←e3,r.2.1];rfl
  ·rw[←e3];exact r.2.2
structure M0 (X:Cx)(o:W5)(m:Str)(gj cpos:Pos):Prop where
 base:Y5 o m X.env (YD o X.env)=YD o X.env
 few:((XR cpos (Vx [] X.env)).all (λx=> !x.1)&&(backToKw cpos (ZR [] X.env)).all (λx=>x.1.isSome)
  && decide (([]:List W5).length+([]:List Zz).length+(if ([]:List Zz).isEmpty then 0 else 1)<30))=true
 line:(gj.endLine==cpos.line)=true
 trees:XR cpos (Vx [] X.env)=[]
end L2
namespace L2
open Hc.Dw
mutual
theorem Oq {K:U7}{H:Hp}{A:Vr->Prop}:∀{u:U} {v:V},KH H u v->Rp K H A u v
 | .int i,v,h=>by unfold KH at h;unfold Rp;exact h
 | .tup us,v,h=>by
  unfold KH at h;unfold Rp;obtain⟨b,ys,e,q,l,z⟩:=h;exact⟨b,ys,e,q,l,zW z⟩
 | .non,v,h=>by unfold KH at h;exact h.elim
 | .bl _,v,h=>by unfold KH at h;exact h.elim
 | .str _,v,h=>by unfold KH at h;exact h.elim
 | .lst _,v,h=>by unfold KH at h;exact h.elim
 | .dct _ _,v,h=>by unfold KH at h;exact h.elim
 | .scr _,v,h=>by unfold KH at h;exact h.elim
theorem zW {K:U7}{H:Hp}{A:Vr->Prop}:∀{us:List U} {vs:List V},qI H us vs->aK K H A us vs
 | [],vs,h=>by unfold qI at h;unfold aK;exact h
 |u::us,vs,h=>by
  unfold qI at h;unfold aK;obtain⟨x,r,q,p,z⟩:=h;exact⟨x,r,q,Oq p,zW z⟩
end
theorem JV (h:zj H us b):Rp K H A (.tup us) (.ref b):=by
 obtain⟨_,ys,q,l,z⟩:=h;unfold Rp;exact⟨b,ys,rfl,q,l,zW z⟩
noncomputable def QS:U->Bool
 | .tup _=>true
 |_=>false
noncomputable def Ot (ks:List U):Bool:= !ks.isEmpty&&ks.all QS
theorem FG (w:Ot ks=true)(d:Cf H a ks xs):∃es ep,H a=some (DN a ep es)/\(∀e∈es,zj H e.1 e.2.1)/\ks=es.map (λp=>.tup p.1)/\xs=es.map (·.2.2):=by
 unfold Ot at w;rw[Vw] at w;rcases d with⟨cn,h,rfl,rfl⟩|⟨es,n,h,e1,e2⟩
 ·exfalso;cases cn with
  |nil=>exact absurd w.1 (by simp)
  |cons p r=>
   have:=w.2;rw[Vp,Y8,Vw] at this;obtain⟨p1,p2⟩:=p;cases p1<;>cases this.1
 ·obtain⟨ep,q⟩:=h.ne n;exact⟨es,ep,q,h.key,e1,e2⟩
end L2
namespace L2
noncomputable def Gm.un (G:Gm)(i:Nat):Gm:=⟨G.own.set i false,G.io,G.W⟩
theorem jC:(G.un i).is i=false:=by
 unfold Gm.un Gm.is;dsimp only;rw[W6,List.getElem?_set];split
 ·split<;>rfl
 ·rename_i h;exact absurd rfl h
theorem ke (h:i≠j):(G.un i).is j=G.is j:=by
 unfold Gm.un Gm.is;dsimp only;rw[W6,W6,VH h]
section
variable {A':Vr->Prop}{ρ':Ev}
theorem cu.un (r:cu K G Z A ρ σ H)(hi:G.io=true->i≠0):∃A',cu K (G.un i) Z A' ρ σ H:=by
 have io0:∀h:(G.un i).io=true,σ[0]? = some (some (.ref Z.a0))/\(G.un i).is 0=true:=λh=>by
  obtain⟨a,b⟩:=r.io0 h;exact⟨a,by rw[ke (hi h)];exact b⟩
 by_cases c:G.is i=true/\∃u,ρ[i]? = some (some u)
 ·obtain⟨c,u,hu⟩:=c;obtain⟨a,h1,h2,h3,h4,h5⟩:=r.own c hu;have na:¬Z.A0 a:=by
   rcases h4 with h4|⟨h4,h6⟩
   ·exact h4
   ·exact absurd h6 (hi h4)
  have sub:∀b,(A b/\b≠a)->A b:=λb z=>z.1;refine⟨λb=>A b/\b≠a,?_⟩;exact {
   slot:=λj w hj=>by
    obtain⟨v,s1,s2⟩:=r.slot j w hj;refine⟨v,s1,?_⟩;by_cases e:i=j
    ·subst e;rw[hu] at hj;cases hj;rw[h1] at s1;cases s1;rw[hU (by rw[jC];exact Vb)];exact h5.rp sub λz=>z.2 rfl
    ·rw[ke e];by_cases cj:G.is j=true
     ·rw[hV cj] at s2 ⊢;obtain⟨b,e1,e2,e3,e4,e5⟩:=s2;refine⟨b,e1,⟨e2,λz=>?_⟩,e3,e4,e5.mono sub⟩;subst z e1;exact r.dis i j u w b c cj e hu hj h1 s1
     ·rw[hU cj] at s2 ⊢;exact s2.mono sub
   dis:=λj k w w' b cj ck ne hj hk sj sk=>by
    have e1:i≠j:=λz=>by subst z;rw[jC] at cj;cases cj
    have e2:i≠k:=λz=>by subst z;rw[jC] at ck;cases ck
    rw[ke e1] at cj;rw[ke e2] at ck;exact r.dis j k w w' b cj ck ne hj hk sj sk
   mu:=λb z=>r.mu b z.1
   sup:=λb z=>⟨r.sup b z,λe=>na (e▸z)⟩
   out:=λb z=>r.out b z.1
   bas:=r.bas
   io0:=io0
   len:=r.len}
 ·refine⟨A,?_⟩;exact {
   slot:=λj w hj=>by
    obtain⟨v,s1,s2⟩:=r.slot j w hj;refine⟨v,s1,?_⟩;by_cases e:i=j
    ·subst e;rw[hU (by rw[jC];exact Vb)];rw[hU (λz=>c ⟨z,w,hj⟩)] at s2;exact s2
    ·rw[ke e];exact s2
   dis:=λj k w w' b cj ck ne hj hk sj sk=>by
    have e1:i≠j:=λz=>by subst z;rw[jC] at cj;cases cj
    have e2:i≠k:=λz=>by subst z;rw[jC] at ck;cases ck
    rw[ke e1] at cj;rw[ke e2] at ck;exact r.dis j k w w' b cj ck ne hj hk sj sk
   mu:=r.mu
   sup:=r.sup
   out:=r.out
   bas:=r.bas
   io0:=io0
   len:=r.len}
theorem cu.reun (r:cu K (G.un i) Z A ρ σ H):cu K G Z A (ρ.set i none) σ H where
 slot:=λj w hj=>by
  rcases cR hj with⟨rfl,e⟩|⟨ne,e⟩
  ·cases e
  ·obtain⟨v,s1,s2⟩:=r.slot j w e;rw[ke ne] at s2;exact⟨v,s1,s2⟩
 dis:=λj k w w' a cj ck ne hj hk sj sk=>by
  rcases cR hj with⟨rfl,e⟩|⟨n1,e1⟩
  ·cases e
  ·rcases cR hk with⟨rfl,e⟩|⟨n2,e2⟩
   ·cases e
   ·exact r.dis j k w w' a (by rw[ke n1];exact cj) (by rw[ke n2];exact ck) ne e1 e2 sj sk
 mu:=r.mu
 sup:=r.sup
 out:=r.out
 bas:=r.bas
 io0:=λh=>by
  obtain⟨a,b⟩:=r.io0 h;refine⟨a,?_⟩;by_cases e:i=0
  ·subst e;rw[jC] at b;cases b
  ·rw[ke e] at b;exact b
 len:=by rw[Wl];exact r.len
end
noncomputable def tP (i:Nat)(g:Ev->SR):Ev->SR:=λρ=>match g ρ with
 | .nx ρ'=>.nx (ρ'.set i none)
 | .bk ρ'=>.bk (ρ'.set i none)
 | .ct ρ'=>.ct (ρ'.set i none)
 | .rt u ρ'=>.rt u (ρ'.set i none)
 |r=>r
section
variable {e:W5}{Pe:List Zf}{m m1:Md}{g:Ev->SR}{g1:Ev->R (U×Ev)}{h1:Ev->R (Bool×Ev)}
theorem FH (hi:G.io=true->i≠0){D:lH}(h:ML X.K G m (tP i g) D σ H):ML X.K (G.un i) m g D σ H:=by
 obtain⟨Z,A,ρ,q,f⟩:=h;obtain⟨A',q'⟩:=q.un hi;refine⟨Z,A',ρ,q',?_⟩;unfold tP at f;cases e:g ρ with
 |nx=>rw[e] at f;exact λA2 σ2 H2 q2=>f A2 σ2 H2 q2.reun
 |bk=>rw[e] at f;exact λA2 σ2 H2 q2=>f A2 σ2 H2 q2.reun
 |ct=>rw[e] at f;exact λA2 σ2 H2 q2=>f A2 σ2 H2 q2.reun
 |rt=>rw[e] at f;exact λA2 σ2 H2 v q2 vm=>f A2 σ2 H2 v q2.reun vm
 |exc=>rw[e] at f;exact f
 |stk=>rw[e] at f;exact f.elim
theorem vJ (i:Nat)(h:zv X (G.un i) m Pe g)(hi:G.io=true->i≠0:=by decide):zv X G m Pe (tP i g):=⟨h.un.to λ_ _ _ z=>FH hi z⟩
end
end L2
namespace Hc.Ts
noncomputable def f6:Bool->VA->Array VA->Nat->Nat->Nat->StateT Vz Sem (Option Nat):=sortPriv% PySem.Builtin.gallop
noncomputable def gN (left:Bool)(key:VA)(arr:Array VA)(base i:Nat):StateT Vz Sem (Option Bool):=do
 let x ←aao arr (base+i)
 if left then lt' x key else return (←lt' key x).map (!·)
theorem zX (left:Bool)(key:VA)(arr:Array VA)(base n hint:Nat):f6 left key arr base n hint=(do
 let mut lastofs:=0
 let mut ofs:=1
 let mut lo:=0
 let mut hi:=0
 let some right ←gN left key arr base hint|return none
 if right then
  let maxofs:=n-hint
  for _ in [0:n] do
   if ofs≥maxofs then break
   let some more ←gN left key arr base (hint+ofs)|return none
   if !more then break
   lastofs:=ofs
   ofs:=2*ofs+1
  lo:=hint+lastofs+1
  hi:=hint+min ofs maxofs
 else
  let maxofs:=hint+1
  for _ in [0:n] do
   if ofs≥maxofs then break
   let some found ←gN left key arr base (hint-ofs)|return none
   if found then break
   lastofs:=ofs
   ofs:=2*ofs+1
  lo:=hint+1-min ofs maxofs
  hi:=hint-lastofs
 for _ in [0:n] do
  if lo≥hi then break
  let m:=lo+(hi-lo) / 2
  let some more ←gN left key arr base m|return none
  if more then lo:=m+1 else hi:=m
 return some hi):=rfl
section
variable {A:VR}
noncomputable def HQ (left:Bool)(key:VA)(arr:Array VA)(base n Ub R0:Nat):StateT Vz Sem (Option Nat):=do
 let mut lo:=Ub
 let mut hi:=R0
 for _ in [0:n] do
  if lo≥hi then break
  let m:=lo+(hi-lo) / 2
  let some more ←gN left key arr base m|return none
  if more then lo:=m+1 else hi:=m
 return some hi
theorem Br {left:Bool}{key:VA}{lo hi:Nat}{st:Vz}{Q:Option Nat->Vz->Prop}(b:Nat->Bool)(hb:∀i,i<n->∀Q:Option Bool->Vz->Prop,Q (some (b i)) st->wpS M A E s (gN left key arr base i) Q st)(mono:∀i j,i<=j->j<n->b j=true->b i=true)(h1:lo<=hi)(h2:hi<=n)(hl:∀i,i<lo->b i=true)(hr:∀i,hi<=i->i<n->b i=false)(h:∀k,k<=n->(∀i,i<k->b i=true)->(∀i,k<=i->i<n->b i=false)->Q (some k) st):wpS M A E s (HQ left key arr base n lo hi) Q st:=by
 unfold HQ;refine Vn (XG (Wx (I:=λx c aQ=>aQ=st/\∃l r,c=(none,l,r)/\l<=r/\r<=n/\r-l<=n-x/\(∀i,i<l->b i=true)/\∀i,r<=i->i<n->b i=false)
  (Q:=λc aQ=>aQ=st/\∃k,c=(none,k,k)/\k<=n/\(∀i,i<k->b i=true)/\∀i,k<=i->i<n->b i=false) ?step ?fin ⟨rfl,lo,hi,rfl,h1,h2,by lia,hl,hr⟩) ?post)
 case fin=>
  rintro c aQ ⟨rfl,l,r,rfl,a1,a2,a3,a4,a5⟩;have:l=r:=by lia
  subst this;exact⟨rfl,l,rfl,a2,a4,a5⟩
 case step=>
  rintro x c aQ _ hx ⟨rfl,l,r,rfl,a1,a2,a3,a4,a5⟩;dsimp only;by_cases c:l≥r
  ·rw[hV c];have:l=r:=by lia
   subst this;exact Vt ⟨rfl,l,rfl,a2,a4,a5⟩
  ·rw[hU c];refine Vn (hb _ (by lia) _ ?_);dsimp only;cases e:b (l+(r-l) / 2) with
   |true=>
    rw[hV rfl];exact Vt ⟨rfl,_,r,rfl,by lia,a2,by lia,λi hi=>mono i _ (by lia) (by lia) e,a5⟩
   |false=>
    rw[hU Vb];refine Vt ⟨rfl,l,_,rfl,by lia,by lia,by lia,a4,λi h1 h2=>?_⟩;cases e2:b i with
    |false=>rfl
    |true=>rw[mono _ i h1 h2 e2] at e;cases e
 case post=>
  rintro c aQ ⟨rfl,k,rfl,a1,a2,a3⟩;exact Vt (h k a1 a2 a3)
theorem uN {left:Bool}{key:VA}{hint:Nat}{st:Vz}{Q:Option Nat->Vz->Prop}(b:Nat->Bool)(hb:∀i,i<n->∀Q:Option Bool->Vz->Prop,Q (some (b i)) st->wpS M A E s (gN left key arr base i) Q st)(mono:∀i j,i<=j->j<n->b j=true->b i=true)(hh:hint<n)(h:∀k,k<=n->(∀i,i<k->b i=true)->(∀i,k<=i->i<n->b i=false)->Q (some k) st):wpS M A E s (f6 left key arr base n hint) Q st:=by
 have low:∀i j,i<=j->j<n->b i=false->b j=false:=λi j h1 h2 e=>by
  cases e2:b j with
  |false=>rfl
  |true=>rw[mono i j h1 h2 e2] at e;cases e
 rw[zX];refine Vn (hb hint hh _ ?_);dsimp only;cases e0:b hint with
 |true=>
  rw[hV rfl];refine Vn (XG (Wx (I:=λx c aQ=>aQ=st/\∃l o,c=(none,l,o)/\l<o/\x+1<=o/\hint+l<n/\b (hint+l)=true)
   (Q:=λc aQ=>aQ=st/\∃l o,c=(none,l,o)/\l<o/\hint+l<n/\b (hint+l)=true/\(o≥n-hint\/b (hint+o)=false)) ?step ?fin ⟨rfl,0,1,rfl,by lia,by lia,hh,e0⟩) ?post)
  case fin=>
   rintro c aQ ⟨rfl,l,o,rfl,a1,a2,a3,a4⟩;exact⟨rfl,l,o,rfl,a1,a3,a4,.inl (by lia)⟩
  case step=>
   rintro x c aQ _ hx ⟨rfl,l,o,rfl,a1,a2,a3,a4⟩;dsimp only;by_cases c:o≥n-hint
   ·rw[hV c];exact Vt ⟨rfl,l,o,rfl,a1,a3,a4,.inl c⟩
   ·rw[hU c];refine Vn (hb _ (by lia) _ ?_);dsimp only;cases e:b (hint+o) with
    |true=>
     rw[hU (by decide)];exact Vt ⟨rfl,o,_,rfl,by lia,by lia,by lia,e⟩
    |false=>
     rw[hV (by decide)];exact Vt ⟨rfl,l,o,rfl,a1,a3,a4,.inr e⟩
  case post=>
   rintro c aQ ⟨rfl,l,o,rfl,a1,a3,a4,a5⟩;show wpS _ _ _ _ (HQ left key arr base n (hint+l+1) (hint+min o (n-hint))) _ _;refine Br b hb mono (by lia) (by lia) (λi hi=>mono i _ (by lia) a3 a4) (λi h1 h2=>?_) h;rcases a5 with a5|a5
   ·lia
   ·by_cases c:o<=n-hint
    ·rw[Yp c] at h1;exact low _ i h1 h2 a5
    ·lia
 |false=>
  rw[hU Vb];refine Vn (XG (Wx (I:=λx c aQ=>aQ=st/\∃l o,c=(none,l,o)/\l<o/\x+1<=o/\l<=hint/\b (hint-l)=false)
   (Q:=λc aQ=>aQ=st/\∃l o,c=(none,l,o)/\l<o/\l<=hint/\b (hint-l)=false/\(o≥hint+1\/b (hint-o)=true)) ?step ?fin ⟨rfl,0,1,rfl,by lia,by lia,by lia,e0⟩) ?post)
  case fin=>
   rintro c aQ ⟨rfl,l,o,rfl,a1,a2,a3,a4⟩;exact⟨rfl,l,o,rfl,a1,a3,a4,.inl (by lia)⟩
  case step=>
   rintro x c aQ _ hx ⟨rfl,l,o,rfl,a1,a2,a3,a4⟩;dsimp only;by_cases c:o≥hint+1
   ·rw[hV c];exact Vt ⟨rfl,l,o,rfl,a1,a3,a4,.inl c⟩
   ·rw[hU c];refine Vn (hb _ (by lia) _ ?_);dsimp only;cases e:b (hint-o) with
    |true=>
     rw[hV rfl];exact Vt ⟨rfl,l,o,rfl,a1,a3,a4,.inr e⟩
    |false=>
     rw[hU Vb];exact Vt ⟨rfl,o,_,rfl,by lia,by lia,by lia,e⟩
  case post=>
   rintro c aQ ⟨rfl,l,o,rfl,a1,a3,a4,a5⟩;show wpS _ _ _ _ (HQ left key arr base n (hint+1-min o (hint+1)) (hint-l)) _ _;refine Br b hb mono (by lia) (by lia) (λi hi=>?_) (λi h1 h2=>low _ i h1 h2 a4) h;rcases a5 with a5|a5
   ·lia
   ·by_cases c:o<=hint+1
    ·rw[Yp c] at hi;exact mono i _ (by lia) (by lia) a5
    ·lia
end
end Hc.Ts
namespace Hc.Ts
section
variable {O:aaC}(key:VA->O.α)
def iP (l:List VA):Prop:=l.Pairwise λx y=>O.kle (key x) (key y)
structure MI (T o ra rb:List VA):Prop where
 perm:(o++(ra++rb)).Perm T
 so:iP key o
 sa:iP key ra
 sb:iP key rb
 oa:∀x∈o,∀y∈ra,O.kle (key x) (key y)
 ob:∀x∈o,∀y∈rb,O.kle (key x) (key y)
structure MH (T ra rb o:List VA):Prop where
 perm:((ra++rb)++o).Perm T
 so:iP key o
 sa:iP key ra
 sb:iP key rb
 oa:∀x∈ra,∀y∈o,O.kle (key x) (key y)
 ob:∀x∈rb,∀y∈o,O.kle (key x) (key y)
variable {key}
theorem bt {r:List VA}:iP key (l++r)↔iP key l/\iP key r/\∀x∈l,∀y∈r,O.kle (key x) (key y):=List.pairwise_append
theorem MI.stepA {x:List VA}(h:MI key T o (x++ra) rb)(hx:∀a∈x,∀b∈rb,O.kle (key a) (key b)):MI key T (o++x) ra rb:=by
 obtain⟨s1,s2,s3⟩:=bt.mp h.sa;refine⟨?_,bt.mpr ⟨h.so,s1,λa ha b hb=>h.oa a ha b (VF _ hb)⟩,s2,h.sb,λa ha b hb=>?_,λa ha b hb=>?_⟩
 ·have e:o++x++(ra++rb)=o++(x++ra++rb):=by simp[VC]
  rw[e];exact h.perm
 ·rcases Vv.mp ha with ha|ha
  ·exact h.oa a ha b (Vm _ hb)
  ·exact s3 a ha b hb
 ·rcases Vv.mp ha with ha|ha
  ·exact h.ob a ha b hb
  ·exact hx a ha b hb
theorem MI.stepB {y:List VA}(h:MI key T o ra (y++rb))(hy:∀b∈y,∀a∈ra,O.kle (key b) (key a)):MI key T (o++y) ra rb:=by
 obtain⟨s1,s2,s3⟩:=bt.mp h.sb;refine⟨?_,bt.mpr ⟨h.so,s1,λa ha b hb=>h.ob a ha b (VF _ hb)⟩,h.sa,s2,λa ha b hb=>?_,λa ha b hb=>?_⟩
 ·refine List.Perm.trans ?_ h.perm;have e:o++y++(ra++rb)=o++((y++ra)++rb):=by simp[VC]
  have e2:o++(ra++(y++rb))=o++((ra++y)++rb):=by simp[VC]
  rw[e,e2];exact Wv o (W7 rb Yq)
 ·rcases Vv.mp ha with ha|ha
  ·exact h.oa a ha b hb
  ·exact hy a ha b hb
 ·rcases Vv.mp ha with ha|ha
  ·exact h.ob a ha b (Vm _ hb)
  ·exact s3 a ha b hb
theorem MI.endA (h:MI key T o ra []):(o++ra).Perm T/\iP key (o++ra):=by
 refine⟨?_,bt.mpr ⟨h.so,h.sa,h.oa⟩⟩;have:=h.perm;rw[VU] at this;exact this
theorem MI.endB (h:MI key T o [] rb):(o++rb).Perm T/\iP key (o++rb):=⟨h.perm,bt.mpr ⟨h.so,h.sb,h.ob⟩⟩
theorem MI.last (h:MI key T o ra rb)(hl:∀b∈rb,∀a∈ra,O.kle (key b) (key a)):(o++(rb++ra)).Perm T/\iP key (o++(rb++ra)):=
 ⟨(Wv o Yq).trans h.perm,bt.mpr ⟨h.so,bt.mpr ⟨h.sb,h.sa,hl⟩,λa ha b hb=>by
  rcases Vv.mp hb with hb|hb
  ·exact h.ob a ha b hb
  ·exact h.oa a ha b hb⟩⟩
theorem MH.stepA {x:List VA}(h:MH key T (ra++x) rb o)(hx:∀b∈rb,∀a∈x,O.kle (key b) (key a)):MH key T ra rb (x++o):=by
 obtain⟨s1,s2,s3⟩:=bt.mp h.sa;refine⟨?_,bt.mpr ⟨s2,h.so,λa ha b hb=>h.oa a (Vm _ ha) b hb⟩,s1,h.sb,λa ha b hb=>?_,λa ha b hb=>?_⟩
 ·refine List.Perm.trans ?_ h.perm;have e:ra++rb++(x++o)=(ra++(rb++x))++o:=by simp[VC]
  have e2:ra++x++rb++o=(ra++(x++rb))++o:=by simp[VC]
  rw[e,e2];exact W7 o (Wv ra Yq)
 ·rcases Vv.mp hb with hb|hb
  ·exact s3 a ha b hb
  ·exact h.oa a (VF _ ha) b hb
 ·rcases Vv.mp hb with hb|hb
  ·exact hx a ha b hb
  ·exact h.ob a ha b hb
theorem MH.stepB {y:List VA}(h:MH key T ra (rb++y) o)(hy:∀a∈ra,∀b∈y,O.kle (key a) (key b)):MH key T ra rb (y++o):=by
 obtain⟨s1,s2,s3⟩:=bt.mp h.sb;refine⟨?_,bt.mpr ⟨s2,h.so,λa ha b hb=>h.ob a (Vm _ ha) b hb⟩,h.sa,s1,λa ha b hb=>?_,λa ha b hb=>?_⟩
 ·have e:ra++rb++(y++o)=ra++(rb++y)++o:=by simp[VC]
  rw[e];exact h.perm
 ·rcases Vv.mp hb with hb|hb
  ·exact hy a ha b hb
  ·exact h.oa a ha b hb
 ·rcases Vv.mp hb with hb|hb
  ·exact s3 a ha b hb
  ·exact h.ob a (VF _ ha) b hb
theorem MH.endB (h:MH key T [] rb o):(rb++o).Perm T/\iP key (rb++o):=⟨h.perm,bt.mpr ⟨h.sb,h.so,h.ob⟩⟩
theorem MH.endA (h:MH key T ra [] o):(ra++o).Perm T/\iP key (ra++o):=by
 refine⟨?_,bt.mpr ⟨h.sa,h.so,h.oa⟩⟩;have:=h.perm;rw[VU] at this;exact this
theorem MH.first (h:MH key T ra rb o)(hl:∀b∈rb,∀a∈ra,O.kle (key b) (key a)):((rb++ra)++o).Perm T/\iP key ((rb++ra)++o):=
 ⟨(W7 o Yq).trans h.perm,bt.mpr ⟨bt.mpr ⟨h.sb,h.sa,hl⟩,h.so,λa ha b hb=>by
  rcases Vv.mp ha with ha|ha
  ·exact h.ob a ha b hb
  ·exact h.oa a ha b hb⟩⟩
end
structure ly (M:Model)(A:VR)(E:Va->Vo->Prop)(s:Vo)(O:aaC)(key:VA->O.α)(knd:YQ)(D:VA->Prop):Prop where
 lt:∀(x y:VA) (st:Vz) (Q:Option Bool->Vz->Prop),D x->D y->Wu st=knd->Q (some (O.blt (key x) (key y))) st->wpS M A E s (lt' x y) Q st
section
variable {A:VR}{O:aaC}{key:VA->O.α}{knd:YQ}{D:VA->Prop}
theorem bz {x:VA}{st:Vz}{Q:VA->Vz->Prop}(h:arr.toList[i]? = some x)(q:Q x st):wpS M A E s (aao arr i) Q st:=by
 have h:arr[i]? = some x:=by rw[←Vq];exact h
 rw[elem'_eq,h];exact Vt q
theorem lS (C:ly M A E s O key knd D){kx:VA}{hint:Nat}{seg:List VA}{st:Vz}{Q:Option Nat->Vz->Prop}(MG:∀i x,seg[i]? = some x->arr.toList[base+i]? = some x)(hs:iP key seg)(hD:∀x∈seg,D x)(hk:D kx)(kd:Wu st=knd)(hh:hint<seg.length)(h:∀k,k<=seg.length->(∀x∈seg.take k,O.kle (key x) (key kx))->(∀x∈seg.drop k,O.klt (key kx) (key x))->Q (some k) st):wpS M A E s (f6 false kx arr base seg.length hint) Q st:=by
 have at_:∀i,(hi:i<seg.length)->seg[i]? = some seg[i]:=λi hi=>U4 hi;refine uN (λi=> !(match seg[i]? with|some x=>O.blt (key kx) (key x)|none=>false)) (λi hi Q q=>?_) (λi j ue hj e=>?_) hh λk As h1 h2=>h k As (λx hx=>?_) λx hx=>?_
 ·rw[at_ i hi] at q;unfold gN;refine Vn (bz (MG i _ (at_ i hi)) ?_);rw[hU Vb];exact Vn (C.lt _ _ st _ hk (hD _ (VS hi)) kd (Vt q))
 ·have hi:i<seg.length:=by lia
  simp only[at_ i hi,at_ j hj,Bool.not_eq_true'] at e ⊢;by_cases c:i=j
  ·subst c;exact e
  ·have:=XO.mp hs i j hi hj (by lia);exact VI this e
 ·obtain⟨i,hi,rfl⟩:=Xk.mp hx;rw[V5] at hi;have:=h1 i (by lia);simp only[at_ i (by lia),Bool.not_eq_true'] at this;rw[Zs];exact this
 ·obtain⟨i,hi,rfl⟩:=Xk.mp hx;rw[Wy] at hi;have:=h2 (k+i) (by lia) (by lia);simp only[at_ (k+i) (by lia),Bool.not_eq_false'] at this;rw[List.getElem_drop];exact this
theorem lT (C:ly M A E s O key knd D){kx:VA}{hint:Nat}{seg:List VA}{st:Vz}{Q:Option Nat->Vz->Prop}(MG:∀i x,seg[i]? = some x->arr.toList[base+i]? = some x)(hs:iP key seg)(hD:∀x∈seg,D x)(hk:D kx)(kd:Wu st=knd)(hh:hint<seg.length)(h:∀k,k<=seg.length->(∀x∈seg.take k,O.klt (key x) (key kx))->(∀x∈seg.drop k,O.kle (key kx) (key x))->Q (some k) st):wpS M A E s (f6 true kx arr base seg.length hint) Q st:=by
 have at_:∀i,(hi:i<seg.length)->seg[i]? = some seg[i]:=λi hi=>U4 hi;refine uN (λi=>match seg[i]? with|some x=>O.blt (key x) (key kx)|none=>false) (λi hi Q q=>?_) (λi j ue hj e=>?_) hh λk As h1 h2=>h k As (λx hx=>?_) λx hx=>?_
 ·rw[at_ i hi] at q;unfold gN;refine Vn (bz (MG i _ (at_ i hi)) ?_);rw[hV rfl];exact C.lt _ _ st _ (hD _ (VS hi)) hk kd q
 ·have hi:i<seg.length:=by lia
  simp only[at_ i hi,at_ j hj] at e ⊢;by_cases c:i=j
  ·subst c;exact e
  ·have:=XO.mp hs i j hi hj (by lia);exact KeyOrd.klt_of_kle_of_klt this e
 ·obtain⟨i,hi,rfl⟩:=Xk.mp hx;rw[V5] at hi;have:=h1 i (by lia);simp only[at_ i (by lia)] at this;rw[Zs];exact this
 ·obtain⟨i,hi,rfl⟩:=Xk.mp hx;rw[Wy] at hi;have:=h2 (k+i) (by lia) (by lia);simp only[at_ (k+i) (by lia)] at this;rw[List.getElem_drop];exact this
end
end Hc.Ts
namespace Hc.Ts
noncomputable abbrev dw (st:Vz)(g:Nat):Vz:=SortSt.mk' (Wu st) (VQ st) (VM st) g (YR st)
noncomputable def bY (g:Nat):StateT Vz Sem Unit:=modify λs=>dw s g
noncomputable def rP:Array VA->Array VA->StateT Vz Sem (Array VA):=sortPriv% PySem.Builtin.mergeLo
noncomputable abbrev JW:=Option (Array VA)×Array VA×Nat×Nat×Nat×Nat×Nat
noncomputable abbrev MP:=Option (Array VA)×Array VA×Nat×Nat×Nat×Nat
noncomputable abbrev PX:=Option (Array VA)×Array VA×Nat×Nat×Nat
noncomputable def gA (a b out:Array VA)(ia ib:Nat):Array VA:=out++a.extract ia a.size++b.extract ib b.size
noncomputable def lU (a b out:Array VA)(ia ib:Nat):Array VA:=out++b.extract ib b.size++a.extract ia a.size
noncomputable def HU (a b out:Array VA)(ia ib g k k1:Nat):StateT Vz Sem (ForInStep JW):=do
 let x ←aao a ia
 if (ia+1+1==a.size)=true then pure (.done (some (lU a b (out.push x) (ia+1) ib),out.push x,ia+1,ib,g,k,k1))
 else if (decide (k<7)&&decide (k1<7))=true then pure (.done (none,out.push x,ia+1,ib,g,k,k1))
 else pure (.yield (none,out.push x,ia+1,ib,g,k,k1))
noncomputable def HV (a b out:Array VA)(ia ib g k bc:Nat):StateT Vz Sem (ForInStep JW):=do
 let y ←aao b ib
 if (ib+1==b.size)=true then pure (.done (some (gA a b (out.push y) ia (ib+1)),out.push y,ia,ib+1,g,k,bc))
 else do
  let x ←aao a ia
  let some k1 ←f6 true x b (ib+1) (b.size-(ib+1)) 0|pure (.done (some (gA a b (out.push y) ia (ib+1)),out.push y,ia,ib+1,g,k,bc))
  if k1>0 then
   if (ib+1+k1==b.size)=true then pure (.done (some (gA a b (out.push y++b.extract (ib+1) (ib+1+k1)) ia (ib+1+k1)),out.push y++b.extract (ib+1) (ib+1+k1),ia,ib+1+k1,g,k,k1))
   else HU a b (out.push y++b.extract (ib+1) (ib+1+k1)) ia (ib+1+k1) g k k1
  else HU a b (out.push y) ia (ib+1) g k k1
noncomputable def HW (a b out:Array VA)(ia ib g ac bc:Nat):StateT Vz Sem (ForInStep JW):=do
 bY g
 let y ←aao b ib
 let some k ←f6 false y a ia (a.size-ia) 0|pure (.done (some (gA a b out ia ib),out,ia,ib,g,ac,bc))
 if k>0 then
  if (ia+k+1==a.size)=true then pure (.done (some (lU a b (out++a.extract ia (ia+k)) (ia+k) ib),out++a.extract ia (ia+k),ia+k,ib,g,k,bc))
  else if (ia+k==a.size)=true then pure (.done (some (gA a b (out++a.extract ia (ia+k)) (ia+k) ib),out++a.extract ia (ia+k),ia+k,ib,g,k,bc))
  else HV a b (out++a.extract ia (ia+k)) (ia+k) ib g k bc
 else HV a b out ia ib g k bc
noncomputable def QT (a b:Array VA)(_:Nat)(c:JW):StateT Vz Sem (ForInStep JW):=
 if c.2.2.2.2.1>1 then HW a b c.2.1 c.2.2.1 c.2.2.2.1 (c.2.2.2.2.1-1) c.2.2.2.2.2.1 c.2.2.2.2.2.2
 else HW a b c.2.1 c.2.2.1 c.2.2.2.1 c.2.2.2.2.1 c.2.2.2.2.2.1 c.2.2.2.2.2.2
noncomputable def QU (a b:Array VA)(g:Nat)(_:Nat)(c:MP):StateT Vz Sem (ForInStep MP):=do
 let y ←aao b c.2.2.2.1
 let x ←aao a c.2.2.1
 let some bWins ←lt' y x|pure (.done (some (gA a b c.2.1 c.2.2.1 c.2.2.2.1),c.2.1,c.2.2.1,c.2.2.2.1,c.2.2.2.2.1,c.2.2.2.2.2))
 if bWins=true then do
   let y ←aao b c.2.2.2.1
   if (c.2.2.2.1+1==b.size)=true then pure (.done (some (gA a b (c.2.1.push y) c.2.2.1 (c.2.2.2.1+1)),c.2.1.push y,c.2.2.1,c.2.2.2.1+1,0,c.2.2.2.2.2+1))
   else if c.2.2.2.2.2+1≥g then pure (.done (none,c.2.1.push y,c.2.2.1,c.2.2.2.1+1,0,c.2.2.2.2.2+1))
   else pure (.yield (none,c.2.1.push y,c.2.2.1,c.2.2.2.1+1,0,c.2.2.2.2.2+1))
 else do
   let x ←aao a c.2.2.1
   if (c.2.2.1+1+1==a.size)=true then pure (.done (some (lU a b (c.2.1.push x) (c.2.2.1+1) c.2.2.2.1),c.2.1.push x,c.2.2.1+1,c.2.2.2.1,c.2.2.2.2.1+1,0))
   else if c.2.2.2.2.1+1≥g then pure (.done (none,c.2.1.push x,c.2.2.1+1,c.2.2.2.1,c.2.2.2.2.1+1,0))
   else pure (.yield (none,c.2.1.push x,c.2.2.1+1,c.2.2.2.1,c.2.2.2.2.1+1,0))
noncomputable def QV (a b:Array VA)(_:Nat)(c:PX):StateT Vz Sem (ForInStep PX):=do
 let d ←forIn [0:a.size+b.size] (none,c.2.1,c.2.2.1,c.2.2.2.1,0,0) (QU a b c.2.2.2.2)
 match d.1 with
 |some r=>pure (.done (some r,d.2.1,d.2.2.1,d.2.2.2.1,c.2.2.2.2))
 |none=>do
  liftM (rule "list.sort.gallop")
  let e ←forIn [0:a.size+b.size] (none,d.2.1,d.2.2.1,d.2.2.2.1,c.2.2.2.2+1,d.2.2.2.2.1,d.2.2.2.2.2) (QT a b)
  match e.1 with
  |some r=>pure (.done (some r,e.2.1,e.2.2.1,e.2.2.2.1,e.2.2.2.2.1))
  |none=>do
   bY (e.2.2.2.2.1+1)
   pure (.yield (none,e.2.1,e.2.2.1,e.2.2.2.1,e.2.2.2.2.1+1))
theorem vK (a b:Array VA):rP a b=(do
  liftM (rule "list.sort.merge-lo")
  let y ←aao b 0
  if (1==b.size)=true then pure (gA a b #[y] 0 1)
  else if (0+1==a.size)=true then pure (lU a b #[y] 0 1)
  else do
   let st ←get
   let c ←forIn [0:a.size+b.size] ((none,#[y],0,1,aah st):PX) (QV a b)
   match c.1 with
   |some r=>pure r
   |none=>liftM (Zn "internal:list.sort.merge-bound")):=by kernel_rfl
section
variable {A:VR}{O:aaC}{key:VA->O.α}{knd:YQ}{D:VA->Prop}
theorem qb (a:Array VA)(i:Nat):(a.extract i a.size).toList=a.toList.drop i:=by
 rw[XS,XQ];exact Xx (by simp)
theorem vL (a:Array VA)(i k:Nat):(a.extract i (i+k)).toList=(a.toList.drop i).take k:=by
 rw[XS,XQ,WV]
theorem xN (a b out:Array VA)(ia ib:Nat):(gA a b out ia ib).toList=out.toList++(a.toList.drop ia++b.toList.drop ib):=by
 unfold gA;rw[V7,V7,qb,qb,VC]
theorem FI (a b out:Array VA)(ia ib:Nat):(lU a b out ia ib).toList=out.toList++(b.toList.drop ib++a.toList.drop ia):=by
 unfold lU;rw[V7,V7,qb,qb,VC]
theorem kQ (h:i<l.length):l.drop i=[l[i]]++l.drop (i+1):=Wq h
theorem rQ (i k:Nat):l.drop i=(l.drop i).take k++l.drop (i+k):=by rw[←List.drop_drop,Ww]
def qc (key:VA->O.α)(T:List VA)(r:Array VA):Prop:=r.toList.Perm T/\iP key r.toList
structure LI (key:VA->O.α)(T:List VA)(a b out:Array VA)(ia ib:Nat):Prop where
 ha:ia+1<a.size
 hb:ib<b.size
 mi:MI key T out.toList (a.toList.drop ia) (b.toList.drop ib)
structure LR (key:VA->O.α)(D:VA->Prop)(a b:Array VA):Prop where
 da:∀x∈a.toList,D x
 db:∀x∈b.toList,D x
 last:∀i,i+1=a.size->∀y∈b.toList,∀x,a.toList[i]? = some x->O.kle (key y) (key x)
variable {a b out:Array VA}{ia ib:Nat}
theorem LR.fin (R:LR key D a b)(h:MI key T out.toList (a.toList.drop ia) (b.toList.drop ib))(e:ia+1=a.size):qc key T (lU a b out ia ib):=by
 unfold qc;rw[FI];refine h.last λy hy x hx=>?_;have hl:ia<a.toList.length:=by rw[U9];lia
 have hn:a.toList.drop (ia+1)=[]:=Ye (by rw[U9];lia);rw[kQ hl,hn,VU,Vu] at hx;subst hx;exact R.last ia e y (Xl hy) _ (U4 hl)
theorem Bs (h:MI key T out.toList (a.toList.drop ia) (b.toList.drop ib))(e:ib=b.size):qc key T (gA a b out ia ib):=by
 have hn:b.toList.drop ib=[]:=Ye (by rw[U9];lia);unfold qc;rw[xN];rw[hn] at h ⊢;rw[VU];exact h.endA
theorem Ou (h:MI key T out.toList (a.toList.drop ia) (b.toList.drop ib))(e:ia=a.size):qc key T (gA a b out ia ib):=by
 have hn:a.toList.drop ia=[]:=Ye (by rw[U9];lia);unfold qc;rw[xN];rw[hn] at h ⊢;rw[WS];exact h.endB
theorem kg (h:iP key (l.drop i))(hl:i<l.length):∀x∈l.drop i,O.kle (key l[i]) (key x):=by
 intro x hx;rw[kQ hl] at h hx;rcases Vv.mp hx with hx|hx
 ·rw[Vu] at hx;subst hx;exact WJ _
 ·exact (bt.mp h).2.2 _ (by simp) x hx
theorem JX (h:MI key T out.toList (a.toList.drop ia) (b.toList.drop ib))(hl:ia<a.toList.length)(hx:∀y∈b.toList.drop ib,O.kle (key a.toList[ia]) (key y)):MI key T (out.push a.toList[ia]).toList (a.toList.drop (ia+1)) (b.toList.drop ib):=by
 rw[Xs];rw[kQ hl] at h;exact h.stepA λx tw y hy=>by rw[Vu] at tw;subst tw;exact hx y hy
theorem FJ (h:MI key T out.toList (a.toList.drop ia) (b.toList.drop ib))(hl:ib<b.toList.length)(hx:∀x∈a.toList.drop ia,O.kle (key b.toList[ib]) (key x)):MI key T (out.push b.toList[ib]).toList (a.toList.drop ia) (b.toList.drop (ib+1)):=by
 rw[Xs];rw[kQ hl] at h;exact h.stepB λx tw y hy=>by rw[Vu] at tw;subst tw;exact hx y hy
def GE (key:VA->O.α)(T:List VA)(a b:Array VA)(n:Nat)(cq:Vz)(c:JW)(st:Vz):Prop:=
 (∃g,st=dw cq g)/\((∃r,c.1=some r/\qc key T r)\/(c.1=none/\LI key T a b c.2.1 c.2.2.1 c.2.2.2.1/\n<=c.2.2.1+c.2.2.2.1))
def GS (key:VA->O.α)(T:List VA)(a b:Array VA)(n:Nat)(cq:Vz)(r:ForInStep JW)(st:Vz):Prop:=
 match r with
 | .done c=>GE key T a b n cq c st
 | .yield c=>GE key T a b n cq c st/\c.1=none
theorem Bt (R:LR key D a b){k1:Nat}{st cq:Vz}(i0:∃g,st=dw cq g)(h:LI key T a b out ia ib)(hn:n<=ia+ib)(hx:∀(hl:ia<a.toList.length),∀y∈b.toList.drop ib,O.kle (key a.toList[ia]) (key y)) :
  wpS M A E s (HU a b out ia ib g k k1) (GS key T a b n cq) st:=by
 have hl:ia<a.toList.length:=by have:=h.ha;rw[U9];lia
 have m:=JX h.mi hl (hx hl);unfold HU;refine Vn (bz (U4 hl) ?_);by_cases c:ia+1+1=a.size
 ·rw[hV (by simpa using c)];exact Vt ⟨i0,.inl ⟨_,rfl,R.fin m c⟩⟩
 ·rw[hU (by simpa using c)];have L:LI key T a b (out.push a.toList[ia]) (ia+1) ib:=⟨by have:=h.ha;lia,h.hb,m⟩;by_cases c2:(decide (k<7)&&decide (k1<7))=true
  ·rw[hV c2];exact Vt ⟨i0,.inr ⟨rfl,L,by simp only;lia⟩⟩
  ·rw[hU c2];exact Vt ⟨⟨i0,.inr ⟨rfl,L,by simp only;lia⟩⟩,rfl⟩
theorem Bu (C:ly M A E s O key knd D)(R:LR key D a b){st cq:Vz}(i0:∃g,st=dw cq g)(kd:Wu cq=knd)(h:LI key T a b out ia ib)(hn:n<=ia+ib)(hx:∀(hl:ib<b.toList.length),∀x∈a.toList.drop ia,O.kle (key b.toList[ib]) (key x)) :
  wpS M A E s (HV a b out ia ib g k bc) (GS key T a b n cq) st:=by
 have l6:ib<b.toList.length:=by have:=h.hb;rw[U9];lia
 have pY:ia<a.toList.length:=by have:=h.ha;rw[U9];lia
 have m:=FJ h.mi l6 (hx l6);have GB:Wu st=knd:=by obtain⟨g,rfl⟩:=i0;exact kd
 unfold HV;refine Vn (bz (U4 l6) ?_);by_cases c:ib+1=b.size
 ·rw[hV (by simpa using c)];exact Vt ⟨i0,.inl ⟨_,rfl,Bs m c⟩⟩
 ·rw[hU (by simpa using c)];refine Vn (bz (U4 pY) ?_);have cZ:b.size-(ib+1)=(b.toList.drop (ib+1)).length:=by rw[Wy,U9]
  rw[cZ];refine Vn (lT C (seg:=b.toList.drop (ib+1)) (λi x e=>by rw[Za] at e;exact e) m.sb (λx hx=>R.db x (Xl hx)) (R.da _ (VS pY)) GB (by rw[←cZ];have:=h.hb;lia) λk1 As p1 p2=>?_);dsimp only;by_cases c1:k1>0
  ·rw[hV c1];have m2:MI key T (out.push b.toList[ib]++b.extract (ib+1) (ib+1+k1)).toList (a.toList.drop ia) (b.toList.drop (ib+1+k1)):=by
    rw[V7,vL];have m':=m;rw[rQ (l:=b.toList) (ib+1) k1] at m';exact m'.stepB λy hy x tw=>VI (V4 (p1 y hy)) (kg h.mi.sa pY x tw)
   by_cases c2:ib+1+k1=b.size
   ·rw[hV (by simpa using c2)];exact Vt ⟨i0,.inl ⟨_,rfl,Bs m2 c2⟩⟩
   ·rw[hU (by simpa using c2)];have:k1<=b.size-(ib+1):=by rw[cZ];exact As
    refine Bt R i0 ⟨h.ha,by have:=h.hb;lia,m2⟩ (by lia) λhl y hy=>?_;rw[←List.drop_drop] at hy;exact p2 y hy
  ·rw[hU c1];have:k1=0:=by lia
   subst this;refine Bt R i0 ⟨h.ha,by have:=h.hb;lia,m⟩ (by lia) λhl y hy=>p2 y hy
theorem Bv (C:ly M A E s O key knd D)(R:LR key D a b){ac:Nat}{st cq:Vz}(i0:∃g,st=dw cq g)(kd:Wu cq=knd)(h:LI key T a b out ia ib)(hn:n<=ia+ib) :
  wpS M A E s (HW a b out ia ib g ac bc) (GS key T a b n cq) st:=by
 have l6:ib<b.toList.length:=by have:=h.hb;rw[U9];lia
 have pY:ia<a.toList.length:=by have:=h.ha;rw[U9];lia
 unfold HW bY;have yN:∃g',dw st g=dw cq g':=by obtain⟨g0,rfl⟩:=i0;exact⟨g,rfl⟩
 have GB:Wu (dw st g)=knd:=by obtain⟨g0,rfl⟩:=i0;exact kd
 refine Vn (YY ?_);refine Vn (bz (U4 l6) ?_);have cZ:a.size-ia=(a.toList.drop ia).length:=by rw[Wy,U9]
 rw[cZ];refine Vn (lS C (seg:=a.toList.drop ia) (λi x e=>by rw[Za] at e;exact e) h.mi.sa (λx hx=>R.da x (Xl hx)) (R.db _ (VS l6)) GB (by rw[←cZ];have:=h.ha;lia) λk hk p1 p2=>?_);dsimp only;by_cases c1:k>0
 ·rw[hV c1];have m2:MI key T (out++a.extract ia (ia+k)).toList (a.toList.drop (ia+k)) (b.toList.drop ib):=by
   rw[V7,vL];have m':=h.mi;rw[rQ (l:=a.toList) ia k] at m';exact m'.stepA λx hx y hy=>VI (p1 x hx) (kg h.mi.sb l6 y hy)
  by_cases c2:ia+k+1=a.size
  ·rw[hV (by simpa using c2)];exact Vt ⟨yN,.inl ⟨_,rfl,R.fin m2 c2⟩⟩
  ·rw[hU (by simpa using c2)];by_cases c3:ia+k=a.size
   ·rw[hV (by simpa using c3)];exact Vt ⟨yN,.inl ⟨_,rfl,Ou m2 c3⟩⟩
   ·rw[hU (by simpa using c3)];have:k<=a.size-ia:=by rw[cZ];exact hk
    refine Bu C R yN kd ⟨by have:=h.ha;lia,h.hb,m2⟩ (by lia) λhl x hx=>?_;rw[←List.drop_drop] at hx;exact V4 (p2 x hx)
 ·rw[hU c1];have:k=0:=by lia
  subst this;exact Bu C R yN kd h hn λhl x hx=>V4 (p2 x hx)
theorem LH (C:ly M A E s O key knd D)(R:LR key D a b){c:JW}{st cq:Vz}(i0:∃g,st=dw cq g)(kd:Wu cq=knd)(h:LI key T a b c.2.1 c.2.2.1 c.2.2.2.1)(hn:n<=c.2.2.1+c.2.2.2.1) :
  wpS M A E s (QT a b i c) (GS key T a b n cq) st:=by
 unfold QT;split
 ·exact Bv C R i0 kd h hn
 ·exact Bv C R i0 kd h hn
theorem LJ (C:ly M A E s O key knd D)(R:LR key D a b){c:MP}{st:Vz}{Q:ForInStep MP->Vz->Prop}(kd:Wu st=knd)(h:LI key T a b c.2.1 c.2.2.1 c.2.2.2.1)(h1:∀d:MP,(∃r,d.1=some r/\qc key T r)\/(d.1=none/\LI key T a b d.2.1 d.2.2.1 d.2.2.2.1/\c.2.2.1+c.2.2.2.1+1=d.2.2.1+d.2.2.2.1)->Q (.done d) st)(h2:∀d:MP,d.1=none->LI key T a b d.2.1 d.2.2.1 d.2.2.2.1->c.2.2.1+c.2.2.2.1+1=d.2.2.1+d.2.2.2.1->Q (.yield d) st) :
  wpS M A E s (QU a b g i c) Q st:=by
 obtain⟨r0,out,ia,ib,ac,bc⟩:=c;dsimp only at h h1 h2 ⊢;have l6:ib<b.toList.length:=by have:=h.hb;rw[U9];lia
 have pY:ia<a.toList.length:=by have:=h.ha;rw[U9];lia
 unfold QU;dsimp only;refine Vn (bz (U4 l6) ?_);refine Vn (bz (U4 pY) ?_);refine Vn (C.lt _ _ st _ (R.db _ (VS l6)) (R.da _ (VS pY)) kd ?_);dsimp only;cases e:O.blt (key b.toList[ib]) (key a.toList[ia]) with
 |true=>
  rw[hV rfl];have m:=FJ h.mi l6 λx hx=>VI (V4 e) (kg h.mi.sa pY x hx);refine Vn (bz (U4 l6) ?_);by_cases c:ib+1=b.size
  ·rw[hV (by simpa using c)];exact Vt (h1 _ (.inl ⟨_,rfl,Bs m c⟩))
  ·rw[hU (by simpa using c)];have L:LI key T a b (out.push b.toList[ib]) ia (ib+1):=⟨h.ha,by have:=h.hb;lia,m⟩;split
   ·exact Vt (h1 _ (.inr ⟨rfl,L,by simp only;lia⟩))
   ·exact Vt (h2 _ rfl L (by simp only;lia))
 |false=>
  rw[hU Vb];have m:=JX h.mi pY λy hy=>VI (show O.kle _ _ from e) (kg h.mi.sb l6 y hy);refine Vn (bz (U4 pY) ?_);by_cases c:ia+1+1=a.size
  ·rw[hV (by simpa using c)];exact Vt (h1 _ (.inl ⟨_,rfl,R.fin m c⟩))
  ·rw[hU (by simpa using c)];have L:LI key T a b (out.push a.toList[ia]) (ia+1) ib:=⟨by have:=h.ha;lia,h.hb,m⟩;split
   ·exact Vt (h1 _ (.inr ⟨rfl,L,by simp only;lia⟩))
   ·exact Vt (h2 _ rfl L (by simp only;lia))
theorem LK (C:ly M A E s O key knd D)(R:LR key D a b){c:PX}{st cq:Vz}(i0:∃g,st=dw cq g)(kd:Wu cq=knd)(h:LI key T a b c.2.1 c.2.2.1 c.2.2.2.1) :
  wpS M A E s (QV a b i c) (λr aQ=>(∃g,aQ=dw cq g)/\match r with
   | .done d=>∃r,d.1=some r/\qc key T r
   | .yield d=>d.1=none/\LI key T a b d.2.1 d.2.2.1 d.2.2.2.1/\c.2.2.1+c.2.2.2.1+1<=d.2.2.1+d.2.2.2.1) st:=by
 obtain⟨r0,out,ia,ib,g0⟩:=c;dsimp only at h ⊢;have GB:Wu st=knd:=by obtain⟨g,rfl⟩:=i0;exact kd
 unfold QV;dsimp only;have hs:1<=a.size+b.size:=by have:=h.hb;lia
 refine Vn (XG (Wx (I:=λx d aQ=>aQ=st/\d.1=none/\LI key T a b d.2.1 d.2.2.1 d.2.2.2.1/\ia+ib+x=d.2.2.1+d.2.2.2.1)
  (Q:=λd aQ=>aQ=st/\((∃r,d.1=some r/\qc key T r)\/(d.1=none/\LI key T a b d.2.1 d.2.2.1 d.2.2.2.1/\ia+ib+1<=d.2.2.1+d.2.2.2.1))) ?step ?fin ⟨rfl,rfl,h,by simp only;lia⟩) ?post)
 case fin=>
  rintro d aQ ⟨rfl,e1,e2,e3⟩;exact⟨rfl,.inr ⟨e1,e2,by lia⟩⟩
 case step=>
  rintro x d aQ _ hx ⟨rfl,e1,e2,e3⟩;refine LJ C R GB e2 (λd' hd=>?_) λd' p1 p2 p3=>?_
  ·rcases hd with hd|⟨p1,p2,p3⟩
   ·exact⟨rfl,.inl hd⟩
   ·exact⟨rfl,.inr ⟨p1,p2,by lia⟩⟩
  ·exact⟨rfl,p1,p2,by lia⟩
 case post=>
  rintro d aQ ⟨rfl,hd⟩;obtain⟨dr,dout,dia,dib,dac,dbc⟩:=d;dsimp only at hd ⊢;rcases hd with⟨r,rfl,hr⟩|⟨rfl,hL,hn⟩
  ·exact Vt ⟨i0,r,rfl,hr⟩
  ·dsimp only;refine Vn (wpS_lift (Xq ⟨rfl,?_⟩));refine Vn (XG (Wx (I:=λx d aQ=>GE key T a b (ia+ib+1) cq d aQ/\d.1=none)
    (Q:=λd aQ=>GE key T a b (ia+ib+1) cq d aQ) ?_ (λd aQ h=>h.1) ⟨⟨i0,.inr ⟨rfl,hL,hn⟩⟩,rfl⟩) ?_)
   ·rintro x d aQ _ hx ⟨⟨hs',hd⟩,e1⟩;rcases hd with⟨r,e2,_⟩|⟨_,e3,e4⟩
    ·rw[e1] at e2;cases e2
    ·refine XG (LH C R hs' kd e3 e4) λr MJ hr=>?_;cases r with
     |done d'=>exact hr
     |yield d'=>exact hr
   ·rintro d aQ ⟨hs',hd⟩;obtain⟨er,eout,eia,eib,eg,eac,ebc⟩:=d;dsimp only at hd ⊢;rcases hd with⟨r,rfl,hr⟩|⟨rfl,hL2,Kk⟩
    ·exact Vt ⟨hs',r,rfl,hr⟩
    ·dsimp only;unfold bY;refine Vn (YY (Vt ⟨?_,rfl,hL2,Kk⟩));obtain⟨g,rfl⟩:=hs';exact⟨_,rfl⟩
theorem zY (C:ly M A E s O key knd D)(R:LR key D a b){st:Vz}{Q:Array VA->Vz->Prop}(kd:Wu st=knd)(sa:iP key a.toList)(sb:iP key b.toList)(ha:0<a.size)(hb:0<b.size)
  (first:∀y,b.toList[0]? = some y->∀x∈a.toList,O.kle (key y) (key x))
  (h:∀r g,r.toList.Perm (a.toList++b.toList)->iP key r.toList->Q r (dw st g)):wpS M A E s (rP a b) Q st:=by
 have l6:0<b.toList.length:=by rw[U9];exact hb
 have m:MI key (a.toList++b.toList) (#[b.toList[0]]:Array VA).toList (a.toList.drop 0) (b.toList.drop 1):=by
  have m0:MI key (a.toList++b.toList) (#[]:Array VA).toList (a.toList.drop 0) (b.toList.drop 0):=
   ⟨by simp,List.Pairwise.nil,sa,sb,λx hx=>absurd hx (by simp),λx hx=>absurd hx (by simp)⟩
  exact FJ m0 l6 (λx hx=>first _ (U4 l6) x hx)
 have fin:∀r g,qc key (a.toList++b.toList) r->Q r (dw st g):=λr g hr=>h r g hr.1 hr.2;rw[vK];refine Vn (wpS_lift (Xq ⟨rfl,?_⟩));refine Vn (bz (U4 l6) ?_);by_cases c:1=b.size
 ·rw[hV (by simpa using c)];exact Vt (fin _ (aah st) (Bs m c))
 ·rw[hU (by simpa using c)];by_cases c2:0+1=a.size
  ·rw[hV (by simpa using c2)];exact Vt (fin _ (aah st) (R.fin m c2))
  ·rw[hU (by simpa using c2)];refine Vn (aap ?_);refine Vn (XG (Wx (I:=λx d aQ=>(∃g,aQ=dw st g)/\d.1=none/\LI key (a.toList++b.toList) a b d.2.1 d.2.2.1 d.2.2.2.1/\x<=d.2.2.1+d.2.2.2.1)
    (Q:=λd aQ=>(∃g,aQ=dw st g)/\∃r,d.1=some r/\qc key (a.toList++b.toList) r) ?step ?fin ⟨⟨aah st,rfl⟩,rfl,⟨by simp only;lia,by simp only;lia,m⟩,by simp only;lia⟩) ?post)
   case fin=>
    rintro d aQ ⟨hs',e1,e2,e3⟩;have:=e2.ha;have:=e2.hb;lia
   case step=>
    rintro x d aQ _ hx ⟨hs',e1,e2,e3⟩;refine XG (LK C R hs' kd e2) λr MJ hr=>?_;obtain⟨cK,hr⟩:=hr;cases r with
    |done d'=>exact⟨cK,hr⟩
    |yield d'=>exact⟨cK,hr.1,hr.2.1,by have:=hr.2.2;lia⟩
   case post=>
    rintro d aQ ⟨⟨g,rfl⟩,r,e,hr⟩;obtain⟨dr,d'⟩:=d;dsimp only at e ⊢;subst e;exact Vt (fin r g hr)
end
end Hc.Ts
namespace Hc.Ts
noncomputable def rR:Array VA->Array VA->StateT Vz Sem (Array VA):=sortPriv% PySem.Builtin.mergeHi
noncomputable abbrev JY:=Option (Array VA)×Nat×Nat×Array VA×Nat×Nat×Nat
noncomputable abbrev MQ:=Option (Array VA)×Nat×Nat×Array VA×Nat×Nat
noncomputable abbrev PY:=Option (Array VA)×Nat×Nat×Array VA×Nat
noncomputable def gD (a b out:Array VA)(na nb:Nat):Array VA:=a.extract 0 na++b.extract 0 nb++out.reverse
noncomputable def jD (a b out:Array VA)(na nb:Nat):Array VA:=b.extract 0 nb++a.extract 0 na++out.reverse
noncomputable def HX (a b out:Array VA)(na nb g k k1:Nat):StateT Vz Sem (ForInStep JY):=do
 let x ←aao a (na-1)
 if (na-1==0)=true then pure (.done (some (gD a b (out.push x) (na-1) nb),na-1,nb,out.push x,g,k,k1))
 else if (decide (k<7)&&decide (k1<7))=true then pure (.done (none,na-1,nb,out.push x,g,k,k1))
 else pure (.yield (none,na-1,nb,out.push x,g,k,k1))
noncomputable def HY (a b out:Array VA)(na nb g k bc:Nat):StateT Vz Sem (ForInStep JY):=do
 let y ←aao b (nb-1)
 if (nb-1==1)=true then pure (.done (some (jD a b (out.push y) na (nb-1)),na,nb-1,out.push y,g,k,bc))
 else do
  let x ←aao a (na-1)
  let some kF ←f6 true x b 0 (nb-1) (nb-1-1)|pure (.done (some (gD a b (out.push y) na (nb-1)),na,nb-1,out.push y,g,k,bc))
  if nb-1-kF>0 then
   if (kF==1)=true then pure (.done (some (jD a b (out.push y++(b.extract kF (nb-1)).reverse) na kF),na,kF,out.push y++(b.extract kF (nb-1)).reverse,g,k,nb-1-kF))
   else if (kF==0)=true then pure (.done (some (gD a b (out.push y++(b.extract kF (nb-1)).reverse) na kF),na,kF,out.push y++(b.extract kF (nb-1)).reverse,g,k,nb-1-kF))
   else HX a b (out.push y++(b.extract kF (nb-1)).reverse) na kF g k (nb-1-kF)
  else HX a b (out.push y) na (nb-1) g k (nb-1-kF)
noncomputable def HZ (a b out:Array VA)(na nb g ac bc:Nat):StateT Vz Sem (ForInStep JY):=do
 bY g
 let y ←aao b (nb-1)
 let some vh ←f6 false y a 0 na (na-1)|pure (.done (some (gD a b out na nb),na,nb,out,g,ac,bc))
 if na-vh>0 then
  if (vh==0)=true then pure (.done (some (gD a b (out++(a.extract vh na).reverse) vh nb),vh,nb,out++(a.extract vh na).reverse,g,na-vh,bc))
  else HY a b (out++(a.extract vh na).reverse) vh nb g (na-vh) bc
 else HY a b out na nb g (na-vh) bc
noncomputable def QW (a b:Array VA)(_:Nat)(c:JY):StateT Vz Sem (ForInStep JY):=
 if c.2.2.2.2.1>1 then HZ a b c.2.2.2.1 c.2.1 c.2.2.1 (c.2.2.2.2.1-1) c.2.2.2.2.2.1 c.2.2.2.2.2.2
 else HZ a b c.2.2.2.1 c.2.1 c.2.2.1 c.2.2.2.2.1 c.2.2.2.2.2.1 c.2.2.2.2.2.2
noncomputable def QX (a b:Array VA)(g:Nat)(_:Nat)(c:MQ):StateT Vz Sem (ForInStep MQ):=do
 let y ←aao b (c.2.2.1-1)
 let x ←aao a (c.2.1-1)
 let some aWins ←lt' y x|pure (.done (some (gD a b c.2.2.2.1 c.2.1 c.2.2.1),c.2.1,c.2.2.1,c.2.2.2.1,c.2.2.2.2.1,c.2.2.2.2.2))
 if aWins=true then do
  let x ←aao a (c.2.1-1)
  if (c.2.1-1==0)=true then pure (.done (some (gD a b (c.2.2.2.1.push x) (c.2.1-1) c.2.2.1),c.2.1-1,c.2.2.1,c.2.2.2.1.push x,c.2.2.2.2.1+1,0))
  else if c.2.2.2.2.1+1≥g then pure (.done (none,c.2.1-1,c.2.2.1,c.2.2.2.1.push x,c.2.2.2.2.1+1,0))
  else pure (.yield (none,c.2.1-1,c.2.2.1,c.2.2.2.1.push x,c.2.2.2.2.1+1,0))
 else do
  let y ←aao b (c.2.2.1-1)
  if (c.2.2.1-1==1)=true then pure (.done (some (jD a b (c.2.2.2.1.push y) c.2.1 (c.2.2.1-1)),c.2.1,c.2.2.1-1,c.2.2.2.1.push y,0,c.2.2.2.2.2+1))
  else if c.2.2.2.2.2+1≥g then pure (.done (none,c.2.1,c.2.2.1-1,c.2.2.2.1.push y,0,c.2.2.2.2.2+1))
  else pure (.yield (none,c.2.1,c.2.2.1-1,c.2.2.2.1.push y,0,c.2.2.2.2.2+1))
noncomputable def QY (a b:Array VA)(_:Nat)(c:PY):StateT Vz Sem (ForInStep PY):=do
 let d ←forIn [0:a.size+b.size] (none,c.2.1,c.2.2.1,c.2.2.2.1,0,0) (QX a b c.2.2.2.2)
 match d.1 with
 |some r=>pure (.done (some r,d.2.1,d.2.2.1,d.2.2.2.1,c.2.2.2.2))
 |none=>do
  liftM (rule "list.sort.gallop")
  let e ←forIn [0:a.size+b.size] (none,d.2.1,d.2.2.1,d.2.2.2.1,c.2.2.2.2+1,d.2.2.2.2.1,d.2.2.2.2.2) (QW a b)
  match e.1 with
  |some r=>pure (.done (some r,e.2.1,e.2.2.1,e.2.2.2.1,e.2.2.2.2.1))
  |none=>do
   bY (e.2.2.2.2.1+1)
   pure (.yield (none,e.2.1,e.2.2.1,e.2.2.2.1,e.2.2.2.2.1+1))
theorem vM (a b:Array VA):rR a b=(do
  liftM (rule "list.sort.merge-hi")
  let x ←aao a (a.size-1)
  if (a.size-1==0)=true then pure (gD a b #[x] (a.size-1) b.size)
  else if (b.size==1)=true then pure (jD a b #[x] (a.size-1) b.size)
  else do
   let st ←get
   let c ←forIn [0:a.size+b.size] ((none,a.size-1,b.size,#[x],aah st):PY) (QY a b)
   match c.1 with
   |some r=>pure r
   |none=>liftM (Zn "internal:list.sort.merge-bound")):=by kernel_rfl
section
variable {A:VR}{O:aaC}{key:VA->O.α}{knd:YQ}{D:VA->Prop}
theorem vN (a:Array VA)(n:Nat):(a.extract 0 n).toList=a.toList.take n:=by
 rw[XS,XQ];rfl
theorem vO (a:Array VA)(i n:Nat):(a.extract i n).toList=(a.toList.take n).drop i:=by
 rw[XS,XQ,List.drop_take]
theorem xO (a b out:Array VA)(na nb:Nat):(gD a b out na nb).toList=(a.toList.take na++b.toList.take nb)++out.toList.reverse:=by
 unfold gD;rw[V7,V7,vN,vN,YC]
theorem CL (a b out:Array VA)(na nb:Nat):(jD a b out na nb).toList=(b.toList.take nb++a.toList.take na)++out.toList.reverse:=by
 unfold jD;rw[V7,V7,vN,vN,YC]
theorem nX (h0:0<n)(h:n-1<l.length):l.take n=l.take (n-1)++[l[n-1]]:=by
 obtain⟨m,rfl⟩:∃m,n=m+1:=⟨n-1,by lia⟩;simp only[Nat.add_sub_cancel] at h ⊢;exact W4 h
theorem rS (h:k<=n):l.take n=l.take k++(l.take n).drop k:=by
 conv=>lhs;rw[←Ww k (l.take n)]
 rw[List.take_take,Yp h]
structure HI (key:VA->O.α)(T:List VA)(a b out:Array VA)(na nb:Nat):Prop where
 a0:0<na
 a1:na<=a.size
 b0:1<nb
 b1:nb<=b.size
 mh:MH key T (a.toList.take na) (b.toList.take nb) out.toList.reverse
structure HR (key:VA->O.α)(D:VA->Prop)(a b:Array VA):Prop where
 da:∀x∈a.toList,D x
 db:∀x∈b.toList,D x
 first:∀y,b.toList[0]? = some y->∀x∈a.toList,O.kle (key y) (key x)
variable {a b out:Array VA}{na nb:Nat}
theorem HR.fin (R:HR key D a b)(h:MH key T (a.toList.take na) (b.toList.take nb) out.toList.reverse)(e:nb=1):qc key T (jD a b out na nb):=by
 unfold qc;rw[CL];refine h.first λy hy x hx=>?_
 subst e;cases hb:b.toList with
 |nil=>rw[hb] at hy;cases hy
 |cons z r=>
  rw[hb] at hy;have:y=z:=by simpa using hy
  subst this;exact R.first y (by rw[hb];rfl) x (WX hx)
theorem vP (h:MH key T (a.toList.take na) (b.toList.take nb) out.toList.reverse)(e:na=0):qc key T (gD a b out na nb):=by
 subst e;unfold qc;rw[xO];rw[List.take_zero] at h ⊢;rw[WS];exact h.endB
theorem LL (h:MH key T (a.toList.take na) (b.toList.take nb) out.toList.reverse)(e:nb=0):qc key T (gD a b out na nb):=by
 subst e;unfold qc;rw[xO];rw[List.take_zero] at h ⊢;rw[VU];exact h.endA
theorem iu (h:iP key (l.take n))(h0:0<n)(hl:n-1<l.length):∀x∈l.take n,O.kle (key x) (key l[n-1]):=by
 intro x hx;rw[nX h0 hl] at h hx;rcases Vv.mp hx with hx|hx
 ·exact (bt.mp h).2.2 x hx _ (by simp)
 ·rw[Vu] at hx;subst hx;exact WJ _
theorem zZ (h:MH key T (a.toList.take na) (b.toList.take nb) out.toList.reverse)(h0:0<na)(hl:na-1<a.toList.length)(hx:∀y∈b.toList.take nb,O.kle (key y) (key a.toList[na-1])):MH key T (a.toList.take (na-1)) (b.toList.take nb) (out.push a.toList[na-1]).toList.reverse:=by
 rw[Xs,YU];rw[nX h0 hl] at h;exact h.stepA λy hy x tw=>by rw[Vu] at tw;subst tw;exact hx y hy
theorem FK (h:MH key T (a.toList.take na) (b.toList.take nb) out.toList.reverse)(h0:0<nb)(hl:nb-1<b.toList.length)(hx:∀x∈a.toList.take na,O.kle (key x) (key b.toList[nb-1])):MH key T (a.toList.take na) (b.toList.take (nb-1)) (out.push b.toList[nb-1]).toList.reverse:=by
 rw[Xs,YU];rw[nX h0 hl] at h;exact h.stepB λx tw y hy=>by rw[Vu] at hy;subst hy;exact hx x tw
def HE (key:VA->O.α)(T:List VA)(a b:Array VA)(n:Nat)(cq:Vz)(c:JY)(st:Vz):Prop:=
 (∃g,st=dw cq g)/\((∃r,c.1=some r/\qc key T r)\/(c.1=none/\HI key T a b c.2.2.2.1 c.2.1 c.2.2.1/\c.2.1+c.2.2.1<=n))
def HS (key:VA->O.α)(T:List VA)(a b:Array VA)(n:Nat)(cq:Vz)(r:ForInStep JY)(st:Vz):Prop:=
 match r with
 | .done c=>HE key T a b n cq c st
 | .yield c=>HE key T a b n cq c st/\c.1=none
theorem Bw (R:HR key D a b){k1:Nat}{st cq:Vz}(i0:∃g,st=dw cq g)(h:HI key T a b out na nb)(hn:na+nb<=n)(hx:∀(hl:na-1<a.toList.length),∀y∈b.toList.take nb,O.kle (key y) (key a.toList[na-1])) :
  wpS M A E s (HX a b out na nb g k k1) (HS key T a b n cq) st:=by
 have hl:na-1<a.toList.length:=by have:=h.a0;have:=h.a1;rw[U9];lia
 have m:=zZ h.mh h.a0 hl (hx hl);unfold HX;refine Vn (bz (U4 hl) ?_);by_cases c:na-1=0
 ·rw[hV (by simpa using c)];exact Vt ⟨i0,.inl ⟨_,rfl,vP m c⟩⟩
 ·rw[hU (by simpa using c)];have L:HI key T a b (out.push a.toList[na-1]) (na-1) nb:=⟨by lia,by have:=h.a1;lia,h.b0,h.b1,m⟩;by_cases c2:(decide (k<7)&&decide (k1<7))=true
  ·rw[hV c2];exact Vt ⟨i0,.inr ⟨rfl,L,by simp only;lia⟩⟩
  ·rw[hU c2];exact Vt ⟨⟨i0,.inr ⟨rfl,L,by simp only;lia⟩⟩,rfl⟩
theorem Bx (C:ly M A E s O key knd D)(R:HR key D a b){st cq:Vz}(i0:∃g,st=dw cq g)(kd:Wu cq=knd)(h:HI key T a b out na nb)(hn:na+nb<=n)(hx:∀(hl:nb-1<b.toList.length),∀x∈a.toList.take na,O.kle (key x) (key b.toList[nb-1])) :
  wpS M A E s (HY a b out na nb g k bc) (HS key T a b n cq) st:=by
 have l6:nb-1<b.toList.length:=by have:=h.b0;have:=h.b1;rw[U9];lia
 have pY:na-1<a.toList.length:=by have:=h.a0;have:=h.a1;rw[U9];lia
 have b0:=h.b0;have b1:=h.b1;have a0:=h.a0;have a1:=h.a1;have m:=FK h.mh (by lia) l6 (hx l6);have GB:Wu st=knd:=by obtain⟨g,rfl⟩:=i0;exact kd
 unfold HY;refine Vn (bz (U4 l6) ?_);by_cases c:nb-1=1
 ·rw[hV (by simpa using c)];exact Vt ⟨i0,.inl ⟨_,rfl,R.fin m c⟩⟩
 ·rw[hU (by simpa using c)];refine Vn (bz (U4 pY) ?_);have cZ:(b.toList.take (nb-1)).length=nb-1:=by rw[V5,U9];lia
  have GC:=λQ=>lT C (Q:=Q) (kx:=a.toList[na-1]) (arr:=b) (base:=0) (hint:=nb-1-1) (seg:=b.toList.take (nb-1)) (st:=st) (λi x e=>by
   rw[XB];rw[Zd] at e;split at e
   ·exact e
   ·cases e) m.sb (λx hx=>R.db x (WX hx)) (R.da _ (VS pY)) GB (by rw[cZ];lia)
  rw[cZ] at GC;refine Vn (GC _ λkF As p1 p2=>?_);dsimp only;rw[List.take_take,Yp As] at p1;by_cases c1:nb-1-kF>0
  ·rw[hV c1];have m2:MH key T (a.toList.take na) (b.toList.take kF) (out.push b.toList[nb-1]++(b.extract kF (nb-1)).reverse).toList.reverse:=by
    rw[V7,YC,YU,List.reverse_reverse,vO];have m':=m;rw[rS (l:=b.toList) (n:=nb-1) (k:=kF) (by lia)] at m';exact m'.stepB λx tw y hy=>VI (iu h.mh.sa a0 pY x tw) (p2 y hy)
   by_cases c2:kF=1
   ·rw[hV (by simpa using c2)];exact Vt ⟨i0,.inl ⟨_,rfl,R.fin m2 c2⟩⟩
   ·rw[hU (by simpa using c2)];by_cases c3:kF=0
    ·rw[hV (by simpa using c3)];exact Vt ⟨i0,.inl ⟨_,rfl,LL m2 c3⟩⟩
    ·rw[hU (by simpa using c3)];refine Bw R i0 ⟨a0,a1,by lia,by lia,m2⟩ (by lia) λhl y hy=>V4 (p1 y hy)
  ·rw[hU c1];have:kF=nb-1:=by lia
   subst this;refine Bw R i0 ⟨a0,a1,by lia,by lia,m⟩ (by lia) λhl y hy=>V4 (p1 y hy)
theorem By (C:ly M A E s O key knd D)(R:HR key D a b){ac:Nat}{st cq:Vz}(i0:∃g,st=dw cq g)(kd:Wu cq=knd)(h:HI key T a b out na nb)(hn:na+nb<=n) :
  wpS M A E s (HZ a b out na nb g ac bc) (HS key T a b n cq) st:=by
 have l6:nb-1<b.toList.length:=by have:=h.b0;have:=h.b1;rw[U9];lia
 have pY:na-1<a.toList.length:=by have:=h.a0;have:=h.a1;rw[U9];lia
 have b0:=h.b0;have b1:=h.b1;have a0:=h.a0;have a1:=h.a1;unfold HZ bY;have yN:∃g',dw st g=dw cq g':=by obtain⟨g0,rfl⟩:=i0;exact⟨g,rfl⟩
 have GB:Wu (dw st g)=knd:=by obtain⟨g0,rfl⟩:=i0;exact kd
 refine Vn (YY ?_);refine Vn (bz (U4 l6) ?_);have cZ:(a.toList.take na).length=na:=by rw[V5,U9];lia
 have GC:=λQ=>lS C (Q:=Q) (kx:=b.toList[nb-1]) (arr:=a) (base:=0) (hint:=na-1) (seg:=a.toList.take na) (st:=dw st g) (λi x e=>by
   rw[XB];rw[Zd] at e;split at e
   ·exact e
   ·cases e) h.mh.sa (λx hx=>R.da x (WX hx)) (R.db _ (VS l6)) GB (by rw[cZ];lia)
 rw[cZ] at GC;refine Vn (GC _ λvh hk p1 p2=>?_);dsimp only;rw[List.take_take,Yp hk] at p1;by_cases c1:na-vh>0
 ·rw[hV c1];have m2:MH key T (a.toList.take vh) (b.toList.take nb) (out++(a.extract vh na).reverse).toList.reverse:=by
   rw[V7,YC,YU,List.reverse_reverse,vO];have m':=h.mh;rw[rS (l:=a.toList) (n:=na) (k:=vh) (by lia)] at m';exact m'.stepA λy hy x hx=>VI (iu h.mh.sb (by lia) l6 y hy) (V4 (p2 x hx))
  by_cases c2:vh=0
  ·rw[hV (by simpa using c2)];exact Vt ⟨yN,.inl ⟨_,rfl,vP m2 c2⟩⟩
  ·rw[hU (by simpa using c2)];exact Bx C R yN kd ⟨by lia,by lia,b0,b1,m2⟩ (by lia) λhl x hx=>p1 x hx
 ·rw[hU c1];have:vh=na:=by lia
  subst this;exact Bx C R yN kd h hn λhl x hx=>p1 x hx
theorem LM (C:ly M A E s O key knd D)(R:HR key D a b){c:JY}{st cq:Vz}(i0:∃g,st=dw cq g)(kd:Wu cq=knd)(h:HI key T a b c.2.2.2.1 c.2.1 c.2.2.1)(hn:c.2.1+c.2.2.1<=n) :
  wpS M A E s (QW a b i c) (HS key T a b n cq) st:=by
 unfold QW;split
 ·exact By C R i0 kd h hn
 ·exact By C R i0 kd h hn
theorem LN (C:ly M A E s O key knd D)(R:HR key D a b){c:MQ}{st:Vz}{Q:ForInStep MQ->Vz->Prop}(kd:Wu st=knd)(h:HI key T a b c.2.2.2.1 c.2.1 c.2.2.1)(h1:∀d:MQ,(∃r,d.1=some r/\qc key T r)\/(d.1=none/\HI key T a b d.2.2.2.1 d.2.1 d.2.2.1/\c.2.1+c.2.2.1=d.2.1+d.2.2.1+1)->Q (.done d) st)(h2:∀d:MQ,d.1=none->HI key T a b d.2.2.2.1 d.2.1 d.2.2.1->c.2.1+c.2.2.1=d.2.1+d.2.2.1+1->Q (.yield d) st) :
  wpS M A E s (QX a b g i c) Q st:=by
 obtain⟨r0,na,nb,out,ac,bc⟩:=c;dsimp only at h h1 h2 ⊢;have l6:nb-1<b.toList.length:=by have:=h.b0;have:=h.b1;rw[U9];lia
 have pY:na-1<a.toList.length:=by have:=h.a0;have:=h.a1;rw[U9];lia
 have b0:=h.b0;have b1:=h.b1;have a0:=h.a0;have a1:=h.a1;unfold QX;dsimp only;refine Vn (bz (U4 l6) ?_);refine Vn (bz (U4 pY) ?_);refine Vn (C.lt _ _ st _ (R.db _ (VS l6)) (R.da _ (VS pY)) kd ?_);dsimp only;cases e:O.blt (key b.toList[nb-1]) (key a.toList[na-1]) with
 |true=>
  rw[hV rfl];have m:=zZ h.mh a0 pY λy hy=>VI (iu h.mh.sb (by lia) l6 y hy) (V4 e);refine Vn (bz (U4 pY) ?_);by_cases c:na-1=0
  ·rw[hV (by simpa using c)];exact Vt (h1 _ (.inl ⟨_,rfl,vP m c⟩))
  ·rw[hU (by simpa using c)];have L:HI key T a b (out.push a.toList[na-1]) (na-1) nb:=⟨by lia,by lia,b0,b1,m⟩;split
   ·exact Vt (h1 _ (.inr ⟨rfl,L,by simp only;lia⟩))
   ·exact Vt (h2 _ rfl L (by simp only;lia))
 |false=>
  rw[hU Vb];have m:=FK h.mh (by lia) l6 λx hx=>VI (iu h.mh.sa a0 pY x hx) (show O.kle _ _ from e);refine Vn (bz (U4 l6) ?_);by_cases c:nb-1=1
  ·rw[hV (by simpa using c)];exact Vt (h1 _ (.inl ⟨_,rfl,R.fin m c⟩))
  ·rw[hU (by simpa using c)];have L:HI key T a b (out.push b.toList[nb-1]) na (nb-1):=⟨a0,a1,by lia,by lia,m⟩;split
   ·exact Vt (h1 _ (.inr ⟨rfl,L,by simp only;lia⟩))
   ·exact Vt (h2 _ rfl L (by simp only;lia))
theorem LO (C:ly M A E s O key knd D)(R:HR key D a b){c:PY}{st cq:Vz}(i0:∃g,st=dw cq g)(kd:Wu cq=knd)(h:HI key T a b c.2.2.2.1 c.2.1 c.2.2.1) :
  wpS M A E s (QY a b i c) (λr aQ=>(∃g,aQ=dw cq g)/\match r with
   | .done d=>∃r,d.1=some r/\qc key T r
   | .yield d=>d.1=none/\HI key T a b d.2.2.2.1 d.2.1 d.2.2.1/\d.2.1+d.2.2.1+1<=c.2.1+c.2.2.1) st:=by
 obtain⟨r0,na,nb,out,g0⟩:=c;dsimp only at h ⊢;have GB:Wu st=knd:=by obtain⟨g,rfl⟩:=i0;exact kd
 have b0:=h.b0;have b1:=h.b1;have a0:=h.a0;have a1:=h.a1;unfold QY;dsimp only;have hs:1<=a.size+b.size:=by lia
 refine Vn (XG (Wx (I:=λx d aQ=>aQ=st/\d.1=none/\HI key T a b d.2.2.2.1 d.2.1 d.2.2.1/\na+nb=d.2.1+d.2.2.1+x)
  (Q:=λd aQ=>aQ=st/\((∃r,d.1=some r/\qc key T r)\/(d.1=none/\HI key T a b d.2.2.2.1 d.2.1 d.2.2.1/\d.2.1+d.2.2.1+1<=na+nb))) ?step ?fin ⟨rfl,rfl,h,by simp only;lia⟩) ?post)
 case fin=>
  rintro d aQ ⟨rfl,e1,e2,e3⟩;exact⟨rfl,.inr ⟨e1,e2,by lia⟩⟩
 case step=>
  rintro x d aQ _ hx ⟨rfl,e1,e2,e3⟩;refine LN C R GB e2 (λd' hd=>?_) λd' p1 p2 p3=>?_
  ·rcases hd with hd|⟨p1,p2,p3⟩
   ·exact⟨rfl,.inl hd⟩
   ·exact⟨rfl,.inr ⟨p1,p2,by lia⟩⟩
  ·exact⟨rfl,p1,p2,by lia⟩
 case post=>
  rintro d aQ ⟨rfl,hd⟩;obtain⟨dr,dna,dnb,dout,dac,dbc⟩:=d;dsimp only at hd ⊢;rcases hd with⟨r,rfl,hr⟩|⟨rfl,hL,hn⟩
  ·exact Vt ⟨i0,r,rfl,hr⟩
  ·dsimp only;refine Vn (wpS_lift (Xq ⟨rfl,?_⟩));refine Vn (XG (Wx (I:=λx d aQ=>HE key T a b (na+nb-1) cq d aQ/\d.1=none)
    (Q:=λd aQ=>HE key T a b (na+nb-1) cq d aQ) ?_ (λd aQ h=>h.1) ⟨⟨i0,.inr ⟨rfl,hL,by simp only;lia⟩⟩,rfl⟩) ?_)
   ·rintro x d aQ _ hx ⟨⟨hs',hd⟩,e1⟩;rcases hd with⟨r,e2,_⟩|⟨_,e3,e4⟩
    ·rw[e1] at e2;cases e2
    ·refine XG (LM C R hs' kd e3 e4) λr MJ hr=>?_;cases r with
     |done d'=>exact hr
     |yield d'=>exact hr
   ·rintro d aQ ⟨hs',hd⟩;obtain⟨er,ena,enb,eout,eg,eac,ebc⟩:=d;dsimp only at hd ⊢;rcases hd with⟨r,rfl,hr⟩|⟨rfl,hL2,Kk⟩
    ·exact Vt ⟨hs',r,rfl,hr⟩
    ·dsimp only;unfold bY;refine Vn (YY (Vt ⟨?_,rfl,hL2,by simp only;lia⟩));obtain⟨g,rfl⟩:=hs';exact⟨_,rfl⟩
theorem z_ (C:ly M A E s O key knd D)(R:HR key D a b){st:Vz}{Q:Array VA->Vz->Prop}(kd:Wu st=knd)(sa:iP key a.toList)(sb:iP key b.toList)(ha:0<a.size)(hb:0<b.size)
  (last:∀i,i+1=a.size->∀y∈b.toList,∀x,a.toList[i]? = some x->O.kle (key y) (key x))
  (h:∀r g,r.toList.Perm (a.toList++b.toList)->iP key r.toList->Q r (dw st g)):wpS M A E s (rR a b) Q st:=by
 have pY:a.size-1<a.toList.length:=by rw[U9];lia
 have ta:a.toList.take a.size=a.toList:=Xx (by simp);have tb:b.toList.take b.size=b.toList:=Xx (by simp);have m:MH key (a.toList++b.toList) (a.toList.take (a.size-1)) (b.toList.take b.size) (#[a.toList[a.size-1]]:Array VA).toList.reverse:=by
  have m0:MH key (a.toList++b.toList) (a.toList.take a.size) (b.toList.take b.size) (#[]:Array VA).toList.reverse:=by
   rw[ta,tb];exact⟨by simp,List.Pairwise.nil,sa,sb,λx _ y hy=>absurd hy (by simp),λx _ y hy=>absurd hy (by simp)⟩
  exact zZ m0 ha pY (λy hy=>last (a.size-1) (by lia) y (WX hy) _ (U4 pY))
 have fin:∀r g,qc key (a.toList++b.toList) r->Q r (dw st g):=λr g hr=>h r g hr.1 hr.2;rw[vM];refine Vn (wpS_lift (Xq ⟨rfl,?_⟩));refine Vn (bz (U4 pY) ?_);by_cases c:a.size-1=0
 ·rw[hV (by simpa using c)];exact Vt (fin _ (aah st) (vP m c))
 ·rw[hU (by simpa using c)];by_cases c2:b.size=1
  ·rw[hV (by simpa using c2)];exact Vt (fin _ (aah st) (R.fin m c2))
  ·rw[hU (by simpa using c2)];refine Vn (aap ?_);refine Vn (XG (Wx (I:=λx d aQ=>(∃g,aQ=dw st g)/\d.1=none/\HI key (a.toList++b.toList) a b d.2.2.2.1 d.2.1 d.2.2.1/\d.2.1+d.2.2.1+x<=a.size+b.size)
    (Q:=λd aQ=>(∃g,aQ=dw st g)/\∃r,d.1=some r/\qc key (a.toList++b.toList) r) ?step ?fin ⟨⟨aah st,rfl⟩,rfl,⟨by simp only;lia,by simp only;lia,by simp only;lia,by simp only;lia,m⟩,by simp only;lia⟩) ?post)
   case fin=>
    rintro d aQ ⟨hs',e1,e2,e3⟩;have:=e2.a0;have:=e2.b0;lia
   case step=>
    rintro x d aQ _ hx ⟨hs',e1,e2,e3⟩;refine XG (LO C R hs' kd e2) λr MJ hr=>?_;obtain⟨cK,hr⟩:=hr;cases r with
    |done d'=>exact⟨cK,hr⟩
    |yield d'=>exact⟨cK,hr.1,hr.2.1,by have:=hr.2.2;lia⟩
   case post=>
    rintro d aQ ⟨⟨g,rfl⟩,r,e,hr⟩;obtain⟨dr,d'⟩:=d;dsimp only at e ⊢;subst e;exact Vt (fin r g hr)
end
end Hc.Ts
namespace Hc.Ts
noncomputable def kR (l:List VA)(sa:Nat)(a:Array VA):Array VA:=l.zipIdx.foldl (λa (p,j)=>a.setIfInBounds (sa+j) p) a
noncomputable def LP (x y:Array VA)(sa na nb:Nat):StateT Vz Sem Bool:=do
 let merged ←if na<=nb then rP x y else rR x y
 modify λs=>setArr s (kR merged.toList sa (VQ s))
 let s ←get
 pure (YR s).isNone
theorem xP (i:Nat):mergeAt' i=(do
 let st ←get
 let (some (p,n,pw),some (q,m,_)):=((VM st)[i]?,(VM st)[i+1]?)|Zn "internal:list.sort.pending"
 set (setPending st (((VM st).setIfInBounds i (p,n+m,pw)).eraseIdxIfInBounds (i+1)))
 let some k ←f6 false (←aao (VQ st) q) (VQ st) p n 0|return false
 let (p,n):=(p+k,n-k)
 if n==0 then return true
 let some m ←f6 true (←aao (VQ st) (p+n-1)) (VQ st) q m (m-1)|return false
 if m==0 then return true
 LP ((VQ st).extract p q) ((VQ st).extract q (q+m)) p n m):=by kernel_rfl
section
variable {A:VR}{O:aaC}{key:VA->O.α}{knd:YQ}{D:VA->Prop}
theorem rT:∀(l m P S:List VA) (n sa:Nat) (a:Array VA),m.length=l.length->sa+n=P.length->a.toList=P++(m++S)->((l.zipIdx n).foldl (λa (p,j)=>a.setIfInBounds (sa+j) p) a).toList=P++(l++S)
 | [],m,P,S,n,sa,a,h1,h2,h3=>by
  have:m=[]:=WL h1;subst this;exact h3
 |p::l,[],P,S,n,sa,a,h1,h2,h3=>by cases h1
 |p::l,q::m,P,S,n,sa,a,h1,h2,h3=>by
  rw[List.zipIdx_cons,List.foldl_cons];have h4:(a.setIfInBounds (sa+n) p).toList=(P++[p])++(m++S):=by
   rw[Z1,h3,h2,XA,List.set_append_right _ _ (Vh _),aaf,WW];simp
  have:=rT l m (P++[p]) S (n+1) sa (a.setIfInBounds (sa+n) p) (by simpa using h1) (by rw[Ve,Yi];lia) h4;rw[this];simp
theorem CM {m P:List VA}{sa:Nat}{a:Array VA}(h1:m.length=l.length)(h2:sa=P.length)(h3:a.toList=P++(m++S)):(kR l sa a).toList=P++(l++S):=
 rT l m P S 0 sa a h1 (by lia) h3
theorem H9 (C:ly M A E s O key knd D){P x y:List VA}{sa:Nat}{st:Vz}{Q:Bool->Vz->Prop}{ax ay:Array VA}{na nb:Nat}(ex:ax.toList=x)(ey:ay.toList=y)(hf:YR st=none)(kd:Wu st=knd)(ha:(VQ st).toList=P++((x++y)++S))(hs:sa=P.length)(dx:∀p∈x,D p)(dy:∀p∈y,D p)(sx:iP key x)(sy:iP key y)(x0:0<x.length)(y0:0<y.length)(first:∀q,y[0]? = some q->∀p∈x,O.kle (key q) (key p))(last:∀i,i+1=x.length->∀q∈y,∀p,x[i]? = some p->O.kle (key q) (key p))(h:∀z g,z.Perm (x++y)->iP key z->Q true (dw (setArr st (P++(z++S)).toArray) g)):wpS M A E s (LP ax ay sa na nb) Q st:=by
 subst ex;subst ey;have fin:∀(r:Array VA) (g:Nat),r.toList.Perm (ax.toList++ay.toList)->iP key r.toList->wpS M A E s (do
   modify λs=>setArr s (kR r.toList sa (VQ s))
   let s ←get
   pure (YR s).isNone) Q (dw st g):=by
  intro r g hp hr;refine Vn (YY ?_);refine Vn (aap (Vt ?_));have e1:kR r.toList sa (VQ st)=(P++(r.toList++S)).toArray:=by
   apply Array.ext';rw[CM (m:=ax.toList++ay.toList) hp.length_eq.symm hs ha]
  have e2:(YR (setArr (dw st g) (kR r.toList sa (VQ (dw st g))))).isNone=true:=by
   show (YR st).isNone=true;rw[hf];rfl
  rw[e2];have e3:setArr (dw st g) (kR r.toList sa (VQ (dw st g)))=dw (setArr st (P++(r.toList++S)).toArray) g:=by
   rw[←e1]
  rw[e3];exact h r.toList g hp hr
 unfold LP;dsimp only;split
 ·refine Vn ?_;exact zY C ⟨dx,dy,λi hi=>last i (by rw[U9];exact hi)⟩ kd sx sy (by simpa using x0) (by simpa using y0) first fin
 ·refine Vn ?_;exact z_ C ⟨dx,dy,first⟩ kd sx sy (by simpa using x0) (by simpa using y0) (λi hi=>last i (by rw[U9];exact hi)) fin
theorem H_ {σ:Type}{st aQ:σ}{Q:PUnit->σ->Prop}(h:Q ⟨⟩ aQ):wpS M A E s (set aQ:StateT σ Sem PUnit) Q st:=by
 unfold wpS;rw[StateT.run_set];exact U6 ⟨rfl,h⟩
theorem vQ {P x R:List VA}(h:l=P++(x++R))(i:Nat)(p:VA)(e:x[i]? = some p):l[P.length+i]? = some p:=by
 have hi:i<x.length:=by
  rcases Yl i x.length with h|h
  ·exact h
  ·rw[Yr h] at e;cases e
 rw[h,V9 (WK _ _),WV,Wn hi,e]
noncomputable def uO (p:Array (Nat×Nat×Nat))(i sa n pw:Nat):Array (Nat×Nat×Nat):=(p.setIfInBounds i (sa,n,pw)).eraseIdxIfInBounds (i+1)
theorem Aa (C:ly M A E s O key knd D){P x y:List VA}{pw pw2:Nat}{st:Vz}{Q:Bool->Vz->Prop}(hf:YR st=none)(kd:Wu st=knd)(ha:(VQ st).toList=P++(x++(y++S)))(h1:(VM st)[i]? = some (P.length,x.length,pw))(h2:(VM st)[i+1]? = some (P.length+x.length,y.length,pw2))(dx:∀p∈x,D p)(dy:∀p∈y,D p)(sx:iP key x)(sy:iP key y)(x0:0<x.length)(y0:0<y.length)(h:∀z g,z.Perm (x++y)->iP key z->Q true (dw (setArr (setPending st (uO (VM st) i P.length (x.length+y.length) pw)) (P++(z++S)).toArray) g)):wpS M A E s (mergeAt' i) Q st:=by
 have all:∀(hz:iP key (x++y)),Q true (setPending st (uO (VM st) i P.length (x.length+y.length) pw)):=by
  intro hz;have:=h (x++y) (aah st) (Wz _) hz;have e:(P++(x++y++S)).toArray=VQ st:=by
   apply Array.ext';rw[ha,VC]
  rw[e] at this;exact this
 have MV:(VQ st).toList=(P++x)++(y++S):=by rw[ha,VC]
 rw[xP];refine Vn (aap ?_);rw[h1,h2];dsimp only;refine Vn (H_ ?_);have ey:(VQ st).toList[P.length+x.length]? = some y[0]:=by
  have:=vQ MV 0 y[0] (U4 y0);rw[Ve] at this;exact this
 refine Vn (bz ey ?_);refine Vn (lS C (seg:=x) (λi p e=>vQ ha i p e) sx dx (dy _ (VS y0)) kd x0 λk hk p1 p2=>?_);dsimp only;have yh:∀q∈y,O.kle (key y[0]) (key q):=by
  have:=kg (l:=y) (i:=0) (key:=key) (by simpa using sy) y0;simpa using this
 by_cases c:x.length-k=0
 ·rw[hV (by simpa using c)];refine Vt (all ?_);have:x.take k=x:=Xx (by lia);rw[this] at p1;exact bt.mpr ⟨sx,sy,λp hp q hq=>VI (p1 p hp) (yh q hq)⟩
 ·rw[hU (by simpa using c)];have Qa:x.length-1<x.length:=by lia
  have Uc:(VQ st).toList[P.length+k+(x.length-k)-1]? = some x[x.length-1]:=by
   have:=vQ ha (x.length-1) _ (U4 Qa);rw[show P.length+k+(x.length-k)-1=P.length+(x.length-1) by lia];exact this
  refine Vn (bz Uc ?_);refine Vn (lT C (seg:=y) (λi p e=>by have:=vQ MV i p e;rw[Ve] at this;exact this) sy dy (dx _ (VS Qa)) kd (by lia) λnb Ud q1 q2=>?_);dsimp only;have Kt:∀p∈x,O.kle (key p) (key x[x.length-1]):=by
   have:=iu (l:=x) (n:=x.length) (key:=key) (by rw[YS];exact sx) x0 Qa;rw[YS] at this;exact this
  by_cases c2:nb=0
  ·rw[hV (by simpa using c2)];refine Vt (all ?_);subst c2;exact bt.mpr ⟨sx,sy,λp hp q hq=>VI (Kt p hp) (q2 q hq)⟩
  ·rw[hU (by simpa using c2)];have xs:x=x.take k++x.drop k:=(Ww k x).symm;have ys:y=y.take nb++y.drop nb:=(Ww nb y).symm;obtain⟨sx1,sx2,sx3⟩:=bt.mp (xs▸sx);obtain⟨sy1,sy2,sy3⟩:=bt.mp (ys▸sy);refine H9 C (P:=P++x.take k) (x:=x.drop k) (y:=y.take nb) (S:=y.drop nb++S) ?ex ?ey hf kd ?ha ?hs (λp hp=>dx p (Xl hp)) (λp hp=>dy p (WX hp)) sx2 sy1 (by rw[Wy];lia) (by rw[V5];lia) ?first ?last λz g hz sz=>?_
   case ex=>
    rw[vO,MV];rw[show P.length+x.length=(P++x).length by rw[Ve]];rw[List.take_left,List.drop_append,Ye (by lia),WV];rfl
   case ey=>
    rw[vL,MV];rw[show P.length+x.length=(P++x).length by rw[Ve],List.drop_left,List.take_append_of_le_length Ud]
   case ha=>
    show (VQ st).toList=_;rw[ha]
    conv=>lhs;rw[xs,ys]
    simp only[VC]
   case hs=>rw[Ve,V5];lia
   case first=>
    intro q hq p hp;have:(y.take nb)[0]? = y[0]? := by rw[Zd,hV (by lia)]
    rw[this,U4 y0] at hq;injection hq with hq
    subst hq;exact V4 (p2 p hp)
   case last=>
    intro i hi q hq p hp;rw[Wy] at hi;rw[Za,show k+i=x.length-1 by lia,U4 Qa] at hp;injection hp with hp
    subst hp;exact V4 (q1 q hq)
   have mz:∀r∈z,r∈x.drop k\/r∈y.take nb:=λr hr=>Vv.mp (hz.mem_iff.mp hr);have jZ:(x.take k++(z++y.drop nb)).Perm (x++y):=by
    have e:x++y=x.take k++((x.drop k++y.take nb)++y.drop nb):=by
     conv=>lhs;rw[xs,ys]
     simp only[VC]
    rw[e];exact Wv _ (W7 _ hz)
   have Ue:iP key (x.take k++(z++y.drop nb)):=by
    refine bt.mpr ⟨sx1,bt.mpr ⟨sz,sy2,λp hp q hq=>?_⟩,λp hp q hq=>?_⟩
    ·rcases mz p hp with hp|hp
     ·exact VI (Kt p (Xl hp)) (q2 q hq)
     ·exact sy3 p hp q hq
    ·rcases Vv.mp hq with hq|hq
     ·rcases mz q hq with hq|hq
      ·exact sx3 p hp q hq
      ·exact VI (p1 p hp) (yh q (WX hq))
     ·exact VI (p1 p hp) (yh q (Xl hq))
   have:=h _ g jZ Ue;have e:P++(x.take k++(z++y.drop nb)++S)=P++x.take k++(z++(y.drop nb++S)):=by simp only[VC]
   rw[e] at this;exact this
end
end Hc.Ts
namespace Hc.Ts
noncomputable def Bz (lo n m:Nat):StateT Vz Sem AscSt:=forIn [n:m] ((none,n):AscSt) λ_ c=>do
 let some sm ←ltAt' (lo+c.2) (lo+c.2-1)|pure (.done (some none,c.2))
 if sm=true then pure (.done (none,c.2)) else pure (.yield (none,c.2+1))
noncomputable def BA (lo n m:Nat):StateT Vz Sem (Option Nat):=do
 ZL lo (lo+n)
 let c ←Bz lo n m
 match c.1 with
 |some r=>pure r
 |none=>pure (some c.2)
noncomputable def JZ (lo:Nat)(c:DescSt):StateT Vz Sem (ForInStep DescSt):=do
 let some sm ←ltAt' (lo+c.2.1) (lo+c.2.1-1)|pure (.done (some none,c.2.1,c.2.2))
 if sm=true then
  if c.2.2>0 then do
   ZL (lo+c.2.1-(c.2.2+1)) (lo+c.2.1)
   pure (.yield (none,c.2.1+1,0))
  else pure (.yield (none,c.2.1+1,0))
 else do
  let some lg ←ltAt' (lo+c.2.1-1) (lo+c.2.1)|pure (.done (some none,c.2.1,c.2.2))
  if lg=true then pure (.done (none,c.2.1,c.2.2)) else pure (.yield (none,c.2.1+1,c.2.2+1))
noncomputable def FN (lo n m:Nat):StateT Vz Sem DescSt:=forIn [n:m] ((none,n,0):DescSt) λ_ c=>JZ lo c
noncomputable def BB (lo n m:Nat):StateT Vz Sem (Option Nat):=do
 liftM (rule "list.sort.descending-run")
 let c ←FN lo (n+1) m
 match c.1 with
 |some r=>pure r
 |none=>
  if c.2.2>0 then do
   ZL (lo+c.2.1-(c.2.2+1)) (lo+c.2.1)
   BA lo c.2.1 m
  else BA lo c.2.1 m
theorem xQ (lo m:Nat):countRun' lo m=(do
  let c ←Bz lo 1 m
  match c.1 with
  |some r=>pure r
  |none=>
   if (c.2==m)=true then pure (some c.2)
   else if c.2>1 then do
    let some rs ←ltAt' lo (lo+c.2-1)|pure none
    if rs=true then pure (some c.2)
    else do
     ZL lo (lo+c.2)
     BB lo c.2 m
   else BB lo c.2 m):=by kernel_rfl
section
variable {A:VR}{O:aaC}{key:VA->O.α}{knd:YQ}{D:VA->Prop}{lo:Nat}{a0:Array VA}{cq:Vz}
noncomputable def kx (key:VA->O.α)(l:Array VA)(i:Nat):O.α:=key ((l[i]?).getD (Value.none,Value.none))
theorem xR {l m:Array VA}(h:l[i]? = m[j]?):kx key l i=kx key m j:=by unfold kx;rw[h]
theorem Ab {l:Array VA}(hm:lo+m<=l.size)(k:Nat):kx key (mirror l (lo+n) (lo+m) ((lo+m-(lo+n)) / 2)) (lo+k)=if n<=k/\k<m then kx key l (lo+(n+m-1-k)) else kx key l (lo+k):=by
 have e:=getElem?_mirror_all (i:=lo+n) hm (lo+k);by_cases c:n<=k/\k<m
 ·rw[hV (by lia)] at e;rw[hV c];exact xR (e.trans (by congr 1;lia))
 ·rw[hU (by lia)] at e;rw[hU c];exact xR e
theorem gc {l:Array VA}(hm:lo+m<=l.size)(he:∀k,n<=k->k<m->kx key l (lo+k)=kx key l (lo+m-1))(k:Nat):kx key (mirror l (lo+n) (lo+m) ((lo+m-(lo+n)) / 2)) (lo+k)=kx key l (lo+k):=by
 rw[Ab hm];split
 ·rename_i c;rw[he _ (by lia) (by lia),he k c.1 c.2]
 ·rfl
theorem FO {l:Array VA}{p d:Nat}(hp:lo+p<l.size)(hd:d<=p)(k:Nat):kx key (bubble l (lo+p) d) (lo+k)=if k=p-d then kx key l (lo+p) else if p-d<k/\k<=p then kx key l (lo+(k-1)) else kx key l (lo+k):=by
 have e:=getElem?_bubble hp d (by lia) (lo+k);by_cases c:k=p-d
 ·rw[hV (by lia)] at e;rw[hV c];exact xR e
 ·rw[hU (by lia)] at e;rw[hU c];by_cases c2:p-d<k/\k<=p
  ·rw[hV (by lia)] at e;rw[hV c2];exact xR (e.trans (by congr 1;lia))
  ·rw[hU (by lia)] at e;rw[hU c2];exact xR e
def Dh (key:VA->O.α)(lo:Nat)(l:Array VA)(n:Nat):Prop:=∀i j,i<=j->j<n->O.kle (kx key l (lo+i)) (kx key l (lo+j))
def MR (key:VA->O.α)(lo:Nat)(l:Array VA)(n:Nat):Prop:=∀i j,i<=j->j<n->O.kle (kx key l (lo+j)) (kx key l (lo+i))
structure SB (lo:Nat)(a0:Array VA)(cq st:Vz):Prop where
 perm:(VQ st).Perm a0
 same:∀k,k<lo->(VQ st)[k]? = a0[k]?
 rest:st=setArr cq (VQ st)
theorem SB.size {st:Vz}(h:SB lo a0 cq st):(VQ st).size=a0.size:=h.perm.size_eq
theorem SB.put {st:Vz}(h:SB lo a0 cq st){l:Array VA}(hp:l.Perm (VQ st))(hs:∀k,k<lo->l[k]? = (VQ st)[k]?):SB lo a0 cq (setArr st l):=by
 refine⟨hp.trans h.perm,λk hk=>(hs k hk).trans (h.same k hk),?_⟩;have:=h.rest;generalize VQ st=z at this;subst this;rfl
theorem SB.mir {st:Vz}(h:SB lo a0 cq st)(hm:lo+m<=a0.size):SB lo a0 cq (setArr st (mirror (VQ st) (lo+n) (lo+m) ((lo+m-(lo+n)) / 2))):=by
 refine h.put (mirror_perm _ _ _ _) λk hk=>?_;rw[getElem?_mirror_all (by rw[h.size];exact hm),hU (by lia)]
theorem SB.bub {st:Vz}(h:SB lo a0 cq st){p d:Nat}(hp:lo+p<a0.size)(hd:d<=p):SB lo a0 cq (setArr st (bubble (VQ st) (lo+p) d)):=by
 refine h.put (bubble_perm _ _ _) λk hk=>?_;rw[getElem?_bubble (by rw[h.size];exact hp) d (by lia),hU (by lia),hU (by lia)]
theorem SB.kind {st:Vz}(h:SB lo a0 cq st)(kd:Wu cq=knd):Wu st=knd:=by rw[h.rest];exact kd
theorem rV (C:ly M A E s O key knd D){st:Vz}{Q:Option Bool->Vz->Prop}(kd:Wu cq=knd)(hD:∀p∈a0.toList,D p)(hB:SB lo a0 cq st)(hi:i<a0.size)(hj:j<a0.size)(h:Q (some (O.blt (kx key (VQ st) i) (kx key (VQ st) j))) st):wpS M A E s (ltAt' i j) Q st:=by
 have fd:∀i,i<a0.size->∃p,(VQ st)[i]? = some p/\D p/\kx key (VQ st) i=key p:=λi hi=>by
  have wO:i<(VQ st).size:=by rw[hB.size];exact hi
  refine⟨(VQ st)[i],getElem?_pos _ i wO,hD _ ((Z2.mp hB.perm).mem_iff.mp (by simp)),?_⟩;unfold kx;rw[getElem?_pos _ i wO];rfl
 obtain⟨p,e1,d1,k1⟩:=fd i hi;obtain⟨q,e2,d2,k2⟩:=fd j hj;rw[k1,k2] at h;rw[ltAt'_eq];refine Vn (aap ?_);dsimp only;rw[elem'_eq,elem'_eq,e1,e2];refine Vn (Vt (Vn (Vt ?_)));exact C.lt p q st Q d1 d2 (hB.kind kd) h
theorem vR {st:Vz}{Q:Unit->Vz->Prop}(h:Q () (setArr st (mirror (VQ st) i j ((j-i) / 2)))):wpS M A E s (ZL i j) Q st:=by
 rw[reverseSlice'_eq];exact YY h
theorem xS (C:ly M A E s O key knd D){st:Vz}{Q:AscSt->Vz->Prop}(kd:Wu cq=knd)(hD:∀p∈a0.toList,D p)(hm:lo+m<=a0.size)(n1:1<=n)(nm:n<=m)(hB:SB lo a0 cq st)(ha:Dh key lo (VQ st) n)(h:∀r,n<=r->r<=m->Dh key lo (VQ st) r->(r=m\/O.klt (kx key (VQ st) (lo+r)) (kx key (VQ st) (lo+r-1)))->Q (none,r) st):wpS M A E s (Bz lo n m) Q st:=by
 unfold Bz;refine Wx (I:=λx c aQ=>aQ=st/\c=(none,x)/\Dh key lo (VQ st) x) ?go ?out ⟨rfl,rfl,ha⟩
 case out=>
  rintro c aQ ⟨rfl,rfl,Au⟩;have e:max n m=m:=by lia
  rw[e] at Au ⊢;exact h m nm (Vh _) Au (.inl rfl)
 case go=>
  rintro x c aQ h1 h2 ⟨rfl,rfl,Au⟩;dsimp only;refine Vn (rV C kd hD hB (by lia) (by lia) ?_);dsimp only;cases e:O.blt (kx key (VQ aQ) (lo+x)) (kx key (VQ aQ) (lo+x-1)) with
  |true=>
   rw[hV rfl];exact Vt (h x h1 (by lia) Au (.inr e))
  |false=>
   rw[hU Vb];refine Vt ⟨rfl,rfl,λi j ue hj=>?_⟩;by_cases c1:j<x
   ·exact Au i j ue c1
   ·have:j=x:=by lia
    subst this;by_cases c2:i=j
    ·subst c2;exact WJ _
    ·have:=Au i (j-1) (by lia) (by lia);rw[show lo+(j-1)=lo+j-1 by lia] at this;exact VI this e
theorem xT (C:ly M A E s O key knd D){st:Vz}{Q:Option Nat->Vz->Prop}(kd:Wu cq=knd)(hD:∀p∈a0.toList,D p)(hm:lo+m<=a0.size)(n1:1<=n)(nm:n<=m)(hB:SB lo a0 cq st)(hd:MR key lo (VQ st) n)(h:∀r aQ,SB lo a0 cq aQ->1<=r->r<=m->Dh key lo (VQ aQ) r->Q (some r) aQ):wpS M A E s (BA lo n m) Q st:=by
 unfold BA;refine Vn (vR ?_);have MW:=hB.mir (n:=0) (m:=n) (by lia);have hz:lo+n<=(VQ st).size:=by rw[hB.size];lia
 rw[aag] at MW;refine Vn (xS C kd hD hm n1 nm MW (λi j ue hj=>?_) λr r1 r2 r3 _=>Vt (h r _ MW (by lia) r2 r3));have e1:=Ab (key:=key) (lo:=lo) (n:=0) hz i;have e2:=Ab (key:=key) (lo:=lo) (n:=0) hz j;rw[aag,hV (by lia)] at e1 e2;rw[e1,e2];exact hd _ _ (by lia) (by lia)
theorem FP (C:ly M A E s O key knd D){st:Vz}{Q:DescSt->Vz->Prop}(kd:Wu cq=knd)(hD:∀p∈a0.toList,D p)(hm:lo+m<=a0.size)(n1:1<=n)(nm:n<=m)(hB:SB lo a0 cq st)(hd:MR key lo (VQ st) n)(h:∀r q aQ,SB lo a0 cq aQ->n<=r->r<=m->MR key lo (VQ aQ) r->q+1<=r->(∀i,r-(q+1)<=i->i<r->kx key (VQ aQ) (lo+i)=kx key (VQ aQ) (lo+r-1))->Q (none,r,q) aQ):wpS M A E s (FN lo n m) Q st:=by
 unfold FN;refine Wx (I:=λx c aQ=>∃q,c=(none,x,q)/\SB lo a0 cq aQ/\MR key lo (VQ aQ) x/\q+1<=x/\∀i,x-(q+1)<=i->i<x->kx key (VQ aQ) (lo+i)=kx key (VQ aQ) (lo+x-1)) ?go ?out
  ⟨0,rfl,hB,hd,by lia,λi a1 a2=>by congr 1;lia⟩
 case out=>
  rintro c aQ ⟨q,rfl,b1,b2,b3,b4⟩;have e:max n m=m:=by lia
  rw[e] at b2 b3 b4 ⊢;exact h m q aQ b1 nm (Vh _) b2 b3 b4
 case go=>
  rintro x c aQ h1 h2 ⟨q,rfl,b1,b2,b3,b4⟩;have hz:lo+x<=(VQ aQ).size:=by rw[b1.size];lia
  unfold JZ;dsimp only;refine Vn (rV C kd hD b1 (by lia) (by lia) ?_);dsimp only;cases e:O.blt (kx key (VQ aQ) (lo+x)) (kx key (VQ aQ) (lo+x-1)) with
  |true=>
   rw[hV rfl];have nx:∀l:Array VA,(∀k,kx key l (lo+k)=kx key (VQ aQ) (lo+k))->MR key lo l (x+1):=by
    intro l hl i j ue hj;rw[hl,hl];by_cases c1:j<x
    ·exact b2 i j ue c1
    ·have:j=x:=by lia
     subst this;by_cases c2:i=j
     ·subst c2;exact WJ _
     ·have:=b2 i (j-1) (by lia) (by lia);rw[show lo+(j-1)=lo+j-1 by lia] at this;exact VI (V4 e) this
   by_cases c:q>0
   ·rw[hV c];refine Vn (vR ?_);have e3:lo+x-(q+1)=lo+(x-(q+1)):=by lia
    rw[e3];refine Vt ⟨0,rfl,b1.mir (by lia),nx _ (gc hz b4),by lia,λi a1 a2=>?_⟩;congr 1;lia
   ·rw[hU c];exact Vt ⟨0,rfl,b1,nx _ (λ_=>rfl),by lia,λi a1 a2=>by congr 1;lia⟩
  |false=>
   rw[hU Vb];refine Vn (rV C kd hD b1 (by lia) (by lia) ?_);dsimp only;cases e2:O.blt (kx key (VQ aQ) (lo+x-1)) (kx key (VQ aQ) (lo+x)) with
   |true=>
    rw[hV rfl];exact Vt (h x q aQ b1 h1 (by lia) b2 b3 b4)
   |false=>
    rw[hU Vb];have eq:kx key (VQ aQ) (lo+x)=kx key (VQ aQ) (lo+x-1):=KeyOrd.kle_antisymm e2 e;refine Vt ⟨q+1,rfl,b1,λi j ue hj=>?_,by lia,λi a1 a2=>?_⟩
    ·by_cases c1:j<x
     ·exact b2 i j ue c1
     ·have:j=x:=by lia
      subst this;by_cases c2:i=j
      ·subst c2;exact WJ _
      ·rw[eq];have:=b2 i (j-1) (by lia) (by lia);rw[show lo+(j-1)=lo+j-1 by lia] at this;exact this
    ·rw[show lo+(x+1)-1=lo+x by lia];by_cases c1:i=x
     ·subst c1;rfl
     ·rw[eq];exact b4 i (by lia) (by lia)
theorem xU (C:ly M A E s O key knd D){st:Vz}{Q:Option Nat->Vz->Prop}(kd:Wu cq=knd)(hD:∀p∈a0.toList,D p)(hm:lo+m<=a0.size)(nm:n+1<=m)(hB:SB lo a0 cq st)(hd:MR key lo (VQ st) (n+1))(h:∀r aQ,SB lo a0 cq aQ->1<=r->r<=m->Dh key lo (VQ aQ) r->Q (some r) aQ):wpS M A E s (BB lo n m) Q st:=by
 unfold BB;refine Vn (wpS_lift (Xq ⟨rfl,?_⟩));refine Vn (FP C kd hD hm (by lia) nm hB hd λr q aQ b1 r1 r2 b2 b3 b4=>?_);dsimp only;have hz:lo+r<=(VQ aQ).size:=by rw[b1.size];lia
 by_cases c:q>0
 ·rw[hV c];refine Vn (vR ?_);have e3:lo+r-(q+1)=lo+(r-(q+1)):=by lia
  rw[e3];refine xT C kd hD hm (by lia) r2 (b1.mir (by lia)) (λi j ue hj=>?_) h;have e1:=gc (key:=key) hz b4 i;have e2:=gc (key:=key) hz b4 j;rw[e1,e2];exact b2 i j ue hj
 ·rw[hU c];exact xT C kd hD hm (by lia) r2 b1 b2 h
theorem xV (C:ly M A E s O key knd D){st:Vz}{Q:Option Nat->Vz->Prop}(kd:Wu cq=knd)(hD:∀p∈a0.toList,D p)(hm:lo+m<=a0.size)(m1:1<=m)(hB:SB lo a0 cq st)(h:∀r aQ,SB lo a0 cq aQ->1<=r->r<=m->Dh key lo (VQ aQ) r->Q (some r) aQ):wpS M A E s (countRun' lo m) Q st:=by
 rw[xQ];refine Vn (xS C kd hD hm (Vh 1) m1 hB (λi j ue hj=>by rw[show i=j by lia];exact WJ _) λn n1 n2 ha ho=>?_);dsimp only;by_cases c:n=m
 ·rw[hV (by simpa using c)];exact Vt (h n st hB n1 n2 ha)
 ·rw[hU (by simpa using c)];have hl:=ho.resolve_left c;by_cases c2:n>1
  ·rw[hV c2];refine Vn (rV C kd hD hB (by lia) (by lia) ?_);dsimp only;cases e:O.blt (kx key (VQ st) lo) (kx key (VQ st) (lo+n-1)) with
   |true=>
    rw[hV rfl];exact Vt (h n st hB n1 n2 ha)
   |false=>
    rw[hU Vb];have hz:lo+n<=(VQ st).size:=by rw[hB.size];lia
    have al:∀k,0<=k->k<n->kx key (VQ st) (lo+k)=kx key (VQ st) (lo+n-1):=by
     intro k _ hk;have p1:=ha 0 k (by lia) hk;have p2:=ha k (n-1) (by lia) (by lia);rw[show lo+(n-1)=lo+n-1 by lia] at p2;exact KeyOrd.kle_antisymm p2 (VI (show O.kle _ (kx key (VQ st) lo) from e) p1)
    refine Vn (vR ?_);have MW:=hB.mir (n:=0) (m:=n) (by lia);rw[aag] at MW;refine xU C kd hD hm (by lia) MW (λi j ue hj=>?_) h;have e1:=gc (key:=key) (n:=0) hz al i;have e2:=gc (key:=key) (n:=0) hz al j;rw[aag] at e1 e2;rw[e1,e2];by_cases c3:j<n
    ·rw[al i (by lia) (by lia),al j (by lia) c3];exact WJ _
    ·have:j=n:=by lia
     subst this;by_cases c4:i=j
     ·subst c4;exact WJ _
     ·rw[al i (by lia) (by lia)];exact V4 hl
  ·rw[hU c2];have:n=1:=by lia
   subst this;refine xU C kd hD hm (by lia) hB (λi j ue hj=>?_) h;by_cases c4:i=j
   ·subst c4;exact WJ _
   ·have R0:i=0:=by lia
    have Ug:j=1:=by lia
    subst R0;subst Ug;exact V4 hl
theorem Ac (C:ly M A E s O key knd D){st:Vz}{ok:Nat}{Q:Bool->Vz->Prop}(kd:Wu cq=knd)(hD:∀p∈a0.toList,D p)(hn:lo+n<=a0.size)(hok:ok<=n)(hB:SB lo a0 cq st)(ha:Dh key lo (VQ st) ok)(h:∀aQ,SB lo a0 cq aQ->Dh key lo (VQ aQ) n->Q true aQ):wpS M A E s (binarySort' lo n ok) Q st:=by
 rw[binarySort'_eq];refine Vn (XG (Wx (I:=λk c aQ=>c=(none,())/\SB lo a0 cq aQ/\Dh key lo (VQ aQ) (min k n))
  (Q:=λc aQ=>c=(none,())/\SB lo a0 cq aQ/\Dh key lo (VQ aQ) n) ?go ?out ?vh) ?end_)
 case end_=>
  rintro c aQ ⟨rfl,b1,b2⟩;exact Vt (h aQ b1 b2)
 case vh=>
  refine⟨rfl,hB,λi j ue hj=>?_⟩;by_cases c:ok=0
  ·rw[show i=j by lia];exact WJ _
  ·exact ha i j ue (by lia)
 case out=>
  rintro c aQ ⟨e,b1,b2⟩;have e2:min (max (max ok 1) n) n=n:=by lia
  rw[e2] at b2;exact⟨e,b1,b2⟩
 case go=>
  rintro k c yL As Pm ⟨rfl,b1,b2⟩;have e1:min k n=k:=by lia
  rw[e1] at b2;have hk:lo+k<a0.size:=by lia
  refine Vn (XG (Wx (I:=λx c kY=>kY=yL/\∃l r,c=(none,l,r)/\l<=r/\r<=k/\r-l<=k-x/\
    (∀i,i<l->O.kle (kx key (VQ yL) (lo+i)) (kx key (VQ yL) (lo+k)))/\∀i,r<=i->i<k->O.klt (kx key (VQ yL) (lo+k)) (kx key (VQ yL) (lo+i)))
   (Q:=λc kY=>kY=yL/\∃l,c=(none,l,l)/\l<=k/\(∀i,i<l->O.kle (kx key (VQ yL) (lo+i)) (kx key (VQ yL) (lo+k)))/\∀i,l<=i->i<k->O.klt (kx key (VQ yL) (lo+k)) (kx key (VQ yL) (lo+i))) ?go2 ?out2 ?Ku) ?end2)
  case Ku=>exact⟨rfl,0,k,rfl,by lia,by lia,by lia,λi hi=>by lia,λi a1 a2=>by lia⟩
  case out2=>
   rintro c kY ⟨rfl,l,r,rfl,q1,q2,q3,q4,q5⟩;have:l=r:=by lia
   subst this;exact⟨rfl,l,rfl,q2,q4,q5⟩
  case go2=>
   rintro x c kY _ hx ⟨rfl,l,r,rfl,q1,q2,q3,q4,q5⟩;dsimp only;by_cases c:l≥r
   ·rw[hV c];have:l=r:=by lia
    subst this;exact Vt ⟨rfl,l,rfl,q2,q4,q5⟩
   ·rw[hU c];refine Vn (rV C kd hD b1 hk (by lia) ?_);cases e:O.blt (kx key (VQ kY) (lo+k)) (kx key (VQ kY) (lo+(l+r) / 2)) with
    |true=>
     simp only[if_true];exact Vt ⟨rfl,l,(l+r) / 2,rfl,by lia,by lia,by lia,q4,λi a1 a2=>KeyOrd.klt_of_klt_of_kle e (b2 _ _ a1 a2)⟩
    |false=>
     simp only[VG,if_false];exact Vt ⟨rfl,(l+r) / 2+1,r,rfl,by lia,by lia,by lia,λi a1=>VI (b2 i ((l+r) / 2) (by lia) (by lia)) (show O.kle _ _ from e),q5⟩
  case end2=>
   rintro c kY ⟨rfl,l,rfl,q2,q4,q5⟩;dsimp only;rw[moveDown'_eq];have e2:lo+k-(lo+l)=k-l:=by lia
   refine Vn (YY (Vt ⟨rfl,?_,?_⟩))
   ·rw[e2];exact b1.bub hk (by lia)
   ·rw[show min (k+1) n=k+1 by lia];have hz:lo+k<(VQ kY).size:=by rw[b1.size];exact hk
    intro i j ue hj;show O.kle (kx key (bubble (VQ kY) (lo+k) (lo+k-(lo+l))) (lo+i)) (kx key (bubble (VQ kY) (lo+k) (lo+k-(lo+l))) (lo+j));rw[e2,FO hz (by lia),FO hz (by lia),show k-(k-l)=l by lia]
    repeat' split
    all_goals first
     | (exfalso;lia)
     |exact WJ _
     |exact q4 _ (by lia)
     |exact V4 (q5 _ (by lia) (by lia))
     |exact b2 _ _ (by lia) (by lia)
end
end Hc.Ts
namespace Hc.Ts
noncomputable def vS (lo n:Nat):StateT Vz Sem (ForInStep (Option Unit×Nat)):=do
 modify λst=>setPending st ((VM st).push (lo,n,0))
 pure (.yield (none,lo+n))
noncomputable def QZ (pw:Nat)(_:Nat)(_:Option Unit×Unit):StateT Vz Sem (ForInStep (Option Unit×Unit)):=do
 let st ←get
 let some (_,_,old):=(if (VM st).size>1 then (VM st)[(VM st).size-2]? else none)|pure (.done (none,()))
 if old<=pw then pure (.done (none,())) else do
  let r ←mergeAt' ((VM st).size-2)
  if (!r)=true then pure (.done (some (),())) else pure (.yield (none,()))
noncomputable def Q0 (pw:Nat)(st:Vz):Vz:=setPending st ((VM st).modify ((VM st).size-1) λx=>match x with|(p,n,_)=>(p,n,pw))
noncomputable def J0 (size lo n pw:Nat):StateT Vz Sem (ForInStep (Option Unit×Nat)):=do
 let c ←forIn [0:size] ((none,()):Option Unit×Unit) (QZ pw)
 match c.1 with
 |some r=>pure (.done (some r,lo))
 |none=>do
  modify (Q0 pw)
  vS lo n
noncomputable def PZ (size lo n:Nat):StateT Vz Sem (ForInStep (Option Unit×Nat)):=do
 let st ←get
 let some (p1,n1,_):=(VM st).back? | vS lo n
 J0 size lo n (power' size (2*p1+n1) (2*p1+n1+n1+n) size)
noncomputable def Q1 (size oy:Nat)(_:Nat)(c:Option Unit×Nat):StateT Vz Sem (ForInStep (Option Unit×Nat)):=
 if c.2≥size then pure (.done (none,c.2)) else do
  let some n ←countRun' c.2 (size-c.2)|pure (.done (some (),c.2))
  if n<oy then do
   liftM (rule "list.sort.binary-insertion")
   let r ←binarySort' c.2 (min (size-c.2) oy) n
   if (!r)=true then pure (.done (some (),c.2)) else PZ size c.2 (min (size-c.2) oy)
  else PZ size c.2 n
noncomputable def Q2 (p:Array (Nat×Nat×Nat)):Nat:=
 if Option.any (λx=>decide (x<(p[p.size-2+1]?).elim 0 λx=>x.2.1)) (if p.size-2>0 then Option.map (λx=>x.2.1) p[p.size-2-1]? else none)=true then p.size-2-1 else p.size-2
noncomputable def Ss (_:Nat)(_:Option Unit×Unit):StateT Vz Sem (ForInStep (Option Unit×Unit)):=do
 let st ←get
 if (VM st).size<=1 then pure (.done (none,())) else do
  let r ←mergeAt' (Q2 (VM st))
  if (!r)=true then pure (.done (some (),())) else pure (.yield (none,()))
theorem vT:sortRuns'=(do
  let st ←get
  let c ←forIn [0:(VQ st).size] ((none,0):Option Unit×Nat) (Q1 (VQ st).size (minRun' (VQ st).size (VQ st).size 0))
  match c.1 with
  |some r=>pure r
  |none=>do
   let d ←forIn [0:(VQ st).size] ((none,()):Option Unit×Unit) Ss
   match d.1 with
   |some r=>pure r
   |none=>pure ()):=by kernel_rfl
section
variable {A:VR}{O:aaC}{key:VA->O.α}{knd:YQ}{D:VA->Prop}
def rW (key:VA->O.α):Nat->List (List VA)->List (Nat×Nat×Nat)->Prop
 |_,[],[]=>True
 |p,g::gs,e::es=>e.1=p/\e.2.1=g.length/\0<g.length/\iP key g/\rW key (p+g.length) gs es
 |_,_,_=>False
theorem rW.len:∀{p:Nat} {gs:List (List VA)} {es:List (Nat×Nat×Nat)},rW key p gs es->gs.length=es.length/\gs.length<=gs.flatten.length
 |_,[],[],_=>⟨rfl,Vh _⟩
 |p,g::gs,e::es,h=>by
  obtain⟨h1,h2⟩:=rW.len h.2.2.2.2;have:=h.2.2.1;rw[VP,Ve,Vi,Vi];lia
theorem rW.app:∀{p:Nat} {gs:List (List VA)} {es:List (Nat×Nat×Nat)} {gs2:List (List VA)} {es2:List (Nat×Nat×Nat)},rW key p gs es->rW key (p+gs.flatten.length) gs2 es2->rW key p (gs++gs2) (es++es2)
 |_,[],[],_,_,_,h2=>h2
 |p,g::gs,e::es,gs2,es2,h,h2=>by
  refine⟨h.1,h.2.1,h.2.2.1,h.2.2.2.1,rW.app h.2.2.2.2 ?_⟩;rw[VP,Ve,←X8] at h2;exact h2
theorem rW.split:∀{i p:Nat} {gs:List (List VA)} {es:List (Nat×Nat×Nat)},rW key p gs es->i+1<es.length->∃g1 x y g2 e1 pw pw2 e2,gs=g1++x::y::g2/\es=e1++(p+g1.flatten.length,x.length,pw)::(p+g1.flatten.length+x.length,y.length,pw2)::e2/\e1.length=i/\rW key p g1 e1/\0<x.length/\iP key x/\0<y.length/\iP key y/\rW key (p+g1.flatten.length+x.length+y.length) g2 e2
 |0,p,x::y::g2,(a,b,pw)::(c,d,pw2)::e2,h,_=>by
  obtain⟨h1,h2,h3,h4,k1,k2,k3,k4,h5⟩:=h;dsimp only at h1 h2 k1 k2;subst h1;subst h2;subst k1;subst k2;exact⟨[],x,y,g2,[],pw,pw2,e2,rfl,rfl,rfl,trivial,h3,h4,k3,k4,h5⟩
 |0,p,[x],[e],h,hl=>absurd hl (by simp)
 |0,p,[],[],h,hl=>absurd hl (by simp)
 |0,p,[x],_::_::_,h,hl=>h.2.2.2.2.elim
 |0,p,_::_::_,[e],h,hl=>h.2.2.2.2.elim
 |i+1,p,[],[],h,hl=>absurd hl (by simp)
 |i+1,p,g::gs,e::es,h,hl=>by
  obtain⟨g1,x,y,g2,e1,pw,pw2,e2,q1,q2,q3,q4,q5⟩:=rW.split h.2.2.2.2 (i:=i) (by simpa using hl);refine⟨g::g1,x,y,g2,e::e1,pw,pw2,e2,by rw[q1];rfl,?_,by rw[Vi,q3],⟨h.1,h.2.1,h.2.2.1,h.2.2.2.1,q4⟩,?_⟩
  ·rw[q2,VP,Ve,←X8];rfl
  ·rw[VP,Ve,←X8];exact q5
theorem rW.power {f:Nat×Nat×Nat->Nat×Nat×Nat}(hf:∀e,(f e).1=e.1/\(f e).2.1=e.2.1):∀{i p:Nat} {gs:List (List VA)} {es:List (Nat×Nat×Nat)},rW key p gs es->rW key p gs (es.modify i f)
 |_,_,[],[],_=>by rw[List.modify_nil];exact trivial
 |0,p,g::gs,e::es,h=>by
  rw[List.modify_zero_cons];exact⟨(hf e).1.trans h.1,(hf e).2.trans h.2.1,h.2.2⟩
 |i+1,p,g::gs,e::es,h=>by
  rw[List.modify_succ_cons];exact⟨h.1,h.2.1,h.2.2.1,h.2.2.2.1,rW.power hf h.2.2.2.2⟩
structure SI (key:VA->O.α)(knd:YQ)(a0:Array VA)(lo:Nat)(rest:List VA)(st:Vz):Prop where
 failed:YR st=none
 kind:Wu st=knd
 perm:(VQ st).toList.Perm a0.toList
 segs:∃gs:List (List VA),(VQ st).toList=gs.flatten++rest/\gs.flatten.length=lo/\rW key 0 gs (VM st).toList
variable {a0:Array VA}{lo:Nat}{rest:List VA}
theorem SI.size {st:Vz}(h:SI key knd a0 lo rest st):lo+rest.length=a0.size:=by
 obtain⟨gs,e,l,_⟩:=h.segs;have:=h.perm.length_eq;rw[e,Ve,l,U9] at this;exact this
theorem SI.few {st:Vz}(h:SI key knd a0 lo rest st):(VM st).size<=lo:=by
 obtain⟨gs,e,l,p⟩:=h.segs;have h1:=p.len;have h2:(VM st).toList.length=(VM st).size:=U9;lia
theorem SI.merge (C:ly M A E s O key knd D)(hD:∀p∈a0.toList,D p){st:Vz}(h:SI key knd a0 lo rest st)(hi:i+1<(VM st).size){Q:Bool->Vz->Prop}(q:∀aQ,SI key knd a0 lo rest aQ->(VM aQ).size+1=(VM st).size->Q true aQ):wpS M A E s (mergeAt' i) Q st:=by
 obtain⟨gs,e,l,p⟩:=h.segs;obtain⟨g1,x,y,g2,e1,pw,pw2,e2,q1,q2,q3,q4,x0,sx,y0,sy,q5⟩:=p.split (i:=i) (by rw[U9];exact hi);rw[XB] at q2 q5;subst q3;have ea:(VQ st).toList=g1.flatten++(x++(y++(g2.flatten++rest))):=by
  rw[e,q1,Xu,VP,VP];simp only[VC]
 have mem:∀p∈(VQ st).toList,D p:=λp hp=>hD p (h.perm.mem_iff.mp hp);refine Aa C (pw:=pw) (pw2:=pw2) h.failed h.kind ea ?_ ?_ (λp hp=>mem p (by rw[ea];simp[hp])) (λp hp=>mem p (by rw[ea];simp[hp])) sx sy x0 y0 λz g hz sz=>q _ ?_ ?_
 ·rw[←Vq,q2,V9 (Vh _),aaf];rfl
 ·rw[←Vq,q2,V9 (WK _ 1),WV];rfl
 all_goals
  have ep:(uO (VM st) e1.length g1.flatten.length (x.length+y.length) pw).toList=e1++(g1.flatten.length,x.length+y.length,pw)::e2:=by
   unfold uO;rw[Array.toList_eraseIdxIfInBounds,Z1,q2,List.set_append_right _ _ (Vh _),aaf,WW,List.eraseIdx_append_of_length_le (WK _ 1),WV];rfl
 ·refine⟨h.failed,h.kind,?_,g1++z::g2,?_,?_,?_⟩
  ·show (g1.flatten++(z++(g2.flatten++rest))).Perm a0.toList;refine List.Perm.trans ?_ h.perm;rw[ea];refine Wv _ ?_;rw[←VC x];exact W7 _ hz
  ·show g1.flatten++(z++(g2.flatten++rest))=_;rw[Xu,VP];simp only[VC]
  ·rw[←l,q1,Xu,Xu,VP,VP,VP];have:=hz.length_eq;rw[Ve] at this;simp only[Ve];lia
  ·show rW key 0 _ (uO (VM st) e1.length g1.flatten.length (x.length+y.length) pw).toList;have hl:z.length=x.length+y.length:=by rw[hz.length_eq,Ve]
   rw[ep];refine q4.app ⟨by rw[XB],hl.symm,by rw[hl];lia,sz,?_⟩;rw[XB,hl,←X8];exact q5
 ·show (uO (VM st) e1.length g1.flatten.length (x.length+y.length) pw).size+1=_;rw[←U9,ep,←U9 (xs:=VM st),q2];simp only[Ve,Vi];lia
theorem LQ (C:ly M A E s O key knd D)(hD:∀p∈a0.toList,D p){st:Vz}(h:SI key knd a0 lo rest st){pw:Nat}{c:Option Unit×Unit}{Q:ForInStep (Option Unit×Unit)->Vz->Prop}(q1:∀aQ,SI key knd a0 lo rest aQ->Q (.done (none,())) aQ)(q2:∀aQ,SI key knd a0 lo rest aQ->Q (.yield (none,())) aQ):wpS M A E s (QZ pw i c) Q st:=by
 unfold QZ;refine Vn (aap ?_);by_cases c1:(VM st).size>1
 ·rw[hV c1,getElem?_pos (VM st) _ (by lia)];obtain⟨a,b,old⟩:=(VM st)[(VM st).size-2];dsimp only;split
  ·exact Vt (q1 st h)
  ·refine Vn (h.merge C hD (by lia) λaQ h' _=>?_);rw[hU (by decide)];exact Vt (q2 aQ h')
 ·rw[hU c1];exact Vt (q1 st h)
theorem uP {st:Vz}(h:SI key knd a0 lo rest st){Q:ForInStep (Option Unit×Nat)->Vz->Prop}(n1:1<=n)(n2:n<=rest.length)(sr:iP key (rest.take n))(q:∀aQ,SI key knd a0 (lo+n) (rest.drop n) aQ->Q (.yield (none,lo+n)) aQ):wpS M A E s (vS lo n) Q st:=by
 unfold vS;refine Vn (YY (Vt (q _ ?_)));obtain⟨gs,e,l,p⟩:=h.segs;have hl:(rest.take n).length=n:=by rw[V5];lia
 refine⟨h.failed,h.kind,h.perm,gs++[rest.take n],?_,?_,?_⟩
 ·show (VQ st).toList=_;rw[e,Xu,VC];congr 1;rw[VP,List.flatten_nil,VU,Ww]
 ·rw[Xu,Ve,l,VP,List.flatten_nil,VU,hl]
 ·show rW key 0 _ ((VM st).push (lo,n,0)).toList;rw[Xs];exact p.app ⟨by rw[XB,l],hl.symm,by lia,sr,trivial⟩
theorem FQ (C:ly M A E s O key knd D)(hD:∀p∈a0.toList,D p){st:Vz}(h:SI key knd a0 lo rest st){size:Nat}{Q:ForInStep (Option Unit×Nat)->Vz->Prop}(n1:1<=n)(n2:n<=rest.length)(sr:iP key (rest.take n))(q:∀aQ,SI key knd a0 (lo+n) (rest.drop n) aQ->Q (.yield (none,lo+n)) aQ):wpS M A E s (PZ size lo n) Q st:=by
 unfold PZ;refine Vn (aap ?_);cases e:(VM st).back? with
 |none=>exact uP h n1 n2 sr q
 |some v=>
  obtain⟨p1,m1,w⟩:=v;dsimp only;unfold J0;refine Vn (XG (Wx (I:=λx c aQ=>c=(none,())/\SI key knd a0 lo rest aQ) (Q:=λc aQ=>c=(none,())/\SI key knd a0 lo rest aQ) ?go (λ_ _ z=>z) ⟨rfl,h⟩) ?fin)
  case go=>
   rintro x c aQ _ _ ⟨rfl,h'⟩;exact LQ C hD h' (λkY z=>⟨rfl,z⟩) λkY z=>⟨rfl,z⟩
  case fin=>
   rintro c aQ ⟨rfl,h'⟩;dsimp only;refine Vn (YY (uP ?_ n1 n2 sr q));obtain⟨gs,e,l,p⟩:=h'.segs;refine⟨h'.failed,h'.kind,h'.perm,gs,e,l,?_⟩;show rW key 0 gs ((VM aQ).modify _ _).toList;rw[Array.toList_modify];refine rW.power (λe=>?_) p;exact⟨rfl,rfl⟩
theorem Ia {l:Array VA}{P R:List VA}(e:l.toList=P++R)(h:Dh key P.length l n):iP key (R.take n):=by
 refine XO.mpr λi j hi hj ue=>?_;rw[V5] at hi hj;have at_:∀k,(hk:k<R.length)->kx key l (P.length+k)=key R[k]:=λk hk=>by
  unfold kx;rw[←Vq,e,V9 (WK _ _),WV,U4 hk];rfl
 have:=h i j (by lia) (by lia);rw[at_ i (by lia),at_ j (by lia)] at this;rw[Zs,Zs];exact this
theorem SI.run {cq st:Vz}(h:SI key knd a0 lo rest cq)(b:SB lo (VQ cq) cq st):∃r,SI key knd a0 lo r st/\r.length=rest.length/\∀n,Dh key lo (VQ st) n->iP key (r.take n):=by
 obtain⟨gs,e,l,p⟩:=h.segs;have hp:=Z2.mp b.perm;have hl:lo<=(VQ st).toList.length:=by rw[hp.length_eq,e,Ve,l];lia
 have ht:(VQ st).toList.take lo=gs.flatten:=by
  apply X2;intro k;rw[Zd];split
  ·rename_i c;rw[Vq,b.same k c,←Vq,e,Wn (by lia)]
  ·rename_i c;rw[Yr (by lia)]
 have e2:(VQ st).toList=gs.flatten++(VQ st).toList.drop lo:=by
  conv=>lhs;rw[←Ww lo (VQ st).toList,ht]
 refine⟨(VQ st).toList.drop lo,⟨?_,?_,hp.trans h.perm,gs,e2,l,?_⟩,?_,λn hn=>?_⟩
 ·rw[b.rest];exact h.failed
 ·rw[b.rest];exact h.kind
 ·rw[b.rest];exact p
 ·have:=hp.length_eq;rw[e,Ve,l] at this;rw[Wy];lia
 ·subst l;exact Ia e2 hn
theorem LS (C:ly M A E s O key knd D)(hD:∀p∈a0.toList,D p){st:Vz}{oy:Nat}{c:Option Unit×Nat}(h:SI key knd a0 c.2 rest st){Q:ForInStep (Option Unit×Nat)->Vz->Prop}(q1:SI key knd a0 a0.size [] st->c.2=a0.size->Q (.done (none,a0.size)) st)(q2:∀n r aQ,1<=n->SI key knd a0 (c.2+n) r aQ->Q (.yield (none,c.2+n)) aQ):wpS M A E s (Q1 a0.size oy i c) Q st:=by
 obtain⟨c1,lo⟩:=c;dsimp only at h q1 q2;have hs:=h.size;unfold Q1;dsimp only;by_cases c2:lo≥a0.size
 ·rw[hV c2];have e1:lo=a0.size:=by lia
  have e2:rest=[]:=WL (by lia);subst e1;subst e2;exact Vt (q1 h rfl)
 ·rw[hU c2];have S7:∀p∈(VQ st).toList,D p:=λp hp=>hD p (h.perm.mem_iff.mp hp);have hz:(VQ st).size=a0.size:=by have:=h.perm.length_eq;rwa [U9,U9] at this
  have b0:SB lo (VQ st) st st:=⟨Array.Perm.refl _,λ_ _=>rfl,rfl⟩;refine Vn (xV C h.kind S7 (by lia) (by lia) b0 λn aQ b1 n1 n2 ha=>?_);dsimp only;by_cases c3:n<oy
  ·rw[hV c3];refine Vn (wpS_lift (Xq ⟨rfl,?_⟩));refine Vn (Ac C h.kind S7 (by lia) (by lia) b1 ha λkY b2 MV=>?_);rw[hU (by decide)];obtain⟨r,h',hl,hr⟩:=h.run b2;exact FQ C hD h' (by lia) (by lia) (hr _ MV) λGP h3=>q2 _ _ GP (by lia) h3
  ·rw[hU c3];obtain⟨r,h',hl,hr⟩:=h.run b1;exact FQ C hD h' n1 (by lia) (hr _ ha) λGP h3=>q2 _ _ GP n1 h3
theorem LU {p:Array (Nat×Nat×Nat)}(h:¬p.size<=1):Q2 p+1<p.size:=by
 unfold Q2;generalize (Option.any _ _)=z;cases z with
 |true=>rw[hV rfl];lia
 |false=>rw[hU Vb];lia
theorem xW (C:ly M A E s O key knd D)(hD:∀p∈a0.toList,D p){st:Vz}(hk:Wu st=knd)(hf:YR st=none)(ha:VQ st=a0)(hp:VM st=#[]){Q:Unit->Vz->Prop}
  (q:∀aQ,YR aQ=none->(VQ aQ).toList.Perm a0.toList->iP key (VQ aQ).toList->Q () aQ):wpS M A E s sortRuns' Q st:=by
 rw[vT];refine Vn (aap ?_);rw[ha];have h0:SI key knd a0 0 a0.toList st:=⟨hf,hk,by rw[ha],[],by rw[ha];rfl,rfl,by rw[hp];exact trivial⟩;refine Vn (XG (Wx (I:=λx c aQ=>c.1=none/\x<=c.2/\∃r,SI key knd a0 c.2 r aQ) (Q:=λc aQ=>c.1=none/\SI key knd a0 a0.size [] aQ) ?go ?out ⟨rfl,Vh _,_,h0⟩) ?post)
 case out=>
  rintro⟨c1,lo⟩ aQ ⟨e,hx,r,h⟩;dsimp only at e hx h;have hs:=h.size;have e1:lo=a0.size:=by lia
  have e2:r=[]:=WL (by lia);subst e1;subst e2;exact⟨e,h⟩
 case go=>
  rintro x c aQ _ hx ⟨e,hx2,r,h⟩;refine LS C hD h (λh1 h2=>⟨rfl,h1⟩) λn r kY n1 h2=>⟨rfl,?_,r,h2⟩;show x+1<=c.2+n;lia
 case post=>
  rintro⟨c1,lo⟩ aQ ⟨e,h⟩;dsimp only at e ⊢;subst e;dsimp only;refine Vn (XG (Wx (I:=λx c aQ=>c=(none,())/\SI key knd a0 a0.size [] aQ/\(VM aQ).size+x<=a0.size) (Q:=λc aQ=>c=(none,())/\SI key knd a0 a0.size [] aQ/\(VM aQ).size<=1) ?_ ?_ ⟨rfl,h,by have:=h.few;lia⟩) ?_)
  ·rintro x c kY _ hx ⟨rfl,h2,h3⟩;unfold Ss;refine Vn (aap ?_);by_cases c:(VM kY).size<=1
   ·rw[hV c];exact Vt ⟨rfl,h2,c⟩
   ·rw[hU c];refine Vn (h2.merge C hD (LU c) λGP h4 h5=>?_);rw[hU (by decide)];exact Vt ⟨rfl,h4,by lia⟩
  ·rintro c kY ⟨rfl,h2,h3⟩;exact⟨rfl,h2,by lia⟩
  ·rintro c kY ⟨rfl,h2,h3⟩;refine Vt (q kY h2.failed h2.perm ?_);obtain⟨gs,e,l,p⟩:=h2.segs;rw[e,VU]
   match gs,(VM kY).toList,p,(show (VM kY).toList.length<=1 by rw[U9];exact h3) with
   | [],_,_,_=>exact List.Pairwise.nil
   | [g],[e1],p,_=>
    rw[VP,List.flatten_nil,VU];exact p.2.2.2.1
   |g::g2::gs,[e1],p,_=>exact p.2.2.2.2.elim
   |g::gs,e1::e2::es,p,hl=>exact absurd hl (by simp)
end
end Hc.Ts
namespace Hc.Ts
section
variable {A:VR}{O:aaC}{key:VA->O.α}{knd:YQ}{D:VA->Prop}
theorem uQ {vs:List Va}(h:l.Perm (vs.zip vs)):(l.map (·.2)).Perm vs/\∀p∈l,p=(p.2,p.2):=by
 have e:(vs.zip vs).map (·.2)=vs:=by
  induction vs with
  |nil=>rfl
  |cons v r ih=>rw[Y3,Vp,List.map_snd_zip (by simp)]
 refine⟨by have:=h.map (·.2);rwa [e] at this,λp hp=>?_⟩;have hp:=h.mem_iff.mp hp;clear h e
 induction vs with
 |nil=>cases hp
 |cons v r ih=>
  rw[Y3,Vk] at hp;rcases hp with hp|hp
  ·subst hp;rfl
  ·exact ih hp
theorem FR {vs:List Va}{P:Fin->Vo->Prop}(ho:s.heap.get? a=some (aad "list" vs.toArray n))(hz:vs.length<=1000000)(hk:2<=vs.length->∀(h6:XI) (Q:YQ->Vo->Prop),(∀b o,b≠a->s.heap.get? b=some o->h6.get? b=some o)->Q knd {s with heap:=h6}->Vs (VE prog w) A (keyKind' vs.toArray) Q E {s with heap:=h6})(hC:2<=vs.length->∀h6:XI,(∀b o,b≠a->s.heap.get? b=some o->h6.get? b=some o)->ly (VE prog w) A E {s with heap:=h6} O key knd D)(hD:∀v∈vs,D (v,v))(h:∀out:List Va,out.Perm vs->out.Pairwise (λx y=>O.kle (key (x,x)) (key (y,y)))->P (.done (.ret .none)) {s with heap:=sortedHeap s.heap a vs out.toArray}) :
  Vs (VE prog w) A (Builtin.«list.sort» ⟨[.ref a],[]⟩) P E s:=by
 have yO:vs.length<=Vf:=by rw[W8];lia
 have la:a<s.heap.objs.size:=Vl ho;rw[list_sort_plain];refine U3 (listItems_at ho rfl (U3 (listUpdate_at ho rfl ?_ (hsz:=by rw[U_];exact yO))));obtain⟨e1,o1⟩:∃e1,(s.heap.update a (Yv λ_=>#[])).get? a=some (aad "list" #[] e1):=⟨_,get?_update_seq ho (λ_=>#[])⟩;refine U3 (seqEpoch_at o1 rfl (U3 (wpAny_newTuple (U3 (wpAny_newList (WA ?_))) (by simpa using yO))));have kp:∀b o,b≠a->s.heap.get? b=some o->(((s.heap.update a (Yv λ_=>#[])).push (aad "tuple" vs.toArray 0)).push (aad "list" #[] 0)).get? b=some o:=λb o hb e=>
  U5 _ (U5 _ ((Heap.get?_update_ne _ _ _ _ hb).trans e))
 have o6:(((s.heap.update a (Yv λ_=>#[])).push (aad "tuple" vs.toArray 0)).push (aad "list" #[] 0)).get? a=some (aad "list" #[] e1):=U5 _ (U5 _ o1);change Vs (VE prog w) A _ P E {s with heap:=((s.heap.update a (Yv λ_=>#[])).push (aad "tuple" vs.toArray 0)).push (aad "list" #[] 0)};dsimp only;have fin:∀aQ:Vz,YR aQ=none->(VQ aQ).toList.Perm (pairsOf vs).toList->iP key (VQ aQ).toList->Vs (VE prog w) A (do
   let touched:=(←seqEpoch a) != e1
   Builtin.List.listUpdate (.ref a) λ_=>(VQ aQ).map (·.2)
   if let some e:=YR aQ then rule "list.sort.comparison-raised";throw e
   if touched then rule "list.sort.modified";raiseError "ValueError" "list modified during sort"
   ret .none) P E {s with heap:=((s.heap.update a (Yv λ_=>#[])).push (aad "tuple" vs.toArray 0)).push (aad "list" #[] 0)}:=by
  intro aQ f1 f2 f3;rw[pairsOf_toList] at f2;obtain⟨m1,m2⟩:=uQ f2;refine U3 (seqEpoch_at o6 rfl (U3 (listUpdate_at o6 rfl ?_ (hsz2:=by
   rw[Array.size_map,←U9,f2.length_eq,List.length_zip,Nat.min_self];lia))))
  rw[f1];simp only[bne_self_eq_false,VG,if_false];refine U6 ?_;have e:(VQ aQ).map (·.2)=((VQ aQ).toList.map (·.2)).toArray:=by apply Array.ext';simp
  rw[e];refine h _ m1 (Xb.mpr (X3 (λ{x y} hx hy r=>?_) f3));rw[←m2 x hx,←m2 y hy];exact r
 by_cases h2:vs.length<2
 ·rw[hV (by rw[U_];exact h2),hV (by rw[U_];exact h2)];refine U3 (U6 ?_);rw[StateT.run_pure];refine U3 (U6 ?_);refine fin (SortSt.mk' general' (vs.toArray.zip vs.toArray) #[] 7 none) rfl (Wz _) ?_;change iP key (pairsOf vs).toList;rw[pairsOf_toList]
  match vs,h2 with
  | [],_=>exact List.Pairwise.nil
  | [v],_=>exact Wb _ _
  |_::_::_,h2=>exact absurd h2 (by simp)
 ·rw[hU (by rw[U_];exact h2),hU (by rw[U_];exact h2)];refine U3 (hk (by lia) _ _ kp ?_);refine U3 (Wm (xW (hC (by lia) _ kp) (a0:=pairsOf vs) (λp hp=>?_) (st:=SortSt.mk' knd (vs.toArray.zip vs.toArray) #[] 7 none) rfl rfl rfl rfl
   (Q:=λ_ aQ=>YR aQ=none/\(VQ aQ).toList.Perm (pairsOf vs).toList/\iP key (VQ aQ).toList) λaQ a1 a2 a3=>⟨a1,a2,a3⟩) ?_ λ_ _ e=>e)
  ·rw[pairsOf_toList] at hp;obtain⟨m1,m2⟩:=uQ (Wz (vs.zip vs));rw[m2 p hp];exact hD _ (m1.mem_iff.mp (Xv hp))
  ·rintro⟨⟨⟩,aQ⟩ s' ⟨rfl,f1,f2,f3⟩;exact fin aQ f1 f2 f3
end
end Hc.Ts
namespace Hc.Ts
open PySem.W
noncomputable def fb:List Int->List Int->Bool
 | [],[]=>false
 | [],_::_=>true
 |_::_,[]=>false
 |x::xs,y::ys=>if x=y then fb xs ys else decide (x<y)
theorem kh:∀a,fb a a=false
 | []=>rfl
 |x::xs=>by unfold fb;rw[hV rfl];exact kh xs
theorem lV:∀a b c,fb a b=true->fb b c=true->fb a c=true
 | [],[],_,h,_=>by cases h
 | [],_::_,[],_,h=>by cases h
 | [],_::_,_::_,_,_=>rfl
 |_::_,[],_,h,_=>by cases h
 |_::_,_::_,[],_,h=>by cases h
 |x::xs,y::ys,z::zs,h1,h2=>by
  unfold fb at h1 h2 ⊢;by_cases e1:x=y
  ·subst e1;rw[hV rfl] at h1;by_cases e2:x=z
   ·subst e2;rw[hV rfl] at h2 ⊢;exact lV xs ys zs h1 h2
   ·rw[hU e2] at h2 ⊢;exact h2
  ·rw[hU e1] at h1;have h1:=of_decide_eq_true h1;by_cases e2:y=z
   ·subst e2;rw[hU e1];exact hG h1
   ·rw[hU e2] at h2;have h2:=of_decide_eq_true h2;rw[hU (by lia)];exact hG (by lia)
theorem rX:∀a b c,fb a c=true->fb a b=true\/fb b c=true
 | [],[],_::_,_=>.inr rfl
 | [],_::_,_::_,_=>.inl rfl
 | [],_,[],h=>by cases h
 |_::_,_,[],h=>by cases h
 |_::_,[],_::_,_=>.inr rfl
 |x::xs,y::ys,z::zs,h=>by
  unfold fb at h ⊢;by_cases e:x=z
  ·subst e;rw[hV rfl] at h;by_cases e2:x=y
   ·subst e2;rw[hV rfl,hV rfl];exact rX xs ys zs h
   ·rw[hU e2,hU (λq=>e2 q.symm),decide_eq_true_eq,decide_eq_true_eq];lia
  ·rw[hU e] at h;have h:=of_decide_eq_true h;by_cases e2:x=y
   ·subst e2;exact .inr (by rw[hU e];exact hG h)
   ·by_cases e3:y=z
    ·subst e3;exact .inl (by rw[hU e];exact hG h)
    ·rw[hU e2,hU e3,decide_eq_true_eq,decide_eq_true_eq];lia
theorem iw:∀a b,fb a b=false->fb b a=false->a=b
 | [],[],_,_=>rfl
 | [],_::_,h,_=>by cases h
 |_::_,[],_,h=>by cases h
 |x::xs,y::ys,h1,h2=>by
  unfold fb at h1 h2;by_cases e:x=y
  ·subst e;rw[hV rfl] at h1 h2;rw[iw xs ys h1 h2]
  ·rw[hU e] at h1;rw[hU (λq=>e q.symm)] at h2;have h1:=of_decide_eq_false h1;have h2:=of_decide_eq_false h2;lia
noncomputable def Ib:aaC:=⟨List Int,fb,kh,lV,rX,iw⟩
noncomputable def vU (h:XI)(v:Va):List Int:=match v with
 | .ref a=>match h.get? a with
  |some o=>match o.data with
   | .seq its _=>its.toList.map numOf
   |_=>[]
  |none=>[]
 |_=>[]
def xX (h:XI)(v:Va):Prop:=∃a its ns,v=.ref a/\h.IsTuple a its/\Xh its.toList ns/\ns≠[]
theorem xY:∀{vs:List Va} {ns:List Int},Xh vs ns->vs.map numOf=ns
 |_,_,.nil=>rfl
 |_,_,.cons n t r=>by rw[Vp,xY r];rfl
theorem mS {its:Array Va}(t:h.IsTuple a its)(i:Xh its.toList ns):vU h (.ref a)=ns:=by
 obtain⟨o,e,_,n,d⟩:=t;unfold vU;dsimp only;rw[e];dsimp only;rw[d];exact xY i
section
variable {A:VR}{b fin:Bool}{Q:Bool->Vo->Prop}
theorem xZ:∀{xs ys:List Va} {ns ms:List Int} {i:Nat},Xh xs ns->Xh ys ms->fin=decide (ns.length<ms.length)->Q (fb ns ms) s->KatLex prog w A b fin Q (xs.zip ys) i s
 |_,_,_,_,i,.nil,.nil,hf,h=>by subst hf;exact kat_nil h
 |_,_,_,_,i,.nil,.cons m t r,hf,h=>by subst hf;exact kat_nil (by rw[show decide (([]:List Int).length<(m::_).length)=true from hG (by simp)];exact h)
 |_,_,_,_,i,.cons n t r,.nil,hf,h=>by subst hf;exact kat_nil (by rw[show decide ((n::_).length<([]:List Int).length)=false from hJ (by simp)];exact h)
 |_,_,_,_,i,.cons n t r,.cons m u q,hf,h=>by
  refine kat_cons (wpAny_eqBool_int ?_);unfold fb at h;by_cases e:n=m
  ·subst e;rw[hV rfl] at h;rw[beq_self_eq_true];refine kat_yes (xZ r q ?_ h);rw[hf];simp
  ·rw[hU e] at h;rw[show (n==m)=false from beq_eq_false_iff_ne.mpr e];refine kat_no ?_;cases hb:(b&&i==0) with
   |true=>exact oneLt_int h
   |false=>exact kat_one _ _ (lt_int h)
theorem Ic {hp:XI}(keep:∀v,xX hp v->xX s.heap v/\vU s.heap v=vU hp v):ly (VE prog w) A E s Ib (λx=>vU hp x.1) (tuples' true) (λx=>xX hp x.1) where
 lt:=λx y st Q dx dy kd q=>by
  obtain⟨k1,k2⟩:=keep _ dx;obtain⟨k3,k4⟩:=keep _ dy;obtain⟨a,xs,ns,e1,t1,i1,_⟩:=k1;obtain⟨c,ys,ms,e2,t2,i2,_⟩:=k3;rw[←k2,←k4,e1,e2,mS t1 i1,mS t2 i2] at q;rw[lt'_eq];refine Vn (aap ?_);rw[kd,e1,e2];obtain⟨o1,g1,_,n1,d1⟩:=t1;obtain⟨o2,g2,_,n2,d2⟩:=t2;refine Vn (wpS_lift (X9 (kat_lt g1 d1 g2 d2 (xZ i1 i2 ?_ ⟨rfl,?_⟩))))
  ·rw[←i1.length,←i2.length,U9,U9]
  ·exact Vt q
end
end Hc.Ts
namespace Hc.Dw
open PySem.W PySem.Calls
section
variable {A:VR}{d r I:Vr}
theorem LV (hh:A.handled=none)(GL:d≠I):Walks prog w A I [I,d] [I] ds.size (λi v=>∃e,ds[i]? = some e/\v=e.key) (λi h=>h.IsKeyIter I d i ds.size ep/\nW h d ds ep) where
 sub:=λb hb=>by simp at hb;simp[hb]
 frame:=λ_ _ _ st hk=>⟨st.1.at λo e=>hk I (by simp) o e,st.2.at λo e=>hk d (by simp) o e⟩
 item:=λi s Q E hi st hQ=>Om st.1 st.2 hi λh' t' sb=>hQ _ h' s.toks ⟨_,getElem?_pos ds i hi,rfl⟩ ⟨t',st.2.at λo e=>sb.extBut _ _ GL e⟩ λb o hb e=>sb.extBut b o (λh=>hb (by simp[h])) e
 done:=λs Q E st hQ=>Oo hh st.1 st.2 (Vh _) λh' eb=>hQ h' s.toks λb o hb e=>eb b o (λh=>hb (by simp[h])) e
 self:=λ_ _ _ _ st hQ=>wpAny_pyIter_keyiter st.1 hQ
theorem Ov (lo:(d==Xp)=false):KdlSrc prog w "dict" d d ds.size (λi v=>∃e,ds[i]? = some e/\v=e.key) (λh=>nW h d ds ep) where
 type:=λ_ hm=>hm.ty
 there:=λ_ hm=>⟨hm.lt,hm.lt⟩
 keep:=λ_ _ hm hk=>hm.at λo e=>hk d (.inl rfl) o e
 notList:=by decide
 notTuple:=by decide
 hint:=λ_ _ _ _ hm hq=>kdl_hint_dict hm.ty hq
 iter:=λ_ s hh hm=>⟨_,_,(λ_ _ hq=>Ol lo hm hq),LV hh (VB hm.lt),⟨⟨_,Vj _ rfl,rfl,rfl⟩,hm.at λo e=>U5 _ e⟩⟩
theorem ki {T:String}{P:Nat->Va->Prop}{OK:XI->Prop}(K:KdlSrc prog w T r d n P OK)(hh:A.handled=none)(hok:OK s.heap)(hn:n<=Vf){Q:List Va->Vo->Prop}(q:∀h' tk cv,(∀b o,s.heap.get? b=some o->h'.get? b=some o)->ItemsOf P cv n->Q cv.toList {s with heap:=h',toks:=tk}):Vs (VE prog w) A (collect (.ref r)) Q E s:=by
 have lt:=K.there _ hok;unfold collect;refine U3 (wpAny_runValue (Yn PySem.F.entry_proto_collect ?_));rw[XT PySem.F.plain_proto_collect _];change Vs _ A.in1 (newList [] >>= λl=>again (.builtin "list.__iadd__" ⟨[l,.ref r],[]⟩)) _ _ s;refine U3 (VX (U6 ⟨plainId_quiet PySem.F.plain_list_iadd _,Yn PySem.F.entry_list_iadd ?_⟩));rw[XT PySem.F.plain_list_iadd _];have hS:(s.heap.push {cls:=.type "list",data:=.seq ([]:List Va).toArray}).get? s.heap.objs.size=some {cls:=.type "list",data:=.seq #[] 0}:=Vj _ rfl;change Vs _ A.in1 (Builtin.List.listExtendWith (.ref s.heap.objs.size) (.ref r) (.ref s.heap.objs.size)) _ _ _;refine kdl_extend (A:=A) (R:=λx s'=>match x with
  | .ok (.ret v)=>Vs (VE prog w) A (match v with
   | .ref a=>do match (←load a).data with
    | .seq xs _=>pure xs.toList
    |_=>Zn "internal:collect"
   |_=>Zn "internal:collect") Q E s'
  | .ok _=>False
  | .error e=>E e s') (s:={s with heap:=s.heap.push {cls:=.type "list",data:=.seq ([]:List Va).toArray}}) K hh (K.keep _ _ hok λb _ o e=>U5 _ e) _ (Yf lt.1) (Yf lt.2) _ 0 hS (λh' tk cv c' k' Km Gs=>?_) hn
 change Vs _ A (load s.heap.objs.size >>= _) _ _ _;refine U3 (wpAny_load Km ?_);exact U6 (q h' tk cv (λb o e=>k' b o (VB (Vl e)) (U5 _ e)) Gs)
end
end Hc.Dw
namespace Hc.Sy
open PySem.SetTable Hc.Sx
theorem MS:Slot "set_iterator" "__next__" "set_iterator.__next__":=by
 refine .of (owner:="set_iterator") (n:="__next__") ?_ (by decide+kernel) (by decide+kernel) (by decide+kernel) ?_ ?_
 ·rw[typeLookup_type,builtinLookup_eq_fast];kernel_rfl
 ·first|exact .inl (by decide+kernel)|exact .inr (by decide+kernel)
 ·rw[isSubtype_type];kernel_rfl
theorem Su:entryFor table "set_iterator.__next__"=some Builtin.«set_iterator.__next__»:=entryFor_of_tree (by kernel_rfl)
theorem Sv (a:Va):argsOk "set_iterator.__next__" ⟨[a],[]⟩:=by unfold argsOk;kernel_rfl
theorem Sw:Slot "set_iterator" "__iter__" "set_iterator.__iter__":=by
 refine .of (owner:="set_iterator") (n:="__iter__") ?_ (by decide+kernel) (by decide+kernel) (by decide+kernel) ?_ ?_
 ·rw[typeLookup_type,builtinLookup_eq_fast];kernel_rfl
 ·first|exact .inl (by decide+kernel)|exact .inr (by decide+kernel)
 ·rw[isSubtype_type];kernel_rfl
theorem Tu:entryFor table "set_iterator.__iter__"=some Builtin.«dict_keyiterator.__iter__»:=entryFor_alias (id':="dict_keyiterator.__iter__") (by kernel_rfl) rfl (by decide+kernel) (by kernel_rfl)
theorem Tv (a:Va):argsOk "set_iterator.__iter__" ⟨[a],[]⟩:=by unfold argsOk;kernel_rfl
theorem Tw:entryFor table "set.__iter__"=some Builtin.«frozenset.__iter__»:=entryFor_alias (id':="frozenset.__iter__") (by kernel_rfl) rfl (by decide+kernel) (by kernel_rfl)
theorem Tx (a:Va):argsOk "set.__iter__" ⟨[a],[]⟩:=by unfold argsOk;kernel_rfl
def k8 (w:Ya)(h:XI)(a:Vr)(es:Array (Int×Va))(ep:Nat)(t:YI):Prop:=
 ∃o,h.get? a=some o/\o.ExactSet/\o.data=.set es ep t/\t.fits es.size=true/\t.plain=true/\(yR w=true\/t.led=true)/\NY t.place/\t.place.size=es.size
theorem k8.at {es:Array (Int×Va)}(x:k8 w h a es ep t)(e:∀o,h.get? a=some o->h'.get? a=some o):k8 w h' a es ep t:=by
 obtain⟨o,q,r⟩:=x;exact⟨o,e o q,r⟩
theorem k8.ty {es:Array (Int×Va)}(x:k8 w s.heap a es ep t):s.TypeIs (.ref a) "set":=by
 obtain⟨o,e,c,_⟩:=x;exact⟨o,e,c.1⟩
theorem k8.lt {es:Array (Int×Va)}(x:k8 w h a es ep t):a<h.objs.size:=by
 obtain⟨o,e,_⟩:=x;exact Vl e
noncomputable def tQ (w:Ya)(a:Vr)(ep:Nat)(es:Array (Int×Va)):Array (Int×Va):=if yR w=true then aaE (w.params.setOrder a ep) es else es
noncomputable def eM (w:Ya)(t:YI):Nat->Nat
 |0=>0
 |i+1=>if yR w=true then 0 else t.place.getD i 0+1
noncomputable def LW (w:Ya)(a:Vr)(n ep:Nat)(t:YI)(i:Nat):Array Va:=#[.int (eM w t i:Nat) 0,.int i 0,.ref a,.int n 0,.int ep 0]
def Ad (w:Ya)(h:XI)(it a:Vr)(n ep:Nat)(t:YI)(i:Nat):Prop:=∃o,h.get? it=some o/\o.cls=.type "set_iterator"/\o.data=.fields (LW w a n ep t i)
theorem Ad.at (x:Ad w h it a n ep t i)(e:∀o,h.get? it=some o->h'.get? it=some o):Ad w h' it a n ep t i:=by
 obtain⟨o,q,r⟩:=x;exact⟨o,e o q,r⟩
theorem eV {A:VR}{α:Type}{b:Bool}{x y:Sem α}{Q:α->Vo->Prop}(h:b=false)(q:Vs M A y Q E s):Vs M A (if b=true then x else y) Q E s:=by
 rw[h,hU Vb];exact q
section
variable {A:VR}{es:Array (Int×Va)}
theorem Ow (x:k8 w s.heap a es ep t)(q:Q (.ref s.heap.objs.size) {s with heap:=s.heap.push {cls:=.type "set_iterator",data:=.fields (LW w a es.size ep t 0)}}):Vs (VE prog w) A (pyIter (.ref a)) Q E s:=by
 have ty:=x.ty;obtain⟨o,e1,e2,e3,e4,e5,e6,e7,e8⟩:=x;refine aaA ty PySem.F.slot_set_iter (VY PySem.F.slot_set_iter ty Tw ?_ (Tx _));unfold Builtin.«frozenset.__iter__» Builtin.Frozenset.slot0 slotArgs;simp only[List.isEmpty_nil,Yy,VG,↓reduceIte,bind_assoc,Xt,bne_self_eq_false];unfold Builtin.Frozenset.addrOf Builtin.Frozenset.sizeOf;refine U3 (U6 ?_)
 try dsimp only
 refine U3 (U6 ?_);refine U3 (U3 (ZW e1 e3 e4 (U6 ?_)));unfold setDrawn setsByText;refine U3 (U3 (Wr e1 e3 e4 ?_));dsimp only;refine U3 (U3 (Xi (U6 (U6 ?_))));have nd:(!(w.params.followText "set-order")&&(!t.plain&&decide (es.size>1)))=false:=by rw[e5];simp
 refine eV nd ?_;refine U3 (U6 ?_);unfold setEpoch;refine U3 (U3 (Wr e1 e3 e4 (U6 ?_)));refine U3 (VX (U6 ⟨_,rfl,"set_iterator",_,⟨_,Vj _ rfl,rfl⟩,MS.lookup,?_⟩));simpa [Z5,LW,eM] using q
theorem vV {Q:Option (Va×Nat)->Vo->Prop}(x:k8 w s.heap a es ep t)(hi:i<es.size){e:Int×Va}(he:(tQ w a ep es)[i]? = some e)(q:Q (some (e.2,eM w t (i+1))) s) :
  Vs (VE prog w) A (setNext a (eM w t i) i ep) Q E s:=by
 obtain⟨o,e1,e2,e3,e4,e5,e6,e7,e8⟩:=x;unfold setNext;refine U3 (Wr e1 e3 e4 ?_);dsimp only;unfold setsByText;refine U3 (U3 (Xi (U6 ?_)));unfold tQ at he;by_cases b:yR w=true
 ·rw[hV b] at he;rw[hV (show (VE prog w).w.params.followText "set-order"=true from b),hU (by simp)];unfold setWalk setsByText;refine U3 (U3 (Wr e1 e3 e4 ?_));dsimp only;refine U3 (U3 (Xi (U6 ?_)));rw[hV (show (VE prog w).w.params.followText "set-order"=true from b)];refine U3 (Xi (U6 (U6 ?_)));have Uh:(aaE ((VE prog w).w.params.setOrder a ep) es)[i]? = some e:=he;rw[Uh];have z:eM w t i=0:=by
   cases i with
   |zero=>rfl
   |succ i=>show (if yR w=true then 0 else _)=0;rw[hV b]
  have z':eM w t (i+1)=0:=by show (if yR w=true then 0 else _)=0;rw[hV b]
  rw[z'] at q;rw[z];exact q
 ·rw[hU b] at he;rw[hU (show ¬(VE prog w).w.params.followText "set-order"=true from b)];have led:t.led=true:=e6.resolve_left b;have nd:(!t.plain&&decide (es.size>1))=false:=by rw[e5];rfl
  refine eV nd ?_;refine U3 (Zo (a:=()) (by show (if (!t.led && !es.isEmpty)=true then _ else _)=_;rw[led];rfl) (U6 ?_));have hb:below t.place (eM w t i)=i:=by
   obtain⟨b1,b2,b3⟩:=mJ (j:=eM w t i) e7;rcases Zm (below t.place (eM w t i)) i with z|z|z
   ·exfalso;cases i with
    |zero=>lia
    |succ i=>
     have hs:eM w t (i+1)=t.place.getD i 0+1:=by show (if yR w=true then 0 else _)=_;rw[hU b]
     have g:t.place.getD i 0=t.place[i]'(by lia):=by simp[Zl,show i<t.place.size from by lia]
     have:=b2 i (by lia) (by lia);rw[hs,g] at this;lia
   ·exact z
   ·exfalso;have:=b1 i (by lia) z;cases i with
    |zero=>exact absurd this (Nat.not_lt_zero _)
    |succ i=>
     have hs:eM w t (i+1)=t.place.getD i 0+1:=by show (if yR w=true then 0 else _)=_;rw[hU b]
     have g:t.place.getD i 0=t.place[i]'(by lia):=by simp[Zl,show i<t.place.size from by lia]
     have r:=(show t.place[i]'(by lia)<t.place[i+1]'(by lia) from e7 i (i+1) (by lia) (by lia) (by lia));rw[hs,g] at this;lia
  rw[hb,he,getElem?_pos t.place i (by lia)];have hs:eM w t (i+1)=t.place.getD i 0+1:=by show (if yR w=true then 0 else _)=_;rw[hU b]
  have g:t.place.getD i 0=t.place[i]'(by lia):=by simp[Zl,show i<t.place.size from by lia]
  rw[hs,g] at q;exact q
theorem Ox {Q:Option Va->Vo->Prop}(k:Ad w s.heap it a es.size ep t i)(x:k8 w s.heap a es ep t)(ne:it≠a)(hi:i<es.size){e:Int×Va}(he:(tQ w a ep es)[i]? = some e)
  (q:∀h',Ad w h' it a es.size ep t (i+1)->Xe it s.heap h'->Q (some e.2) {s with heap:=h'}):Vs (VE prog w) A (ZD (.ref it)) Q E s:=by
 obtain⟨oi,i1,i2,i3⟩:=k;have ty:s.TypeIs (.ref it) "set_iterator":=⟨oi,i1,i2⟩;have x0:=x;obtain⟨o,e1,e2,e3,e4,e5,e6,e7,e8⟩:=x;unfold ZD;refine U3 (X9 (V1 (name:=Xf "__next__") ty MS (VY MS ty Su ?_ (Sv _))));unfold Builtin.«set_iterator.__next__»;refine U3 (U6 ?_);refine U3 (aan i1 i3 ?_);change Vs _ _ (setEntries a >>= _) _ _ s;refine U3 (ZW e1 e3 e4 ?_);rw[hU (by simp)];change Vs _ _ (setNext a (eM w t i:Int).toNat (i:Int).toNat (ep:Int).toNat >>= _) _ _ s;rw[WD,WD,WD];refine U3 (vV x0 hi he ?_);dsimp only;change Vs _ _ (setField (.ref it) 0 _ >>= _) _ _ s;refine U3 (Yd i1 i3 (by simp[LW]) ?_);have S8:=WQ (Obj.mapFields (·.setIfInBounds 0 (Z5 (eM w t (i+1):Nat)))) i1 (Yo (WU i3 _));have R1:=WU i3 (·.setIfInBounds 0 (Z5 (eM w t (i+1):Nat)));change Vs _ _ (setField (.ref it) 1 _ >>= _) _ _ _;refine U3 (Yd S8 R1 (by simp[LW]) ?_);refine U6 ⟨_,rfl,U6 (q _ ⟨_,WQ _ S8 (Yo (WU R1 _)),(Zq ..).trans ((Zq ..).trans i2),?_⟩ ((Wh ..).trans (Wh ..)))⟩;rw[WU R1];simp[LW,Z5]
end
end Hc.Sy
namespace Hc.Sy
open PySem.SetTable Hc.Sx PySem.W
section
variable {A:VR}{es:Array (Int×Va)}
theorem BC {α:Type}(next:Nat->Nat):∀(n k:Nat) (left:List α) (out:Array α),left.length=n->(pickOrder.go next n k left out).toList.Perm (out.toList++left)
 |0,k,left,out,h=>by
  have:left=[]:=WL h;subst this;unfold pickOrder.go;rw[VU]
 |n+1,k,left,out,h=>by
  have hl:next k % left.length<left.length:=Yz _ (by lia)
  unfold pickOrder.go;rw[U4 hl];dsimp only;refine (BC next n (k+1) _ _ (by rw[List.length_eraseIdx_of_lt hl];lia)).trans ?_;rw[Xs,VC];refine Wv _ ?_;rw[List.eraseIdx_eq_take_drop_succ,List.singleton_append];refine List.perm_middle.symm.trans ?_;rw[←Wq hl,Ww]
theorem uR {α:Type}(next:Nat->Nat)(xs:Array α):(aaE next xs).toList.Perm xs.toList:=by
 have:=BC next xs.size 0 xs.toList #[] (by simp)
 simpa [aaE] using this
theorem x_:(tQ w a ep es).toList.Perm es.toList:=by
 unfold tQ;split
 ·exact uR _ _
 ·exact Wz _
theorem ya:(tQ w a ep es).size=es.size:=by
 have:=(x_ (w:=w) (a:=a) (ep:=ep) (es:=es)).length_eq;simpa using this
theorem vW {Q:Option (Va×Nat)->Vo->Prop}(x:k8 w s.heap a es ep t)(q:Q none s):Vs (VE prog w) A (setNext a (eM w t es.size) es.size ep) Q E s:=by
 obtain⟨o,e1,e2,e3,e4,e5,e6,e7,e8⟩:=x;unfold setNext;refine U3 (Wr e1 e3 e4 ?_);dsimp only;unfold setsByText;refine U3 (U3 (Xi (U6 ?_)));by_cases b:yR w=true
 ·rw[hV (show (VE prog w).w.params.followText "set-order"=true from b),hU (by simp)];unfold setWalk setsByText;refine U3 (U3 (Wr e1 e3 e4 ?_));dsimp only;refine U3 (U3 (Xi (U6 ?_)));rw[hV (show (VE prog w).w.params.followText "set-order"=true from b)];refine U3 (Xi (U6 (U6 ?_)));have hz:(aaE ((VE prog w).w.params.setOrder a ep) es)[es.size]? = none:=by
   have:=(uR ((VE prog w).w.params.setOrder a ep) es).length_eq;rw[Zh (by simpa using Nat.le_of_eq this)]
  rw[hz];exact q
 ·rw[hU (show ¬(VE prog w).w.params.followText "set-order"=true from b)];have led:t.led=true:=e6.resolve_left b;have nd:(!t.plain&&decide (es.size>1))=false:=by rw[e5];rfl
  refine eV nd ?_;refine U3 (Zo (a:=()) (by show (if (!t.led && !es.isEmpty)=true then _ else _)=_;rw[led];rfl) (U6 ?_));have hb:es.size<=below t.place (eM w t es.size):=by
   obtain⟨b1,b2,b3⟩:=mJ (j:=eM w t es.size) e7;rcases Yl (below t.place (eM w t es.size)) es.size with z|z
   ·exfalso;obtain⟨m,hm⟩:∃m,es.size=m+1:=⟨es.size-1,by lia⟩;have hs:eM w t es.size=t.place.getD m 0+1:=by rw[hm];show (if yR w=true then 0 else _)=_;rw[hU b]
    have g:t.place.getD m 0=t.place[m]'(by lia):=by simp[Zl,show m<t.place.size from by lia]
    have:=b2 m (by lia) (by lia);rw[hs,g] at this;lia
   ·exact z
  rw[Zh hb];exact q
theorem Oy {Q:Option Va->Vo->Prop}(hh:A.handled=none)(k:Ad w s.heap it a es.size ep t es.size)(x:k8 w s.heap a es ep t)
  (q:∀h',Heap.ExtBut it s.heap h'->Q none {s with heap:=h'}):Vs (VE prog w) A (ZD (.ref it)) Q E s:=by
 obtain⟨oi,i1,i2,i3⟩:=k;have ty:s.TypeIs (.ref it) "set_iterator":=⟨oi,i1,i2⟩;have x0:=x;obtain⟨o,e1,e2,e3,e4,e5,e6,e7,e8⟩:=x;unfold ZD;refine U3 (X9 (V1 (name:=Xf "__next__") ty MS (VY MS ty Su ?_ (Sv _))));unfold Builtin.«set_iterator.__next__»;refine U3 (U6 ?_);refine U3 (aan i1 i3 ?_);change Vs _ _ (setEntries a >>= _) _ _ s;refine U3 (ZW e1 e3 e4 ?_);rw[hU (by simp)];change Vs _ _ (setNext a (eM w t es.size:Int).toNat (es.size:Int).toNat (ep:Int).toNat >>= _) _ _ s;rw[WD,WD,WD];refine U3 (vW x0 ?_);dsimp only;change Vs _ _ (setField (.ref it) 2 .none >>= _) _ _ s;refine U3 (Yd i1 i3 (by simp[LW]) ?_);change Vs _ _ (newExc (.type "StopIteration") [] >>= _) _ _ _;refine U3 ?_;simp only[newExc,newTuple];refine U3 (VX (hd:=by size_fits) ?_);refine U3 (m:=YG _ _) (Zo (a:=Value.none) (by first|rfl|(simp only[YG];rfl)) (VX (hd:=by size_fits) ?_));simp only[raiseNew];refine U3 (wpAny_handled ?_);rw[show A.in1.handled=none from hh];refine U3 (U6 (wpAny_throw ?_));refine U3 (YL (b:=true) (T:="StopIteration") ⟨_,Vj _ rfl,rfl⟩ isSubtype_stop ?_);exact U6 (q _ (((Wh ..).extBut.push _).push _))
theorem LX (hh:A.handled=none)(GL:a≠it):Walks prog w A it [it,a] [it] es.size (λi v=>∃e,(tQ w a ep es)[i]? = some e/\v=e.2) (λi h=>Ad w h it a es.size ep t i/\k8 w h a es ep t) where
 sub:=λb hb=>by simp at hb;simp[hb]
 frame:=λ_ _ _ st hk=>⟨st.1.at λo e=>hk it (by simp) o e,st.2.at λo e=>hk a (by simp) o e⟩
 item:=λi s Q E hi st hQ=>by
  have wO:i<(tQ w a ep es).size:=by rw[ya];exact hi
  exact Ox st.1 st.2 (Ne.symm GL) hi (getElem?_pos _ i wO) λh' t' sb=>hQ _ h' s.toks ⟨_,getElem?_pos _ i wO,rfl⟩ ⟨t',st.2.at λo e=>sb.extBut _ _ GL e⟩ λb o hb e=>sb.extBut b o (λh=>hb (by simp[h])) e
 done:=λs Q E st hQ=>Oy hh st.1 st.2 λh' eb=>hQ h' s.toks λb o hb e=>eb b o (λh=>hb (by simp[h])) e
 self:=λi s Q E st hQ=>by
  obtain⟨oi,i1,i2,i3⟩:=st.1;have ty:s.TypeIs (.ref it) "set_iterator":=⟨oi,i1,i2⟩;refine aaA ty Sw (VY Sw ty Tu ?_ (Tv _));change Vs _ _ (ret (.ref it)) _ _ s;exact U6 ⟨_,rfl,"set_iterator",_,ty,MS.lookup,hQ⟩
theorem Oz {Q:Bool->Vo->Prop}(hT:s.TypeIs (.ref a) "set")(h:Q false s):Vs (VE prog w) A (ZX (.ref a)) Q E s:=by
 unfold ZX;refine U3 (Yj hT PySem.F.slot_set_len.lookup ?_);generalize hid:("set.__len__":String)=id0
 wp_delta
 rw[show splitId id0=some ("set","__len__") from by subst hid;decide+kernel];subst hid;refine U3 (YL (T:="set") (b:=true) hT (by rw[isSubtype_type];kernel_rfl) ?_);refine wpAny_ite_split (λvg=>absurd vg (by decide)) (λ_=>?_);refine wpAny_ite_split (λ_=>?_) (λvg=>absurd (by decide+kernel) vg);refine U3 (aab hT ?_);exact U6 h
theorem Q3:KdlSrc prog w "set" a a es.size (λi v=>∃e,(tQ w a ep es)[i]? = some e/\v=e.2) (λh=>k8 w h a es ep t) where
 type:=λ_ hm=>hm.ty
 there:=λ_ hm=>⟨hm.lt,hm.lt⟩
 keep:=λ_ _ hm hk=>hm.at λo e=>hk a (.inl rfl) o e
 notList:=by decide
 notTuple:=by decide
 hint:=λ_ _ _ _ hm hq=>Oz hm.ty hq
 iter:=λ_ s hh hm=>⟨_,_,(λ_ _ hq=>Ow hm hq),LX hh (VB hm.lt),⟨⟨_,Vj _ rfl,rfl,rfl⟩,hm.at λo e=>U5 _ e⟩⟩
end
end Hc.Sy
namespace Hc.Sy
open PySem.SetTable Hc.Sx PySem.W
noncomputable abbrev tI (prog:XJ)(w:Ya):Y9 prog w (List Int):=tupleKind (aaj prog w)
section
variable {A:VR}
theorem rY {α β:Type}(f:α->β->Sem (ForInStep β))(b:β)(xs:Array α)(h:∀x∈xs.toList,f x b=pure (.yield b)):forIn xs b f=pure b:=by
 rw[←aae];generalize xs.toList=l at h
 induction l with
 |nil=>rfl
 |cons x l ih=>
  rw[Y7,h x U8,pure_bind];exact ih λy hy=>h y (Vc _ hy)
theorem J1 {its:Array Va}{o:Obj}{Q:Option (Array Va)->Vo->Prop}(e1:s.heap.get? a=some o)(e3:o.data=.seq its n)(q:Q (some its) s):Vs (VE prog w) A (seqItems? (.ref a)) Q E s:=by
 unfold seqItems?;refine U3 (wpAny_load e1 ?_);rw[e3];exact U6 q
theorem rZ {ks:List Int}{vs:List Va}(h:ItemsAre (aaj prog w) ks vs):∀v∈vs,∃n t,v=.int n t:=by
 induction h with
 |nil=>intro v hv;cases hv
 | @cons k v' ks vs h1 _ ih=>
  intro v hv;rcases Vk.mp hv with rfl|hv
  ·obtain⟨t,rfl⟩:=Value.isInt_shape h1;exact⟨k,t,rfl⟩
  ·exact ih v hv
theorem Tz:oG (tI prog w) where
 cls:=λ{A E s k a Q} hk q=>by
  obtain⟨o,its,n,e1,e2,e3,e4⟩:=hk;have ty:s.TypeIs (.ref a) "tuple":=⟨o,e1,e2⟩;unfold ofAClassStatement;refine U3 (aab ty ?_);change Vs _ _ (pure true >>= _) _ _ s;refine U3 (U6 ?_);change Vs _ _ (seqItems? (.ref a) >>= _) _ _ s;refine U3 (J1 e1 e3 ?_);dsimp only;rw[rY]
  ·exact U3 (U6 (U6 q))
  ·intro x hx;obtain⟨n,t,rfl⟩:=rZ e4 x hx;rfl
 byv:=λ{A E s k a Q} hk q=>by
  obtain⟨o,its,n,e1,e2,e3,e4⟩:=hk;have ty:s.TypeIs (.ref a) "tuple":=⟨o,e1,e2⟩;unfold hashByValue;refine U3 (Yj ty PySem.F.slot_tuple_hash.lookup ?_);change Vs _ _ (seqItems? (.ref a) >>= _) _ _ s;refine U3 (J1 e1 e3 ?_);dsimp only[Option.getD];rw[rY]
  ·exact U3 (U6 (U6 q))
  ·intro x hx;obtain⟨n,t,rfl⟩:=rZ e4 x hx;rfl
 kept:=λ{h h' k a d o es ep t} hk ho hd hs=>by
  obtain⟨o1,its,n,e1,e2,e3,e4⟩:=hk;have ne:a≠d:=λz=>by
   subst z;rw[e1] at ho;cases ho;rw[e3] at hd;cases hd
  exact⟨o1,its,n,hs.extBut _ _ ne e1,e2,e3,e4⟩
end
end Hc.Sy
namespace L2
open Hc.Dw Hc.Ts
noncomputable def OA:V->Int
 | .int i=>i
 |_=>0
noncomputable def cf (H:Hp)(b:Vr):List Int:=match H b with
 |some (.tup xs)=>xs.map OA
 |_=>[]
theorem yb (ns:List Int):(ns.map V.int).map OA=ns:=by
 induction ns with
 |nil=>rfl
 |cons n r ih=>rw[Vp,Vp,ih];rfl
def CN (K:U7)(H:Hp)(p:Vr)(bs:List Vr):Prop:=fH K H p (bs.map V.ref)\/fK K H p (bs.map V.ref)\/∃ep es,H p=some (DN p ep es)/\es.map (·.2.1)=bs
theorem fR:∀{bs:List Vr} {its:List Va},a_ (bs.map V.ref) its->its=bs.map Value.ref
 | [],_,.nil=>rfl
 |b::bs,_,.cons r t=>by rw[Vp,fR t];cases r;rfl
theorem uS:∀(bs:List Vr),a_ (bs.map V.ref) (bs.map Value.ref)
 | []=>.nil
 |b::bs=>.cons rfl (uS bs)
theorem uT {bs:List Vr}{out:List Va}(h:out.Perm (bs.map Value.ref)):∃gU:List Vr,out=gU.map Value.ref/\gU.Perm bs:=by
 let g:Va->Vr:=λv=>match v with
  | .ref a=>a
  |_=>0
 refine⟨out.map g,?_,?_⟩
 ·rw[W0]
  conv=>lhs;rw[←List.map_id out]
  apply X_;intro v hv;obtain⟨b,_,rfl⟩:=V3.mp (h.mem_iff.mp hv);rfl
 ·have:=h.map g;rw[W0] at this;have e:bs.map (g∘Value.ref)=bs:=by
   conv=>rhs;rw[←List.map_id bs]
   apply X_;intro b _;rfl
  rw[e] at this;exact this
theorem Ie (I:aI X pins σ H s)(h:H b=some (.tup (ns.map V.int)))(n:ns≠[]):xX s.heap (.ref b)/\vU s.heap (.ref b)=cf H b:=by
 obtain⟨_,its,rv,it,_⟩:=I.hok b _ h;have ia:=de rv;refine⟨⟨b,its.toArray,ns,rfl,it,by simpa using ia,n⟩,?_⟩;rw[mS it (by simpa using ia)];unfold cf;rw[h];exact (yb ns).symm
theorem uU {v:Va}(t:xX h v)(k:∀b its,h.IsTuple b its->h'.IsTuple b its):xX h' v/\vU h' v=vU h v:=by
 obtain⟨a,its,ns,rfl,q,i,n⟩:=t;refine⟨⟨a,its,ns,rfl,k a its q,i,n⟩,?_⟩;rw[mS q i,mS (k a its q) i]
theorem BD {h:XI}:∀{vs:List Va},(∀v∈vs,xX h v)->∃fs,PySem.W.KatTups h vs fs/\fs.length=vs.length/\∀f∈fs,∃n t,f=.int n t
 | [],_=>⟨[],.nil,rfl,λf hf=>by cases hf⟩
 |v::vs,hv=>by
  obtain⟨fs,k1,k2,k3⟩:=BD (vs:=vs) λu hu=>hv u (Vc _ hu);obtain⟨a,its,ns,rfl,⟨o,e,c,n,d⟩,i,ne⟩:=hv v U8;have:∃m t r,its.toList=.int m t::r:=by
   generalize its.toList=l at i;cases i with
   |nil=>exact absurd rfl ne
   |cons m t r=>exact⟨m,t,_,rfl⟩
  obtain⟨m,t,r,el⟩:=this;refine⟨.int m t::fs,.cons e c d (by rw[←Vq,el];rfl) k1,by rw[Vi,Vi,k2],λf hf=>?_⟩;rcases Vk.mp hf with rfl|hf
  ·exact⟨m,t,rfl⟩
  ·exact k3 f hf
noncomputable def OB:Va->Vr
 | .ref a=>a
 |_=>0
theorem r6 {O:aaC}{bs:List Vr}{Q:VK}(kf:Vr->O.α)(knd:YQ)(I:aI X pins σ H s)(hz:bs.length<=1000000)(hu:X.A.units+64<W9)(kk:∀(A:VR) (E:Va->Vo->Prop) (jc:List Vr) (s6:Vo) (Q6:YQ->Vo->Prop),jc.Perm bs->2<=jc.length->(∀b o,s.heap.get? b=some o->s6.heap.get? b=some o)->Q6 knd s6->Vs (VE X.prog X.w) A (keyKind' (jc.map Value.ref).toArray) Q6 E s6)(kc:2<=bs.length->∀(A:VR) (E:Va->Vo->Prop) (s6:Vo),A.units<W9->(∀b o,s.heap.get? b=some o->s6.heap.get? b=some o)->ly (VE X.prog X.w) A E s6 O (λx=>kf (OB x.1)) knd (λx=>∃b∈bs,x.1=.ref b))(Pq:∀(Q:List Va->Vo->Prop) (E:Va->Vo->Prop),(∀h1 tk (jc:List Vr),jc.Perm bs->(∀b o,s.heap.get? b=some o->h1.get? b=some o)->Q (jc.map Value.ref) {s with heap:=h1,toks:=tk})->Vs (VE X.prog X.w) X.A.in1 (collect (.ref p)) Q E s)(q:∀(l:Vr) (gU:List Vr),H l=none->gU.Perm bs->gU.Pairwise (λx y=>O.blt (kf y) (kf x)=false)->Q (.ref l) (cQ H l (.lst (gU.map V.ref)))) :
  Vs (VE X.prog X.w) X.A (call (.builtin "sorted") [.ref p]) (EP X pins σ Q) X.xe s:=by
 refine aal kind_sorted plain_sorted entry_sorted (args_sorted1 _) ?_;unfold Builtin.«sorted»;refine U3 (m:=checkCount "sorted" 1 1 _) (U6 ?_);refine U3 (Pq _ _ λh1 tk jc B0 k1=>?_);have hz:jc.length<=1000000:=by rw[B0.length_eq];exact hz
 have yO:jc.length<=Vf:=by rw[W8];lia
 have I1:aI X pins σ H {s with heap:=h1,toks:=tk}:=I.kept (t':=tk) k1;refine U3 (wpAny_newList ?_ (by rw[Vd];exact yO));have My:(h1.push {cls:=.type "list",data:=.seq (jc.map Value.ref).toArray}).get? h1.objs.size=some (aad "list" (jc.map Value.ref).toArray 0):=Vj _ rfl;have kt:∀(h6:XI),(∀b o,b≠h1.objs.size->(h1.push {cls:=.type "list",data:=.seq (jc.map Value.ref).toArray}).get? b=some o->h6.get? b=some o)->∀b o,s.heap.get? b=some o->h6.get? b=some o:=λh6 k6 b o e=>
  k6 b o (VB (Vl (k1 b o e))) (U5 _ (k1 b o e))
 refine U3 (WA (VY slot_list_sort ⟨_,My,rfl⟩ entry_list_sort (FR (s:={s with heap:=h1.push {cls:=.type "list",data:=.seq (jc.map Value.ref).toArray},toks:=tk}) (O:=O) (key:=λx=>kf (OB x.1)) (knd:=knd) (D:=λx=>∃b∈bs,x.1=.ref b) My (by rw[Vd];exact hz)
  (λh2 h6 Q6 k6 q6=>kk _ _ jc _ _ B0 (by rw[Vd] at h2;exact h2) (kt h6 k6) q6) (λh2 h6 k6=>kc (by rw[Vd] at h2;rw[←B0.length_eq];exact h2) _ _ _ (by show X.A.units+1+1<W9;lia) (kt h6 k6)) (λv hv=>by
   obtain⟨b,hb,rfl⟩:=V3.mp hv;exact⟨b,B0.mem_iff.mp hb,rfl⟩) λout hp hw=>⟨_,rfl,?_⟩) (args_list_sort _)))
 obtain⟨gU,e,BY⟩:=uT hp;subst e;obtain⟨ee,he⟩:=sortedHeap_at (out:=(gU.map Value.ref).toArray) My;have keep:∀b o,h1.get? b=some o->(sortedHeap (h1.push {cls:=.type "list",data:=.seq (jc.map Value.ref).toArray}) h1.objs.size (jc.map Value.ref) (gU.map Value.ref).toArray).get? b=some o:=λb o e=>by
  have hb:=Vl e;rw[sortedHeap_old (VB hb) (by rw[Wo];exact Xa hb)];exact U5 _ e
 have Mx:(gU.map V.ref).length<=Vf:=by rw[Vd,BY.length_eq];exact yO
 refine U6 ⟨_,rfl,.ref h1.objs.size,_,I1.laid (t':=tk) keep (Vh _) (show dG X.prog X.w _ _ _ (.lst _) from ⟨Mx,gU.map Value.ref,ee,uS gU,by simpa using he⟩),rfl,q _ gU (I1.hok.fresh (Vh _)) (BY.trans B0) ?_⟩;exact Xb.mp hw
theorem o9 {bs:List Vr}{Q:VK}(I:aI X pins σ H s)(hz:bs.length<=1000000)(hu:X.A.units+64<W9)(tu:∀b∈bs,∃ns:List Int,H b=some (.tup (ns.map V.int))/\ns≠[])(Pq:∀(Q:List Va->Vo->Prop) (E:Va->Vo->Prop),(∀h1 tk (jc:List Vr),jc.Perm bs->(∀b o,s.heap.get? b=some o->h1.get? b=some o)->Q (jc.map Value.ref) {s with heap:=h1,toks:=tk})->Vs (VE X.prog X.w) X.A.in1 (collect (.ref p)) Q E s)(q:∀(l:Vr) (gU:List Vr),H l=none->gU.Perm bs->gU.Pairwise (λx y=>fb (cf H y) (cf H x)=false)->Q (.ref l) (cQ H l (.lst (gU.map V.ref)))) :
  Vs (VE X.prog X.w) X.A (call (.builtin "sorted") [.ref p]) (EP X pins σ Q) X.xe s:=by
 have tI:∀b∈bs,xX s.heap (.ref b)/\vU s.heap (.ref b)=cf H b:=λb hb=>by
  obtain⟨ns,e,ne⟩:=tu b hb;exact Ie I e ne
 have kt:∀(h6:XI),(∀b o,s.heap.get? b=some o->h6.get? b=some o)->∀b its,s.heap.IsTuple b its->h6.IsTuple b its:=λh6 k6 b its ⟨o,e,z⟩=>⟨o,k6 b o e,z⟩;refine r6 (O:=Ib) (cf H) (tuples' true) I hz hu (λA E jc s6 Q6 B0 h2 k6 q6=>?_) (λ_ A E s6 hA k6=>?_) Pq q
 ·obtain⟨fs,f1,f2,f3⟩:=BD (h:=s6.heap) (vs:=jc.map Value.ref) λv hv=>by
   obtain⟨b,hb,rfl⟩:=V3.mp hv;exact (uU (tI b (B0.mem_iff.mp hb)).1 (kt _ k6)).1
  exact PySem.W.kat_kind (T:=.type "int") f1 (by rw[f2,Vd];lia) (λv hv=>by
   obtain⟨n,t,rfl⟩:=f3 v hv;exact PySem.W.Looks.of_pure rfl) (by decide) q6
 ·have c:=Ic (prog:=X.prog) (w:=X.w) (A:=A) (E:=E) (s:=s6) (hp:=s.heap) λv hv=>uU hv (kt _ k6);refine⟨λx y st Q dx dy kd qq=>?_⟩;obtain⟨b,hb,e1⟩:=dx;obtain⟨d,hd,e2⟩:=dy;refine c.lt x y st Q (by rw[e1];exact (tI b hb).1) (by rw[e2];exact (tI d hd).1) kd ?_;rw[e1,e2,(tI b hb).2,(tI d hd).2];rw[e1,e2] at qq;exact qq
theorem vX (hc:X.calm=true)(hu:X.A.units+64<W9):eH X (.builtin "sorted") (λxs H Q=>∃(p:Vr) (bs:List Vr),xs=[.ref p]/\CN X.K H p bs/\bs.length<=1000000/\(∀b∈bs,∃ns:List Int,H b=some (.tup (ns.map V.int))/\ns≠[])/\
  ∀(l:Vr) (gU:List Vr),H l=none->gU.Perm bs->gU.Pairwise (λx y=>fb (cf H y) (cf H x)=false)->Q (.ref l) (cQ H l (.lst (gU.map V.ref)))):=by
 intro pins s σ H xs us Q I r h;obtain⟨p,bs,rfl,Di,hz,tu,q⟩:=h;obtain⟨u,rfl,rx⟩:=ig r;cases rx;have yO:bs.length<=Vf:=by rw[W8];lia
 have Pq:∀(Q:List Va->Vo->Prop) (E:Va->Vo->Prop),(∀h1 tk (jc:List Vr),jc.Perm bs->(∀b o,s.heap.get? b=some o->h1.get? b=some o)->Q (jc.map Value.ref) {s with heap:=h1,toks:=tk})->Vs (VE X.prog X.w) X.A.in1 (collect (.ref p)) Q E s:=by
  intro Q E hq;rcases Di with hs|hs|⟨ep,es,hs,rfl⟩
  ·obtain⟨its,rv,pl,_⟩:=I.list hs;obtain⟨o,e,c,n,d⟩:=pl.isList;have e2:=fR rv;subst e2;exact Yx p (.inl rfl) e c d (λh1 k1=>by simpa using hq h1 s.toks bs (Wz _) k1) (by rw[U_,Vd];exact yO)
  ·obtain⟨its,rv,pl,_⟩:=I.tuple hs;obtain⟨o,e,c,n,d⟩:=pl;have e2:=fR rv;subst e2;exact Yx p (.inr rfl) e c d (λh1 k1=>by simpa using hq h1 s.toks bs (Wz _) k1) (by rw[U_,Vd];exact yO)
  ·obtain⟨lo,ds,rd,n,at_⟩:=I.rawD hs;refine ki (A:=X.A.in1) (Ov lo) (I.ok.hd hc) rd (by rw[n];rw[Vd] at yO;exact yO) λh1 tk cv k1 ia=>?_;have e:cv.toList=(es.map (·.2.1)).map Value.ref:=by
    apply X2;intro i;rw[Vq,W0,VL];by_cases hi:i<cv.size
    ·rw[getElem?_pos cv i hi];obtain⟨en,e1,e2⟩:=ia.2 i _ (getElem?_pos cv i hi);have wO:i<ds.size:=by rw[←ia.1];exact hi
     rw[getElem?_pos ds i wO] at e1;cases e1;obtain⟨x,m,ek,_⟩:=at_ i wO;rw[m,e2,ek];rfl
    ·rw[getElem?_neg cv i hi,Yr (by rw[←n,←ia.1];lia)];rfl
   rw[e];exact hq h1 tk _ (Wz _) k1
 exact o9 I hz hu tu Pq q
end L2
namespace L2
open Hc.Dw Hc.Ts
noncomputable def aJ (ns:List Int):U:=.tup (ns.map .int)
noncomputable def FT:U->Option (List Int)
 | .tup xs=>match ik xs with
  |some (n::ns)=>some (n::ns)
  |_=>none
 |_=>none
noncomputable def jN:List U->Option (List (List Int))
 | []=>some []
 |u::us=>match FT u,jN us with
  |some ns,some cS=>some (ns::cS)
  |_,_=>none
noncomputable def CO (x:List Int):List (List Int)->List (List Int)
 | []=>[x]
 |y::r=>if fb y x=true then y::CO x r else x::y::r
noncomputable def uW (l:List (List Int)):List (List Int):=l.foldr CO []
theorem nY (x:List Int):∀l,(CO x l).Perm (x::l)
 | []=>.refl _
 |y::r=>by
  unfold CO;split
  ·exact ((nY x r).cons y).trans (.swap x y r)
  ·exact .refl _
theorem lW:∀l,(uW l).Perm l
 | []=>.refl _
 |x::l=>(nY x _).trans ((lW l).cons x)
def OC (l:List (List Int)):Prop:=l.Pairwise λx y=>fb y x=false
theorem BE (x:List Int):∀{l},OC l->OC (CO x l)
 | [],_=>Wb _ _
 |y::r,h=>by
  obtain⟨h1,h2⟩:=V6.mp h;unfold CO;split
  ·rename_i c;refine V6.mpr ⟨λz hz=>?_,BE x h2⟩;rcases Vk.mp ((nY x r).mem_iff.mp hz) with rfl|hz
   ·exact KeyOrd.klt_asymm (O:=Ib) c
   ·exact h1 z hz
  ·rename_i c;have c:fb y x=false:=by simpa using c
   refine V6.mpr ⟨λz hz=>?_,h⟩;rcases Vk.mp hz with rfl|hz
   ·exact c
   ·exact VI (O:=Ib) (a:=x) (b:=y) (c:=z) c (h1 z hz)
theorem r9:∀l,OC (uW l)
 | []=>List.Pairwise.nil
 |x::l=>BE x (r9 l)
theorem vY:∀{l m:List (List Int)},l.Perm m->OC l->OC m->l=m
 | [],m,p,_,_=>(List.nil_perm.mp p).symm
 |x::l,[],p,_,_=>absurd p.length_eq (by simp)
 |x::l,y::m,p,h1,h2=>by
  obtain⟨a1,a2⟩:=V6.mp h1;obtain⟨b1,b2⟩:=V6.mp h2;have e:x=y:=by
   have hx:x∈y::m:=p.mem_iff.mp U8;have hy:y∈x::l:=p.mem_iff.mpr U8;rcases Vk.mp hx with rfl|hx
   ·rfl
   ·rcases Vk.mp hy with rfl|hy
    ·rfl
    ·exact iw x y (b1 x hx) (a1 y hy)
  subst e;rw[vY (p.cons_inv) a2 b2]
theorem Ig (h:FT u=some ns):u=aJ ns/\ns≠[]:=by
 unfold FT at h;split at h
 ·split at h
  ·rename_i xs n r e;cases h;rw[gL e];exact⟨rfl,by simp⟩
  ·cases h
 ·cases h
theorem kj:∀{us:List U} {cS:List (List Int)},jN us=some cS->us=cS.map aJ/\∀ns∈cS,ns≠[]
 | [],_,h=>by cases h;exact⟨rfl,λns hn=>by cases hn⟩
 |u::us,cS,h=>by
  unfold jN at h;split at h
  ·rename_i ns r e1 e2;cases h;obtain⟨e3,n3⟩:=Ig e1;obtain⟨e4,n4⟩:=kj e2;refine⟨by rw[Vp,←e3,←e4],λz hz=>?_⟩;rcases Vk.mp hz with rfl|hz
   ·exact n3
   ·exact n4 z hz
  ·cases h
theorem LY (h:Rp K H A (aJ ns) v):∃b,v=.ref b/\H b=some (.tup (ns.map V.int))/\ns.length<=Vf:=by
 unfold aJ Rp at h;obtain⟨b,ys,e,q,l,r⟩:=h;rw[r.toI] at q;exact⟨b,e,q,by simpa using l⟩
theorem LZ (q:H b=some (.tup (ns.map V.int)))(l:ns.length<=Vf):Rp K H A (aJ ns) (.ref b):=by
 unfold aJ Rp;exact⟨b,_,rfl,q,by simpa using l,mH ns⟩
theorem vZ (q:H b=some (.tup (ns.map V.int))):cf H b=ns:=by unfold cf;rw[q];exact yb ns
theorem jk:∀{cS:List (List Int)} {xs:List V},aK K H A (cS.map aJ) xs->∃bs:List Vr,xs=bs.map V.ref/\bs.map (cf H)=cS/\∀b∈bs,H b=some (.tup ((cf H b).map V.int))/\(cf H b).length<=Vf
 | [],xs,h=>by rw[Xg] at h;unfold aK at h;subst h;exact⟨[],rfl,rfl,λb hb=>by cases hb⟩
 |ns::cS,xs,h=>by
  rw[Vp] at h;unfold aK at h;obtain⟨x,r,rfl,h1,h2⟩:=h;obtain⟨b,rfl,q,l⟩:=LY h1;obtain⟨bs,rfl,e,z⟩:=jk h2;refine⟨b::bs,rfl,by rw[Vp,e,vZ q],λc hc=>?_⟩;rcases Vk.mp hc with rfl|hc
  ·rw[vZ q];exact⟨q,l⟩
  ·exact z c hc
theorem yc {bs:List Vr}(h:∀b∈bs,H b=some (.tup ((cf H b).map V.int))/\(cf H b).length<=Vf):aK K H A ((bs.map (cf H)).map aJ) (bs.map V.ref):=by
 induction bs with
 |nil=>exact aK.nil
 |cons b bs ih=>exact aK.cons (LZ (h b U8).1 (h b U8).2) (ih λc hc=>h c (Vc _ hc))
noncomputable def kl (us:List U):R U:=match jN us with
 |some cS=>if cS.length<=1000000 then .ok (.lst ((uW cS).map aJ)) else .stk
 |none=>.stk
noncomputable def r_:List U->R U:=λus=>match us with
 | [.lst xs]=>kl xs
 | [.tup xs]=>kl xs
 | [.dct ks _]=>if Ot ks=true then kl ks else .stk
 |_=>.stk
def v7 (K:U7):List V->Hp->VK->Prop:=λxs H Q=>∃(p:Vr) (bs:List Vr),xs=[.ref p]/\CN K H p bs/\bs.length<=1000000/\(∀b∈bs,∃ns:List Int,H b=some (.tup (ns.map V.int))/\ns≠[])/\
  ∀(l:Vr) (gU:List Vr),H l=none->gU.Perm bs->gU.Pairwise (λx y=>fb (cf H y) (cf H x)=false)->Q (.ref l) (cQ H l (.lst (gU.map V.ref)))
theorem CP:j3 K (v7 K) .O r_:=λA H vs us z Q h mu e q=>by
 have fin:∀(xs:List U) (p:Vr) (bs:List Vr),kl xs=.ok z->aK K H A xs (bs.map V.ref)->CN K H p bs->v7 K [.ref p] H Q:=by
  intro xs p bs e r Di;unfold kl at e;split at e
  ·rename_i cS e1;split at e
   ·rename_i hz;cases e;obtain⟨e2,ne⟩:=kj e1;subst e2;obtain⟨jc,e3,e4,e5⟩:=jk r;have e6:bs=jc:=by
     have:Function.Injective V.ref:=λa b h=>by cases h;rfl
     exact (List.map_inj_right λ_ _ h=>by cases h;rfl).mp e3
    subst e6;have n1:bs.length=cS.length:=by rw[←e4,Vd]
    refine⟨p,bs,rfl,Di,by lia,λb hb=>⟨_,(e5 b hb).1,ne _ (by rw[←e4];exact Xv hb)⟩,λl gU hn hp hw=>?_⟩;have e7:gU.map (cf H)=uW cS:=vY ((hp.map (cf H)).trans (by rw[e4];exact (lW cS).symm)) (Xb.mpr hw) (r9 cS);refine q _ _ (cN hn _) ⟨l,rfl,hn,?_⟩;rw[←e7];refine bC mu (yc λb hb=>e5 b (hp.mem_iff.mp hb)) hn ?_;have:Vf=16777216:=rfl;rw[Vd,Vd,hp.length_eq];lia
   ·cases e
  ·cases e
 unfold r_ at e;split at e
 ·obtain⟨v,rfl,p⟩:=h.one;unfold Pk at p;obtain⟨a,ys,rfl,h1,l1,r1⟩:=p;have e':=e;unfold kl at e';split at e'
  ·rename_i cS e1;have r2:=r1;rw[(kj e1).1] at r2;obtain⟨bs,rfl,_⟩:=jk r2;exact fin _ a bs e r1 (.inl (fH.of h1))
  ·cases e'
 ·obtain⟨v,rfl,p⟩:=h.one;unfold Pk at p;obtain⟨a,ys,rfl,h1,l1,r1⟩:=p;have e':=e;unfold kl at e';split at e'
  ·rename_i cS e1;have r2:=r1;rw[(kj e1).1] at r2;obtain⟨bs,rfl,_⟩:=jk r2;exact fin _ a bs e r1 (.inr (.inl (fK.of h1)))
  ·cases e'
 ·rename_i ks ws;split at e
  ·rename_i c;obtain⟨v,rfl,p⟩:=h.one;unfold Pk at p;obtain⟨a,ys,rfl,h1,l1,r1⟩:=p;obtain⟨es,ep,q1,kt,e1,e2⟩:=FG c h1;refine fin ks a (es.map (·.2.1)) e ?_ (.inr (.inr ⟨ep,es,q1,rfl⟩));subst e1;clear e fin e2 r1 h1 c q1 h
   induction es with
   |nil=>exact aK.nil
   |cons x es ih=>exact aK.cons (JV (kt x U8)) (ih λy hy=>kt y (Vc _ hy))
  ·cases e
 ·cases e
def FU (K:U7):List V->Hp->VK->Prop:=λxs H Q=>∃(p:Vr) (ns:List Int),xs=[.ref p]/\(fH K H p (ns.map V.int)\/fK K H p (ns.map V.int))/\ns.length<64/\
  ∀(l:Vr) (ox:List Int),H l=none->ox.Perm ns->ox.Pairwise (·<=·)->Q (.ref l) (cQ H l (.lst (ox.map V.int)))
noncomputable def o_:List U->R U:=λus=>match zC us with
 | .ok z=>.ok z
 |_=>r_ us
theorem sd:j3 K (λxs H Q=>FU K xs H Q\/v7 K xs H Q) .O o_:=λA H vs us z Q h mu e q=>by
 unfold o_ at e;split at e
 ·rename_i z' e1;cases e;exact .inl (Cp A H vs us _ Q h mu e1 q)
 ·exact .inr (CP A H vs us z Q h mu e q)
theorem nZ (hc:X.calm=true)(hu:X.A.units+64<W9):eH X (.builtin "sorted") (λxs H Q=>FU X.K xs H Q\/v7 X.K xs H Q):=by
 intro pins s σ H xs us Q I r h;rcases h with h|h
 ·exact vt pins s σ H xs us Q I r h
 ·exact vX hc hu pins s σ H xs us Q I r h
end L2
namespace L2
open Hc.Dw Hc.Ts Hc.Sx Hc.Sy
noncomputable def v8 (cv:List (List Int))(x:List Int):List (List Int):=if x∈cv then cv else cv++[x]
noncomputable def jO (l:List (List Int)):List (List Int):=l.foldl v8 []
def CQ (w:Ya)(l:Vr)(bs:List Vr)(h:XI):Prop:=∃es ep t,k8 w h l es ep t/\(es.toList.map (·.2)).Perm (bs.map Value.ref)
theorem FV {vs:List Va}(h:Xh vs ns):ItemsAre (aaj prog w) ns vs:=by
 induction h with
 |nil=>exact .nil
 |cons n t _ ih=>exact .cons (intKind_is _ _ _ _) ih
section
variable {e:W5}{jY p1 p2:Pos}{b1:Bool}{ga:Ev->R (List U×Ev)}
noncomputable def mT (H:Hp)(bs:List Vr)(i:Nat):List Int×Vr:=(cf H (bs.getD i 0),bs.getD i 0)
theorem uX (H:Hp)(bs:List Vr):∀n,n<=bs.length->(eI (mT H bs) n).map (·.1)=jO ((bs.take n).map (cf H))
 |0,_=>by simp[eI,jO]
 |n+1,h=>by
  have hn:n<bs.length:=by lia
  have ih:=uX H bs n (by lia);have e1:bs.take (n+1)=bs.take n++[bs[n]]:=W4 hn;have e2:mT H bs n=(cf H bs[n],bs[n]):=by unfold mT;simp[YF,U4 hn]
  rw[e1,WI];unfold jO at ih ⊢;rw[List.foldl_append,←ih];show (lx (eI (mT H bs) n) (mT H bs n).1 (mT H bs n).2).map (·.1)=v8 ((eI (mT H bs) n).map (·.1)) (cf H bs[n]);rw[e2];unfold lx v8;dsimp only;by_cases c:cf H bs[n]∈(eI (mT H bs) n).map (·.1)
  ·rw[hV c,hV c]
  ·rw[hU c,hU c,WI];rfl
theorem yd (H:Hp)(bs:List Vr):(eI (mT H bs) bs.length).map (·.1)=jO (bs.map (cf H)):=by
 rw[uX H bs _ (Vh _),YS]
def J2 (w:Ya)(K:U7):List V->Hp->VK->Prop:=λxs H Q=>∃(p:Vr) (bs:List Vr),xs=[.ref p]/\fH K H p (bs.map V.ref)/\(∀b∈bs,H b=some (.tup ((cf H b).map V.int)))/\(jO (bs.map (cf H))).length<2046/\
 ∀(l:Vr) (jc:List Vr),H l=none->jc.map (cf H)=jO (bs.map (cf H))->(∀b∈jc,b∈bs)->Q (.ref l) (cQ H l (.ext (CQ w l jc)))
theorem CS (hc:X.calm=true)(hu:X.A.units+64<W9):eH X (.type "set") (J2 X.w X.K):=by
 intro pins s σ H xs us Q I r h;obtain⟨p,bs,rfl,hs,tu,hb,q⟩:=h;obtain⟨u,rfl,rx⟩:=ig r;cases rx;obtain⟨its,rv,pl,_⟩:=I.list hs;have e2:=fR rv;subst e2;have sz:(bs.map Value.ref).toArray.size=bs.length:=by simp
 refine xH (knd:=tI X.prog X.w) (val:=mT H bs) Tz (λ{h h' k a} hk m=>?_) (show X.A.units+1+1+1<W9 by lia) (I.ok.hd hc) pl.isList (λi v hv=>?_) (λj hj=>?_) ?_ λh' tk hS hk=>?_
 ·obtain⟨o,its,n,e1,e2,e3,e4⟩:=hk;obtain⟨o',yM,IK,n',e3'⟩:=m a its ⟨o,e1,e2,n,e3⟩;exact⟨o',its,n',yM,IK,e3',e4⟩
 ·rw[←Vq] at hv;rw[VL] at hv;unfold mT;cases z:bs[i]? with
  |none=>rw[z] at hv;cases hv
  |some b=>rw[z] at hv;simp only[YF,z,Yb];exact (Vy hv).symm
 ·have hj:j<bs.length:=by rw[sz] at hj;exact hj
  have em:bs.getD j 0=bs[j]:=by simp[YF,U4 hj]
  unfold mT;rw[em];obtain⟨_,its,rv,it,_⟩:=I.hok _ _ (tu _ (VS hj));obtain⟨o,h1,h2,n,h3⟩:=it;exact⟨o,_,n,h1,h2,h3,by simpa using FV (de rv)⟩
 ·rw[sz];have:=congrArg List.length (yd H bs);rw[Vd] at this;lia
 ·rw[sz] at hS;obtain⟨o,es,ep,t,C,g1,g2,g3,g4,g5⟩:=hS;have R3:k8 X.w h' s.heap.objs.size es ep t:=⟨o,g1,g2,g3,g4.fits,g4.pl,g5,g4.tab.ris,g4.tab.sz⟩;have mem:∀x∈eI (mT H bs) bs.length,x.1=cf H x.2/\x.2∈bs:=λx hx=>by
   obtain⟨j,hj,rfl⟩:=kP _ _ x hx;refine⟨rfl,?_⟩;have em:bs.getD j 0=bs[j]:=by simp[YF,U4 hj]
   show bs.getD j 0∈bs;rw[em];exact VS hj
  refine⟨.ref s.heap.objs.size,_,I.laid (a:=s.heap.objs.size) (o:=.ext (CQ X.w s.heap.objs.size ((eI (mT H bs) bs.length).map (·.2)))) (t':=tk) hk (Vh _)
   ⟨⟨es,ep,t,R3,?_⟩,⟨o,g1⟩,λh1 h2 ⟨es,ep,t,r,z⟩ k=>⟨es,ep,t,r.at k,z⟩⟩,rfl,q _ _ (I.hok.fresh (Vh _)) ?_ λb hb=>?_⟩
  ·refine (g4.per.map (·.2)).trans (List.Perm.of_eq ?_);rw[W0,W0];rfl
  ·rw[←yd H bs,W0];exact X_ λx hx=>(mem x hx).1.symm
  ·obtain⟨x,hx,rfl⟩:=V3.mp hb;exact (mem x hx).2
def FW (w:Ya):List V->Hp->VK->Prop:=λxs H Q=>∃(p:Vr) (bs:List Vr),xs=[.ref p]/\H p=some (.ext (CQ w p bs))/\bs.length<=1000000/\(∀b∈bs,∃ns:List Int,H b=some (.tup (ns.map V.int))/\ns≠[])/\
  ∀(l:Vr) (gU:List Vr),H l=none->gU.Perm bs->gU.Pairwise (λx y=>fb (cf H y) (cf H x)=false)->Q (.ref l) (cQ H l (.lst (gU.map V.ref)))
theorem Ae (hc:X.calm=true)(hu:X.A.units+64<W9):eH X (.builtin "sorted") (FW X.w):=by
 intro pins s σ H xs us Q I r h;obtain⟨p,bs,rfl,hs,hz,tu,q⟩:=h;obtain⟨u,rfl,rx⟩:=ig r;cases rx;obtain⟨⟨es,ep,t,R3,per⟩,_,_⟩:=I.hok p _ hs;refine o9 I hz hu tu (λQ E hq=>?_) q;have n:es.size=bs.length:=by have:=per.length_eq;simpa using this
 refine ki (A:=X.A.in1) Q3 (I.ok.hd hc) R3 (by rw[n,W8];lia) λh1 tk cv k1 ia=>?_;have e:cv.toList=(tQ X.w p ep es).toList.map (·.2):=by
  apply X2;intro i;rw[Vq,VL,Vq];by_cases hi:i<cv.size
  ·rw[getElem?_pos cv i hi];obtain⟨en,e1,e2⟩:=ia.2 i _ (getElem?_pos cv i hi);rw[e1,e2];rfl
  ·rw[getElem?_neg cv i hi,getElem?_neg _ i (by rw[ya,←ia.1];exact hi)];rfl
 obtain⟨jc,e3,e4⟩:=uT ((x_.map (·.2)).trans per);rw[e,e3];exact hq h1 tk jc e4 k1
noncomputable def gf:List U->R U:=λus=>match us with
 | [.lst xs]=>match jN xs with
  |some cS=>if (jO cS).length<2046 then .ok (.lst ((uW (jO cS)).map aJ)) else .stk
  |none=>.stk
 |_=>.stk
theorem ye:∀(l cv:List (List Int)) (x:List Int),x∈l.foldl v8 cv->x∈cv\/x∈l
 | [],cv,x,h=>.inl h
 |y::l,cv,x,h=>by
  rcases ye l _ x h with z|z
  ·unfold v8 at z;split at z
   ·exact .inl z
   ·rcases Vv.mp z with z|z
    ·exact .inl z
    ·exact .inr (by rw[Vu.mp z];exact U8)
  ·exact .inr (Vc _ z)
theorem yf:j3 K (λvs H Q=>J2 w K vs H λx H2=>FW w [x] H2 Q) .O gf:=λA H vs us z Q h mu e q=>by
 unfold gf at e;split at e
 ·rename_i xs;split at e
  ·rename_i cS e1;split at e
   ·rename_i hl;cases e;obtain⟨v,rfl,p⟩:=h.one;unfold Pk at p;obtain⟨a,ys,rfl,h1,l1,r1⟩:=p;obtain⟨e2,ne⟩:=kj e1;subst e2;obtain⟨bs,rfl,e4,e5⟩:=jk r1;refine⟨a,bs,rfl,fH.of h1,λb hb=>(e5 b hb).1,by rw[e4];exact hl,λl jc hn k2 sub=>?_⟩;have sm:=cN hn (.ext (CQ w l jc));have kb:∀b∈bs,cf (cQ H l (.ext (CQ w l jc))) b=cf H b:=λb hb=>by
     rw[vZ (sm _ _ (e5 b hb).1)]
    have ln:jc.length=(jO cS).length:=by rw[←e4,←k2,Vd]
    refine⟨l,jc,rfl,bI,by lia,λb hb=>⟨_,sm _ _ (e5 b (sub b hb)).1,?_⟩,λl' gU MU hp hw=>?_⟩
    ·have:cf H b∈jO (bs.map (cf H)):=by rw[←k2];exact Xv hb
     rcases ye _ _ _ this with z|z
     ·cases z
     ·rw[e4] at z;exact ne _ z
    ·have Ui:(gU.map (cf H)).Pairwise λx y=>fb y x=false:=by
      refine Xb.mpr (X3 (λ{x y} hx hy z=>?_) hw);rw[kb x (sub x (hp.mem_iff.mp hx)),kb y (sub y (hp.mem_iff.mp hy))] at z;exact z
     have e7:gU.map (cf H)=uW (jO cS):=vY ((hp.map (cf H)).trans (by rw[k2,e4];exact (lW _).symm)) Ui (r9 _);have Qb:=sm.trans (cN MU (.lst (gU.map V.ref)));have na:H l'=none:=by
      cases z:H l' with
      |none=>rfl
      |some o=>rw[sm _ _ z] at MU;cases MU
     refine q _ _ Qb ⟨l',rfl,na,?_⟩;rw[←e7];refine bC (λb hb=>?_) ?_ MU ?_
     ·have m:=mu b hb;obtain⟨o,z⟩:=m.ex;rw[sm b o z,←z];exact m
     ·have k3:gU.map (cf H)=gU.map (cf (cQ H l (.ext (CQ w l jc)))):=X_ λb hb=>(kb b (sub b (hp.mem_iff.mp hb))).symm;rw[k3];refine yc λb hb=>?_;have s9:=sub b (hp.mem_iff.mp hb);rw[kb b s9];exact⟨sm _ _ (e5 b s9).1,(e5 b s9).2⟩
     ·have:Vf=16777216:=rfl;rw[Vd,Vd,hp.length_eq];lia
   ·cases e
  ·cases e
 ·cases e
theorem se (hc:X.calm=true)(hu:X.A.units+64<W9)(ha:DA X G [e] b1 true ga)(hm:X.mg "sorted"=none)(RX:X.mg "set"=none)(hg:Gl X "sorted":=by rfl)(Pd:Gl X "set":=by rfl)
  (he:Vx [e] X.env=(false,YD e X.env)::Vx [] X.env:=by rfl) (tE:(XR jY (Vx [] X.env)).any (·.1)=false:=by rfl)
  (Pp:Vx [.Call (.Name "set" p2) [e] [] jY] X.env=(false,YD (.Call (.Name "set" p2) [e] [] jY) X.env)::Vx [] X.env:=by rfl) (Gx:(XR pos (Vx [] X.env)).any (·.1)=false:=by rfl) :
  DE X G (.Call (.Name "sorted" p1) [.Call (.Name "set" p2) [e] [] jY] [] pos) b1 .O (gz gf ga):=⟨(qp (Ae hc hu) hg hm jh (ma (je (CS hc hu) Pd RX EK ha.un (by decide) (by decide) he tE) qo Pp) (by decide) (by decide) Pp Gx).to λ_ _ _ h=>p0 (p:=true) (yf (K:=X.K)) h⟩
end
end L2
namespace L2
open Hc.Dw Hc.Ts
def J3:R2:=λx y H Q=>∃(p:Vr) (xs:List V) (n:Int),x=.ref p/\y=.int n/\H p=some (.lst xs)/\0<=n/\n<=100000/\xs≠[]/\xs.length*n.toNat<=100000/\∀l,H l=none->Q (.ref l) (cQ H l (.lst (V2 n.toNat xs).flatten))
theorem Ih:jJ X (Yu .Mult) J3:=by
 intro pins s σ H x y v u Q I rx ry h;obtain⟨p,xs,n,rfl,rfl,hp,h0,h1,GL,hs,q⟩:=h;obtain rfl:v=Value.ref p:=rx;obtain⟨tk,rfl⟩:∃t,u=.int n t:=ry;obtain⟨_,its,n0,rv,hl,ho⟩:=I.lstM hp;have hl:xs.length=its.length:=rv.length;have he:its.toArray.isEmpty=false:=by cases its with
  |nil=>cases xs with
   |nil=>exact absurd rfl GL
   |cons=>simp at hl
  |cons=>simp
 have sl:Vf=16777216:=rfl;refine wpAny_binaryOp_repeat_ref (T:="list") (U:="int") (by decide) ⟨_,ho,rfl⟩ (λs'=>typeIs_int s' n tk) noFill_list_mul PySem.F.fills_int_mul PySem.F.slot_int_rmul repeat_list PySem.F.slot_int_index.lookup
  (aau PySem.F.slot_int_rmul (typeIs_int s n tk) PySem.F.entry_int_rmul (PySem.F.args_int_rmul_2 _ _) (int___rmul___int_list n tk p its.toArray n0)
   ⟨ho,rfl,⟨_,ho,rfl⟩,aau PySem.F.slot_list_mul ⟨_,ho,rfl⟩ PySem.F.entry_list_mul (PySem.F.args_list_mul_2 _ _)
    (AutoListH.list___mul___list_int_3 p its.toArray n0 n tk ?c0 ?c1 ?c2) ⟨ho,?_⟩⟩)
 case c0=>unfold Builtin.List.listFitsIndex;simp;lia
 case c1=>rw[U_,←hl];lia
 case c2=>rw[U_,←hl,qw (by rw[sl];lia)];exact Vb
 rw[he,hU Vb,listMul_foldl];have el:(#[]:Array Va).toList=[]:=rfl;simp only[el,WS];have z2:(V2 n.toNat xs).flatten.length<=Vf:=by rw[A8,sl];lia
 exact⟨.ref s.heap.objs.size,_,I.laid (a:=s.heap.objs.size) (o:=.lst (V2 n.toNat xs).flatten) (t':=s.toks) (λ_ _ e=>U5 _ e) (Vh _) ⟨z2,_,0,xI rv n.toNat,by
  have:=Vj s.heap (o:={cls:=Value.type "list",data:=Data.seq (V2 n.toNat its.toArray.toList).flatten.toArray}) rfl;simpa using this⟩,rfl,q _ (I.hok.fresh (Vh _))⟩
noncomputable def BF:U->U->R U:=λu w=>match u,w with
 | .lst us,.int n=>if 0<=n/\n<=100000/\us.length*n.toNat<=100000/\us.isEmpty=false then .ok (.lst (V2 n.toNat us).flatten) else .stk
 |_,_=>.stk
theorem FX:fo K J3 .O BF:=λA H x y u w z Q hx hy mu e q=>by
 unfold BF at e;split at e
 ·rename_i us n;split at e
  ·rename_i c;cases e;unfold Pk at hx hy;obtain⟨a,xs,rfl,h1,l1,r1⟩:=hx;subst hy;have hl:=r1.length;refine⟨a,xs,n,rfl,rfl,h1,c.1,c.2.1,λz=>?_,by rw[←hl];exact c.2.2.1,λl hn=>?_⟩
   ·have:us=[]:=WL (by rw[hl,z];rfl);have c4:=c.2.2.2;rw[this] at c4;cases c4
   ·refine q _ _ (cN hn _) ⟨l,rfl,hn,bC mu (A9 r1 _) hn ?_⟩;rw[A8];have:Vf=16777216:=rfl;lia
  ·cases e
 ·cases e
section
variable {e:W5}{tl:TE}{gj cpos p1:Pos}{b1:Bool}{m1:Md}{g1:Ev->R (U×Ev)}
noncomputable def Af (ns:List Int):Bool:=decide (ns.length<=1000000)&&ns.all λn=>decide (0<=n/\n<=1000000000)
theorem km (ns:List Int):∀j,j<=ns.length->preSum (λi=>ns.getD i 0) j=(ns.take j).sum
 |0,_=>rfl
 |j+1,h=>by
  unfold preSum;rw[km ns j (by lia),W4 (show j<ns.length by lia),List.sum_append];simp[YF,U4 (show j<ns.length by lia)]
theorem uY:∀{ns:List Int},(ns.all λn=>decide (0<=n/\n<=1000000000))=true->0<=ns.sum/\ns.sum<=ns.length*1000000000
 | [],_=>by simp
 |n::ns,h=>by
  rw[Y8,Vw] at h;obtain⟨a,b⟩:=uY h.2;have:=of_decide_eq_true h.1;rw[List.sum_cons,Vi];constructor
  ·lia
  ·push_cast;lia
end
end L2
namespace L2
open Hc.Dw Hc.Ts
noncomputable def sf:Va->Int×Tok
 | .int n t=>(n,t)
 |_=>(0,0)
theorem uZ (h:Xh its ns):intItems (its.map sf).toArray=its.toArray/\∀i,numAt (its.map sf).toArray i=ns.getD i 0:=by
 constructor
 ·unfold intItems;rw[List.map_toArray,W0];congr 1
  induction h with
  |nil=>rfl
  |cons n t _ ih=>rw[Vp,ih];rfl
 ·induction h with
  |nil=>intro i;unfold numAt;simp
  |cons n t _ ih=>
   intro i;cases i with
   |zero=>unfold numAt;simp[sf]
   |succ i=>
    have:=ih i;unfold numAt at this ⊢;simpa [YF] using this
def J5 (K:U7):List V->Hp->VK->Prop:=λxs H Q=>∃p ns,xs=[.ref p]/\fH K H p (ns.map V.int)/\Af ns=true/\Q (.int ns.sum) H
theorem CT (hc:X.calm=true):eH X (.builtin "sum") (J5 X.K):=by
 intro pins s σ H xs us Q I r h;obtain⟨p,ns,rfl,hs,sm,q⟩:=h;obtain⟨u,rfl,rx⟩:=ig r;cases rx;obtain⟨its,rv,pl,_⟩:=I.list hs;have hI:=de rv;obtain⟨t1,t2⟩:=uZ hI;have sz:(its.map sf).toArray.size=ns.length:=by simp[hI.length]
 unfold Af at sm;rw[Vw] at sm;have s1:=of_decide_eq_true sm.1;have fe:numAt (its.map sf).toArray=λi=>ns.getD i 0:=funext t2;refine sum_intList (xs:=(its.map sf).toArray) (I.ok.hd hc) (by rw[t1];exact pl.isList) (λj hj=>?_) λh' tk t' k=>?_
 ·rw[sz] at hj;have al:=sm.2;rw[fe];refine⟨?_,?_⟩
  ·have:=VZ.mp al ns[j] (VS hj);have:=of_decide_eq_true this;unfold InLong;simp only[YF,U4 hj,Yb];lia
  ·rw[km ns (j+1) (by lia)];have Qc:((ns.take (j+1)).all λn=>decide (0<=n/\n<=1000000000))=true:=VZ.mpr λx hx=>VZ.mp al x (WX hx);obtain⟨p1,p2⟩:=uY Qc;have:(ns.take (j+1)).length<=1000000:=by rw[V5];lia
   unfold InLong;lia
 ·have e:preSum (numAt (its.map sf).toArray) (its.map sf).toArray.size=ns.sum:=by rw[fe,sz,km ns ns.length (Vh _),YS]
  rw[e];exact⟨.int ns.sum,H,I.kept (t':=tk) k,⟨t',rfl⟩,q⟩
noncomputable def FY:List U->R U:=λus=>match us with
 | [.lst xs]=>match ik xs with
  |some ns=>if Af ns=true then .ok (.int ns.sum) else .stk
  |none=>.stk
 |_=>.stk
theorem FZ:j3 K (J5 K) .S FY:=λA H vs us z Q h mu e q=>by
 unfold FY at e;split at e
 ·rename_i xs;split at e
  ·rename_i ns hb;split at e
   ·rename_i hl;cases e;obtain⟨v,rfl,p⟩:=h.one;unfold Pk at p;obtain⟨a,ys,rfl,h1,l1,r1⟩:=p;rw[gL hb] at r1;rw[r1.toI] at h1;exact⟨a,ns,rfl,fH.of h1,hl,q _ H (aT.refl _) (show Rp K H A _ _ from dN)⟩
   ·cases e
  ·cases e
 ·cases e
noncomputable def yg:Int->List Int->Int
 |m,[]=>m
 |m,n::ns=>yg (if m<n then n else m) ns
theorem yi (ns:List Int)(n0:Int):∀j,j<=ns.length->(n0::ns).getD (argBest (λi j=>decide ((n0::ns).getD i 0>(n0::ns).getD j 0)) j) 0=yg n0 (ns.take j)
 |0,_=>by simp[argBest,yg]
 |j+1,h=>by
  have ih:=yi ns n0 j (by lia);have hj:j<ns.length:=by lia
  have app:∀(l:List Int) (m x:Int),yg m (l++[x])=if yg m l<x then x else yg m l:=by
   intro l
   induction l with
   |nil=>intro m x;rfl
   |cons y l ih=>intro m x;exact ih _ x
  rw[W4 hj,app,←ih];have g:(n0::ns).getD (j+1) 0=ns[j]:=by simp[YF,U4 hj]
  rw[argBest];by_cases c:(n0::ns).getD (argBest (λi j=>decide ((n0::ns).getD i 0>(n0::ns).getD j 0)) j) 0<ns[j]
  ·rw[hV c,hV (by rw[g];exact hG c),g]
  ·rw[hU c,hU (by rw[g,decide_eq_true_eq];exact c)]
def J6 (K:U7):List V->Hp->VK->Prop:=λxs H Q=>∃p n0 ns,xs=[.ref p]/\fH K H p ((n0::ns).map V.int)/\Q (.int (yg n0 ns)) H
theorem CU (hc:X.calm=true):eH X (.builtin "max") (J6 X.K):=by
 intro pins s σ H xs us Q I r h;obtain⟨p,n0,ns,rfl,hs,q⟩:=h;obtain⟨u,rfl,rx⟩:=ig r;cases rx;obtain⟨its,rv,pl,_⟩:=I.list hs;have hI:=de rv;obtain⟨t1,t2⟩:=uZ hI;have sz:(its.map sf).toArray.size=ns.length+1:=by simp[hI.length]
 have fe:numAt (its.map sf).toArray=λi=>(n0::ns).getD i 0:=funext t2;refine max_intList (xs:=(its.map sf).toArray) (I.ok.hd hc) (by rw[t1];exact pl.isList) (by rw[sz];lia) λv h' tk hv k=>?_;obtain⟨t,rfl⟩:=intItems_at hv;rw[sz,Nat.add_sub_cancel,fe];dsimp only;rw[yi ns n0 _ (Vh _),YS];exact⟨.int _,H,I.kept (t':=tk) k,⟨t,rfl⟩,q⟩
noncomputable def F0:List U->R U:=λus=>match us with
 | [.lst xs]=>match ik xs with
  |some (n::ns)=>.ok (.int (yg n ns))
  |_=>.stk
 |_=>.stk
theorem F1:j3 K (J6 K) .S F0:=λA H vs us z Q h mu e q=>by
 unfold F0 at e;split at e
 ·rename_i xs;split at e
  ·rename_i n ns hb;cases e;obtain⟨v,rfl,p⟩:=h.one;unfold Pk at p;obtain⟨a,ys,rfl,h1,l1,r1⟩:=p;rw[gL hb] at r1;rw[r1.toI] at h1;exact⟨a,n,ns,rfl,fH.of h1,q _ H (aT.refl _) (show Rp K H A _ _ from dN)⟩
  ·cases e
 ·cases e
end L2
namespace Hc.Ts
open PySem.W
theorem yj:∀a b,HT.lexLt a b=fb a b
 | [],[]=>rfl
 | [],_::_=>rfl
 |_::_,[]=>rfl
 |x::xs,y::ys=>by
  rw[HT.lexLt_cons,fb,yj xs ys]
section
variable {A:VR}
theorem items_int {vs:List Va}(h:Xh vs ns):ItemsAre (aaj prog w) ns vs:=by
 induction h with
 |nil=>exact .nil
 |cons n t _ ih=>exact .cons (intKind_is _ _ _ _) ih
theorem OD {t:Vr}{its:Array Va}(h:s.heap.IsTuple t its)(i:Xh its.toList ns):IsTupleKey (aaj prog w) s.heap ns t:=by
 obtain⟨o,e,c,n,d⟩:=h;exact⟨o,its,n,e,c,d,items_int i⟩
end
end Hc.Ts
namespace L2
open Hc.Dw Hc.Ts
theorem u4 {α β:Type}{f:α->β}:∀{l:List α},(l.map f).Nodup->∀a∈l,∀b∈l,f a=f b->a=b
 | [],_,a,ha,_,_,_=>by cases ha
 |x::l,h,a,ha,b,hb,e=>by
  rw[Vp] at h;obtain⟨h1,h2⟩:=Wj.mp h;rcases Vk.mp ha with ea|Au
  ·rcases Vk.mp hb with eb|s9
   ·rw[ea,eb]
   ·exact absurd (by rw[←ea,e];exact Xv s9) h1
  ·rcases Vk.mp hb with eb|s9
   ·exact absurd (by rw[←eb,←e];exact Xv Au) h1
   ·exact u4 h2 a Au b s9 e
end L2
namespace L2
def L0 (K:U7)(f:Bool->Bool):R2:=λx y H Q=>∃p xs ds dx,y=.ref p/\(fH K H p xs\/fK K H p xs)/\aV K H dx x/\fI K H ds xs/\(∀d∈ds,dJ d<=30)/\Q (.bl (f (ds.any λd=>i5 d dx))) H
open Classical in
noncomputable def jV (its:List Va)(ds:List D)(dx:D)(u:Va):Bool:=decide (∃(i:Nat) (d:D),its[i]? = some u/\ds[i]? = some d/\i5 d dx=true)
open Classical in
theorem qd {ds:List D}{dx:D}{u:Va}:jV its ds dx u=true↔∃(i:Nat) (d:D),its[i]? = some u/\ds[i]? = some d/\i5 d dx=true:=by
 unfold jV;exact decide_eq_true_iff
theorem qe {ds:List D}{dx:D}(hl:its.length=ds.length):its.any (jV its ds dx)=ds.any λd=>i5 d dx:=by
 rw[X1,List.any_eq_true,List.any_eq_true];constructor
 ·rintro⟨u,_,h⟩;obtain⟨i,d,_,h2,h3⟩:=qd.mp h;exact⟨d,Wc h2,h3⟩
 ·rintro⟨d,hd,h⟩;obtain⟨i,hi,e⟩:=Xk.mp hd;have Kq:i<its.length:=by lia
  exact⟨its[i],VS Kq,qd.mpr ⟨i,d,U4 Kq,by rw[U4 hi,e],h⟩⟩
theorem mU (I:aI X pins σ H s){A:VR}(hA:A.units+30<W9){x:V}{v:Va}{dx:D}(rx:bq x v)(hx:aV X.K H dx x){ds:List D}(rv:a_ xs its)(hs:fI X.K H ds xs)(hd:∀d∈ds,dJ d<=30) :
  ∀u∈its,XY A s u v (jV its ds dx u):=λu hu=>by
 have l1:=rv.length;have l2:=hs.length;have at_:∀(i:Nat) (d:D),its[i]? = some u->ds[i]? = some d->XY A s u v (i5 d dx):=λi d h1 h2=>by
  have hi:i<its.length:=(Vg.mp h1).1;have h3:xs[i]? = some (xs[i]'(by lia)):=U4 _;obtain⟨u',g1,g2⟩:=rv.get h3;rw[h1] at g1;cases g1;exact qE I 30 d dx _ x u v A (hd d (Wc h2)) hA (hs.get h2 h3) hx g2 rx
 by_cases c:∃(i:Nat) (d:D),its[i]? = some u/\ds[i]? = some d/\i5 d dx=true
 ·obtain⟨i,d,h1,h2,h3⟩:=c;have e:jV its ds dx u=true:=qd.mpr ⟨i,d,h1,h2,h3⟩;rw[e,←h3];exact at_ i d h1 h2
 ·have e:jV its ds dx u=false:=Yw.mpr λz=>c (qd.mp z);obtain⟨i,hi,eu⟩:=Xk.mp hu;have h1:its[i]? = some u:=by rw[U4 hi,eu]
  have h2:ds[i]? = some (ds[i]'(by lia)):=U4 _;have e2:i5 (ds[i]'(by lia)) dx=false:=by
   cases z:i5 (ds[i]'(by lia)) dx with
   |false=>rfl
   |true=>exact absurd ⟨i,_,h1,h2,z⟩ c
  rw[e,←e2];exact at_ i _ h1 h2
theorem L7 (hu:X.A.units+64<W9):jJ X (WO .In) (L0 X.K id):=by
 intro pins s σ H x y v u Q I rx ry h;obtain⟨p,xs,ds,dx,rfl,hq,hx,hs,hd,q⟩:=h;cases ry;rcases hq with hq|hq
 ·obtain⟨its,r,pl,hz⟩:=I.list hq;refine SeqAt.in_listAt (jV its ds dx) pl.isList (λw hw=>mU I (by show X.A.units+1+30<W9;lia) rx hx r hs hd w (by simpa using hw)) ⟨.bl _,H,I,rfl,?_⟩;rw[show its.toArray.any (jV its ds dx)=its.any (jV its ds dx) by simp,qe (by rw[←r.length,←hs.length])];exact q
 ·obtain⟨its,r,pl,hz⟩:=I.tuple hq;refine SeqAt.in_tupleAt (jV its ds dx) pl (λw hw=>mU I (by show X.A.units+1+30<W9;lia) rx hx r hs hd w (by simpa using hw)) ⟨.bl _,H,I,rfl,?_⟩;rw[show its.toArray.any (jV its ds dx)=its.any (jV its ds dx) by simp,qe (by rw[←r.length,←hs.length])];exact q
theorem n8 (hu:X.A.units+64<W9):jJ X (WO .NotIn) (L0 X.K not):=by
 intro pins s σ H x y v u Q I rx ry h;obtain⟨p,xs,ds,dx,rfl,hq,hx,hs,hd,q⟩:=h;cases ry;rcases hq with hq|hq
 ·obtain⟨its,r,pl,hz⟩:=I.list hq;refine SeqAt.notIn_listAt (jV its ds dx) pl.isList (λw hw=>mU I (by show X.A.units+1+30<W9;lia) rx hx r hs hd w (by simpa using hw)) ⟨.bl _,H,I,rfl,?_⟩;rw[show its.toArray.any (jV its ds dx)=its.any (jV its ds dx) by simp,qe (by rw[←r.length,←hs.length])];exact q
 ·obtain⟨its,r,pl,hz⟩:=I.tuple hq;refine SeqAt.notIn_tupleAt (jV its ds dx) pl (λw hw=>mU I (by show X.A.units+1+30<W9;lia) rx hx r hs hd w (by simpa using hw)) ⟨.bl _,H,I,rfl,?_⟩;rw[show its.toArray.any (jV its ds dx)=its.any (jV its ds dx) by simp,qe (by rw[←r.length,←hs.length])];exact q
noncomputable def L8:U->Option (List U)
 | .lst us=>some us
 | .tup us=>some us
 |_=>none
noncomputable def L9 (f:Bool->Bool):U->U->R U:=λu w=>match mF u,(L8 w).bind j6 with
 |some dx,some ds=>if (ds.all λd=>decide (dJ d<=30))=true then .ok (.bl (f (ds.any λd=>i5 d dx))) else .stk
 |_,_=>.stk
theorem v9 {f:Bool->Bool}:fo K (L0 K f) .S (L9 f):=λA H x y u w z Q hx hy mu e q=>by
 unfold L9 at e;split at e
 ·rename_i dx ds h1 h2;split at e
  ·rename_i hd;cases e;cases w with
   |lst us=>
    unfold Pk at hy;obtain⟨a,xs,rfl,h3,l1,r1⟩:=hy;exact⟨a,xs,ds,dx,rfl,.inl (fH.of h3),vA hx h1,kN r1 h2,λd m=>of_decide_eq_true (VZ.mp hd d m),q _ H (aT.refl _) (show Rp K H A _ _ from qL)⟩
   |tup us=>
    unfold Pk at hy;obtain⟨a,xs,rfl,h3,l1,r1⟩:=hy;exact⟨a,xs,ds,dx,rfl,.inr (fK.of h3),vA hx h1,kN r1 h2,λd m=>of_decide_eq_true (VZ.mp hd d m),q _ H (aT.refl _) (show Rp K H A _ _ from qL)⟩
   |_=>cases h2
  ·cases e
 ·cases e
end L2
namespace L2
open Hc.Dw Hc.Ts
noncomputable def OE:U->U->R Bool
 | .int a,.int b=>.ok (a==b)
 | .bl a,.bl b=>.ok (a==b)
 | .str a,.str b=>.ok (a==b)
 |_,_=>.stk
noncomputable def Q4 (f:Bool->Bool):U->U->R U:=λu w=>(OE u w).bind λb=>.ok (.bl (f b))
end L2
namespace L2
section
variable {A:VR}{k:List U}{xs:List (List U×Vr×Va)}{r:Va}
theorem OF (hr:(bP prog w).room A)(hk:(bP prog w).is s.heap k b)(hd:s.heap.DictOfH (bP prog w) a xs)(hz:xs.length<=Vf)
  (h1:∀p,aav xs k=some p->Q p.2 {s with toks:=s.toks+Dd (.tup k)})
  (h2:aav xs k=none->∀h',h'.DictOfH (bP prog w) a (storedH xs k b r)->Xe a s.heap h'->Q r {s with heap:=h',toks:=s.toks+Dd (.tup k)}) :
  Vs (VE prog w) A (dictSetDefault a (.ref b) r) Q E s:=by
 obtain⟨o,es,ep,ho,he,hdat,hl,hi,hn⟩:=hd;unfold dictSetDefault;refine WA (U3 ((bP prog w).pyHash hr hk (U3 (wpAny_dictFind_heap hr hk ho hdat hl hi hn (λRA=>?_) (λj p hj=>?_)))))
 ·have nk:∀x∈xs,x.1≠k:=λx hx hc=>by
   obtain⟨j,hj⟩:=List.getElem?_of_mem hx;obtain⟨x1,x2⟩:=x;dsimp only at hc;subst hc;exact RA j x2 hj
  have e0:aav xs k=none:=by
   unfold aav;rw[Zi,Zb];intro x hx hc;exact nk x hx (of_decide_eq_true hc)
  refine U3 (Xq (U3 (wpAny_updateDictKeys ho hdat (U6 ?_) (by rw[size_of_entries hl];exact hz) (by simp))));have hs:=Wh s.heap a (Obj.mapDictKeys λx=>x.push {hash:=(bP prog w).hash k,key:=.ref b,val:=r});have hg:=WQ (h:=s.heap) (Obj.mapDictKeys λx=>x.push {hash:=(bP prog w).hash k,key:=.ref b,val:=r}) ho (by
   obtain⟨c,d,dt,sl⟩:=o;cases hdat;obtain⟨h1,_⟩:=he;cases h1;rfl)
  have R4:storedH xs k b r=xs++[(k,b,r)]:=by unfold storedH;rw[e0];rfl
  refine h2 e0 _ ⟨_,es.push {hash:=(bP prog w).hash k,key:=.ref b,val:=r},ep+1,hg,?_,?_,?_,?_,?_⟩ hs
  ·obtain⟨c,d,dt,sl⟩:=o;cases hdat;exact he
  ·obtain⟨c,d,dt,sl⟩:=o;cases hdat;rfl
  ·rw[R4,Xs,hl,WI];rfl
  ·rw[R4];intro x hx;rcases Vv.mp hx with hx|hx
   ·exact (bP prog w).keeps (hi x hx) ho hdat hs
   ·rw[Vu] at hx;subst hx;exact (bP prog w).keeps hk ho hdat hs
  ·rw[R4,WI,Xc];refine⟨hn,Wb _ _,λx hx y hy=>?_⟩;rw[Vp,Xg,Vu] at hy;subst hy;obtain⟨z,hz,rfl⟩:=V3.mp hx;exact nk z hz
 ·have e1:aav xs k=some p:=by
   unfold aav;have hm:(k,p)∈xs:=Wc hj;cases hf:xs.find? (λx=>decide (x.1=k)) with
   |none=>
    rw[Zb] at hf;exact absurd (hG rfl) (hf _ hm)
   |some y=>
    have y0:=List.find?_some hf;have y1:y.1=k:=of_decide_eq_true y0;have y2:=List.mem_of_find?_eq_some hf;rw[←u4 hn _ hm _ y2 y1.symm];rfl
  refine U3 (Zr ho hdat ?_);rw[entry_at hl,hj];exact U3 (Xq (U6 (h1 p e1)))
theorem v_ (lo:(a==Xp)=false):MeetsIn prog w (Builtin.«dict.setdefault» ⟨[.ref a,.ref b,r],[]⟩) λA R s=>(bP prog w).room A.in1/\∃k xs,(bP prog w).is s.heap k b/\s.heap.DictOfH (bP prog w) a xs/\xs.length<=Vf/\
  (∀p,aav xs k=some p->R (.ok (.ret p.2)) {s with toks:=s.toks+Dd (.tup k)})/\
  (aav xs k=none->∀h',h'.DictOfH (bP prog w) a (storedH xs k b r)->Xe a s.heap h'->R (.ok (.ret r)) {s with heap:=h',toks:=s.toks+Dd (.tup k)}):=by
 rintro A R s ⟨hr,k,xs,hk,hd,hz,h1,h2⟩;unfold Builtin.«dict.setdefault»;refine U3 ?_;unfold Builtin.Dict.keyAndDefault;refine U3 (wpAny_notOrdered_dict hd.typeIs (U6 ?_));dsimp only;rw[hU (by rw[lo];exact Vb)];exact U3 (OF hr hk hd hz (λp e=>U6 (h1 p e)) λe h' d' hs=>U6 (h2 e h' d' hs))
end
end L2
namespace L2
section
variable {d:V}{r:Va}{k:List U}{A:VR}
theorem CV (k:List U){xs:List (List U×Vr×Va)}(p:Z3 Ld es xs):gy es k=none↔aav xs k=none:=by
 have:=(j1 k p).isSome_eq;rw[Option.isSome_map] at this;cases h1:gy es k<;>cases h2:aav xs k<;>rw[h1,h2] at this<;>simp at this<;>simp
theorem F2 (hu:A.units+64<W9)(I:aI X pins σ H s)(g:fj H a es)(kb:zj H k b)(hz:es.length<=Vf)(rd:bq d r)(h1:∀v w' s',gy es k=some v->aI X pins σ H s'->bq v w'->Q w' s')(h2:gy es k=none->∀ep s',aI X pins σ (cQ H a (DN a ep (zk es k b d))) s'->Q r s') :
  Vs (VE X.prog X.w) A (call (.builtin "dict.setdefault") [.ref a,.ref b,r]) Q E s:=by
 obtain⟨xs,rel,dd⟩:=g.of I.hok;refine call_meetsIn ZM dd.typeIs PySem.F.entry_dict_setdefault (PySem.F.args_dict_setdefault_3 _ _ _) (v_ (g.lo I.hok)) ⟨Ec hu,k,xs,kb.tk I.hok,dd,by rw[←Paired.length rel];exact hz,λp e=>?_,λe h' Uj hs=>?_⟩
 ·have:=j1 k rel;rw[e] at this;cases hv:gy es k with
  |none=>rw[hv] at this;exact this.elim
  |some v=>rw[hv] at this;exact h1 v _ _ hv (I.tok _) this
 ·obtain⟨q,ds,ep,hq,e2,e3,e4,_,_⟩:=Uj;refine h2 ((CV k rel).mpr e) ep _ ?_;exact He I g.mut hs ⟨q,hq⟩ ⟨⟨g.lo I.hok,q,ds,_,hq,e2,e3,Eb k rd rel,e4⟩,⟨q,hq⟩,λg1 g2 ⟨l,o,ds,xs,z1,z2⟩ kp=>⟨l,o,ds,xs,kp _ z1,z2⟩⟩
end
def OG (td ty tx:TE):TE:=λσ H Q=>td σ H λx H1=>∃a,x=.ref a/\NQ H1 a/\ty σ H1 λy H2=>tx σ H2 λz H3=>∃es k b,fj H3 a es/\y=.ref b/\zj H3 k b/\es.length<=Vf/\(∀v,gy es k=some v->Q v H3)/\(gy es k=none->∀ep,Q z (cQ H3 a (DN a ep (zk es k b z))))
section
variable {o e f:W5}{gj cpos:Pos}{td ty tx:TE}
theorem Ii (hu:X.A.units+64<W9)(ho:PE X o td)(he:PE X e ty)(hf:PE X f tx)(m:M2 X o "setdefault" gj e f cpos):PE X (.Call (.Attribute o "setdefault" gj) [e,f] [] cpos) (OG td ty tx):=by
 intro pins s σ H Q I h;refine wpAny_Call_method m.base m.few m.line PySem.F.plainAttrs_dict ZM PySem.F.type_dict_setdefault (ez (ho pins s σ H _ I h) λu s1 ⟨x,H1,I1,rx,a,ex,d,q1⟩=>?_);subst ex;obtain rfl:u=Value.ref a:=rx;obtain⟨t1,t2⟩:=NR I1 d;refine⟨t1,t2,?_⟩;rw[m.trees];refine Calls.callWith_builtin rfl (Calls.evalArgs_plain (Z7 (ez (he pins s1 σ H1 _ I1 q1) λiv s2 ⟨y,H2,I2,ry,q2⟩=>
  Z7 (ez (hf pins s2 σ H2 _ I2 q2) λfv s3 ⟨z,H3,I3,rz,es,k,b,g,ey,kb,hz,q3,q4⟩=>Calls.spliced_nil ?_))))
 subst ey;cases ry;exact F2 hu I3 g kb hz rz (λv w' s' hv I' rv=>⟨v,H3,I',rv,q3 v hv⟩) λhv ep s' I'=>⟨z,_,I',rz,q4 hv ep⟩
end
end L2
namespace L2
def iy (P:U->V->List Vr->Prop):List U->List V->List Vr->Prop
 | [],vs,L=>vs=[]/\L=[]
 |u::us,vs,L=>∃v r L1 L2,vs=v::r/\L=L1++L2/\P u v L1/\iy P us r L2
def Dp (K:U7)(H:Hp)(A:Vr->Prop):Nat->U->V->List Vr->Prop
 |0,u,v,L=>∃a us xs,v=.ref a/\u=.lst us/\L=[a]/\H a=some (.lst xs)/\us.length<=Vf/\aK K H A us xs
 |n+1,u,v,L=>∃a us es M,v=.ref a/\u=.dct (es.map λp=>.tup p.1) us/\L=a::M/\fj H a es/\(es=[]->H a=some (.dK []))/\us.length<=Vf/\iy (Dp K H A n) us (es.map (·.2.2)) M
section
variable {A':Vr->Prop}
theorem iy.imp {P P':U->V->List Vr->Prop}:∀{us:List U} {vs:List V} {L:List Vr},(∀u v L',(∀b∈L',b∈L)->P u v L'->P' u v L')->iy P us vs L->iy P' us vs L
 | [],_,_,_,h=>h
 |u::us,vs,L,f,h=>by
  obtain⟨v,r,L1,L2,e1,e2,p,q⟩:=h;subst e2;exact⟨v,r,L1,L2,e1,rfl,f u v L1 (λb hb=>VF _ hb) p,iy.imp (λu v L' s=>f u v L' λb hb=>Vm _ (s b hb)) q⟩
theorem iy.length {P:U->V->List Vr->Prop}:∀{us:List U} {vs:List V} {L:List Vr},iy P us vs L->us.length=vs.length
 | [],_,_,⟨e,_⟩=>by subst e;rfl
 |u::us,_,_,⟨v,r,_,_,e,_,_,q⟩=>by subst e;rw[Vi,Vi,q.length]
theorem iy.mem {P:U->V->List Vr->Prop}:∀{us:List U} {vs:List V} {L:List Vr} {b:Vr},iy P us vs L->b∈L->∃u v L',P u v L'/\b∈L'
 | [],_,_,b,⟨_,e⟩,h=>by subst e;cases h
 |u::us,_,_,b,⟨v,r,L1,L2,_,e,p,q⟩,h=>by
  subst e;rcases Vv.mp h with h|h
  ·exact⟨u,v,L1,p,h⟩
  ·exact q.mem h
theorem fj.mu (g:fj H a es):Mu (H a):=by
 rcases g.ob with⟨ep,q⟩|⟨_,q⟩<;>(rw[q];trivial)
theorem Dp.mu:∀{n:Nat} {u:U} {v:V} {L:List Vr} {b:Vr},Dp K H A n u v L->b∈L->Mu (H b)
 |0,u,v,L,b,h,hb=>by
  obtain⟨a,us,xs,_,_,e,q,_⟩:=h;subst e;rw[Vu] at hb;subst hb;rw[q];trivial
 |n+1,u,v,L,b,h,hb=>by
  obtain⟨a,us,es,M,_,_,e,g,_,_,al⟩:=h;subst e;rcases Vk.mp hb with rfl|hb
  ·exact g.mu
  ·obtain⟨u',v',L',p,hb⟩:=al.mem hb;exact Dp.mu p hb
theorem fj.re (g:fj H a es)(ka:H' a=H a)(t:∀b ys,H b=some (.tup ys)->H' b=some (.tup ys)):fj H' a es:=⟨by rw[ka];exact g.ob,g.nd,λe he=>(g.key e he).to t⟩
structure yS (A A':Vr->Prop)(H H':Hp):Prop where
 mu:∀b,A b->Mu (H b)
 ex:eT A H H'
 nw:∀b,A' b->A b\/H b=none
theorem yS.tup (g:yS A A' H H'):∀b ys,H b=some (.tup ys)->H' b=some (.tup ys):=λb ys q=>g.ex b _ (λz=>by have:=g.mu b z;rw[q] at this;exact this) q
theorem Dp.re (g:yS A A' H H'):∀{n:Nat} {u:U} {v:V} {L:List Vr},(∀b∈L,H' b=H b)->Dp K H A n u v L->Dp K H' A' n u v L
 |0,u,v,L,k,h=>by
  obtain⟨a,us,xs,e1,e2,e,q,l,r⟩:=h;subst e;exact⟨a,us,xs,e1,e2,rfl,by rw[k a U8];exact q,l,r.re g.mu g.ex g.nw⟩
 |n+1,u,v,L,k,h=>by
  obtain⟨a,us,es,M,e1,e2,e,d,z,l,al⟩:=h;subst e;have ka:=k a U8;exact⟨a,us,es,M,e1,e2,rfl,d.re ka g.tup,(by rw[ka];exact z),l,al.imp λu v L' s p=>Dp.re g (λb hb=>k b (Vc _ (s b hb))) p⟩
theorem iy.rps {P:U->V->List Vr->Prop}:∀{us:List U} {vs:List V} {L:List Vr},(∀u v L',(∀b∈L',b∈L)->P u v L'->Rp K H A' u v)->iy P us vs L->aK K H A' us vs
 | [],_,_,_,⟨e,_⟩=>by subst e;exact aK.nil
 |u::us,_,_,f,⟨v,r,L1,L2,e1,e2,p,q⟩=>by
  subst e1 e2;exact aK.cons (f u v L1 (λb hb=>VF _ hb) p) (q.rps λu v L' s=>f u v L' λb hb=>Vm _ (s b hb))
theorem fj.at (d:fj H a es)(z:es=[]->H a=some (.dK [])):Cf H a (es.map λp=>.tup p.1) (es.map (·.2.2)):=by
 by_cases hz:es=[]
 ·subst hz;exact .inl ⟨[],z rfl,rfl,rfl⟩
 ·exact .inr ⟨es,hz,d,rfl,rfl⟩
theorem Dp.rp:∀{n:Nat} {u:U} {v:V} {L:List Vr},(∀b,A' b->A b/\b∉L)->Dp K H A n u v L->Rp K H A' u v
 |0,u,v,L,k,h=>by
  obtain⟨a,us,xs,e1,e2,e,q,l,r⟩:=h;subst e e2;unfold Rp;exact⟨a,xs,e1,λz=>(k a z).2 U8,q,l,r.mono λb z=>(k b z).1⟩
 |n+1,u,v,L,k,h=>by
  obtain⟨a,us,es,M,e1,e2,e,d,z,l,al⟩:=h;subst e e2;unfold Rp;exact⟨a,es.map (·.2.2),e1,λy=>(k a y).2 U8,d.at z,l,al.rps λu v L' s p=>Dp.rp (λb y=>⟨(k b y).1,λw=>(k b y).2 (Vc _ (s b w))⟩) p⟩
structure At (K:U7)(H:Hp)(A:Vr->Prop)(n:Nat)(v:V)(L:List Vr)(m:Nat)(u':U)(v':V)(L':List Vr)(F:U->U):Prop where
 sub:∀b∈L',b∈L
 nod:L.Nodup
 nod':L'.Nodup
 dp:Dp K H A m u' v' L'
 all:Dp K H A n (F u') v L
 put:∀H' A' w L3,yS A A' H H'->(∀b∈L,b∉L'->H' b=H b)->Dp K H' A' m w v' L3->L3.Nodup->(∀b∈L',b∈L3)->(∀b∈L3,b∈L'\/H b=none)->∃L4,Dp K H' A' n (F w) v L4/\L4.Nodup/\(∀b∈L,b∈L4)/\(∀b∈L3,b∈L4)/\(∀b∈L4,b∈L3\/b∈L)
theorem At.root (h:Dp K H A n u v L)(nd:L.Nodup):At K H A n v L n u v L id:=⟨λb h=>h,nd,nd,h,h,λH' A' w L3 g k d n3 s1 s2=>⟨L3,d,n3,s1,λb hb=>hb,λb hb=>.inl hb⟩⟩
theorem Dp.ne (h:Dp K H A n u v L)(hb:b∈L):H b≠none:=λe=>by
 have:=h.mu hb;rw[e] at this;exact this
theorem yS.trans {A2:Vr->Prop}(g:yS A A' H H')(un:∀b,H' b=none->H b=none)(g':yS A' A2 H' H2):yS A A2 H H2:=
 ⟨g.mu,λb o nb e=>g'.ex b o (λz=>by rcases g.nw b z with y|y;exact nb y;rw[e] at y;cases y) (g.ex b o nb e),λb z=>by
  rcases g'.nw b z with y|y
  ·exact g.nw b y
  ·exact .inr (un b y)⟩
theorem At.set {L3:List Vr}{w:U}(h:At K H A n v L m u' v' L' F)(g:yS A A' H H')(k:∀b∈L,b∉L'->H' b=H b)(un:∀b,H' b=none->H b=none)(d:Dp K H' A' m w v' L3)(n3:L3.Nodup)(s1:∀b∈L',b∈L3)(s2:∀b∈L3,b∈L'\/H b=none):∃L4,At K H' A' n v L4 m w v' L3 F/\(∀b∈L,b∈L4)/\(∀b∈L4,b∈L3\/b∈L):=by
 obtain⟨L4,d4,n4,z1,z3,z2⟩:=h.put H' A' w L3 g k d n3 s1 s2;refine⟨L4,⟨z3,n4,n3,d,d4,λH2 A2 w2 L5 g2 k2 d5 n5 t1 t2=>?_⟩,z1,z2⟩;obtain⟨L6,d6,n6,y1,y3,y2⟩:=h.put H2 A2 w2 L5 (g.trans un g2) (λb hb nb=>by
   rw[k2 b (z1 b hb) (λy=>by
    rcases s2 b y with y|y
    ·exact nb y
    ·exact h.all.ne hb y),k b hb nb]) d5 n5 (λb hb=>t1 b (s1 b hb)) (λb hb=>by
   rcases t2 b hb with y|y
   ·exact s2 b y
   ·exact .inr (un b y))
 refine⟨L6,d6,n6,λb hb=>?_,y3,λb hb=>(y2 b hb).imp id (z1 b)⟩;rcases z2 b hb with y|y
 ·exact y3 b (t1 b y)
 ·exact y1 b y
theorem At.keep (h:At K H A n v L m u' v' L' F)(g:yS A A' H H')(k:∀b∈L,H' b=H b)(un:∀b,H' b=none->H b=none):At K H' A' n v L m u' v' L' F:=
 ⟨h.sub,h.nod,h.nod',h.dp.re g λb hb=>k b (h.sub b hb),h.all.re g k,λH2 A2 w2 L5 g2 k2 d5 n5 t1 t2=>h.put H2 A2 w2 L5 (g.trans un g2) (λb hb nb=>by rw[k2 b hb nb,k b hb]) d5 n5 t1 λb hb=>(t2 b hb).imp id (un b)⟩
theorem qf {k w:U}:∀{ks us:List U},k∉ks->ks.length=us.length->YX (λk' u=>if k'=k then w else u) ks us=us
 | [],[],_,_=>rfl
 |x::ks,y::us,h,l=>by
  rw[Xy,hU (λe=>h (by rw[e];exact U8)),qf (λz=>h (Vc _ z)) (by simpa using l)]
noncomputable abbrev iz (es:List (List U×Vr×V)):List U:=es.map λp=>.tup p.1
theorem wa {k:List U}:U.tup k∈iz es↔k∈es.map (·.1):=by
 rw[V3,V3];constructor
 ·rintro⟨p,hp,e⟩;exact⟨p,hp,mm.mp e⟩
 ·rintro⟨p,hp,e⟩;exact⟨p,hp,by rw[e]⟩
theorem iy.find {m:Nat}{k:List U}{x:V}:∀{es:List (List U×Vr×V)} {us:List U} {M:List Vr},iy (Dp K H A m) us (es.map (·.2.2)) M->(es.map (·.1)).Nodup->M.Nodup->gy es k=some x->
  ∃u' M',e_ (iz es) us (.tup k)=some u'/\k∈es.map (·.1)/\YX (λk' u=>if k'=.tup k then u' else u) (iz es) us=us/\(∀b∈M',b∈M)/\M'.Nodup/\Dp K H A m u' x M' /\
   ∀H' A' w M3,yS A A' H H'->(∀b∈M,b∉M'->H' b=H b)->Dp K H' A' m w x M3->M3.Nodup->(∀b∈M',b∈M3)->(∀b∈M3,b∈M'\/H b=none)->
    ∃M4,iy (Dp K H' A' m) (YX (λk' u=>if k'=.tup k then w else u) (iz es) us) (es.map (·.2.2)) M4/\M4.Nodup/\(∀b∈M,b∈M4)/\(∀b∈M3,b∈M4)/\(∀b∈M4,b∈M3\/b∈M)
 | [],_,_,_,_,_,e=>by cases e
 |e::es,us,M,al,nd,nM,hv=>by
  cases us with
  |nil=>obtain⟨z,_⟩:=al;cases z
  |cons u us=>
   obtain⟨v,r,L1,L2,e1,e2,p,q⟩:=al;rw[Vp] at e1;cases e1;subst e2;rw[Vp] at nd;obtain⟨P_,R_⟩:=Wj.mp nd;obtain⟨n1,n2,n3⟩:=Xc.mp nM;have ql:(iz es).length=us.length:=by rw[q.length,Vd,Vd]
   unfold gy at hv;rw[WE] at hv;unfold iz;rw[Vp];unfold e_;by_cases c:e.1=k
   ·rw[hG c] at hv;cases hv;have nk:U.tup k∉iz es:=λz=>P_ (by rw[c];exact wa.mp z);refine⟨u,L1,by rw[hV (by rw[c])],by rw[←c];exact U8,by rw[Xy,ite_self];exact congrArg _ (qf nk ql),λb hb=>VF _ hb,n1,p,λH' A' w M3 g kk d5 n5 t1 t2=>?_⟩;rw[Xy,hV (by rw[c]),qf nk ql];have dj:∀b∈L2,b∉L1:=λb hb z=>n3 b z b hb rfl;refine⟨M3++L2,⟨_,_,M3,L2,rfl,rfl,d5,q.imp λu v L' s y=>y.re g λb hb=>kk b (Vm _ (s b hb)) (dj b (s b hb))⟩,?_,λb hb=>?_,λb hb=>VF _ hb,λb hb=>?_⟩
    ·refine Xc.mpr ⟨n5,n2,λa ha b hb eq=>?_⟩;subst eq;rcases t2 a ha with y|y
     ·exact dj a hb y
     ·obtain⟨_,_,_,z1,z2⟩:=q.mem hb;exact z1.ne z2 y
    ·rcases Vv.mp hb with y|y
     ·exact VF _ (t1 b y)
     ·exact Vm _ y
    ·exact (Vv.mp hb).imp id (λy=>Vm _ y)
   ·rw[hJ c] at hv;obtain⟨u',M',y1,y2,y3,y4,y5,y6,y7⟩:=iy.find q R_ n2 hv;have c':¬U.tup e.1=U.tup k:=λz=>c (mm.mp z);have dj:∀b∈L1,b∉L2:=λb hb z=>n3 b hb b z rfl;refine⟨u',M',by rw[hU c'];exact y1,Vc _ y2,by rw[Xy,hU c',y3],λb hb=>Vm _ (y4 b hb),y5,y6,λH' A' w M3 g kk d5 n5 t1 t2=>?_⟩;obtain⟨M4,z1,z2,z3,z4,z5⟩:=y7 H' A' w M3 g (λb hb=>kk b (Vm _ hb)) d5 n5 t1 t2;rw[Xy,hU c'];refine⟨L1++M4,⟨_,_,L1,M4,rfl,rfl,p.re g λb hb=>kk b (VF _ hb) λz=>dj b hb (y4 b z),z1⟩,?_,λb hb=>?_,λb hb=>Vm _ (z4 b hb),λb hb=>?_⟩
    ·refine Xc.mpr ⟨n1,z2,λa ha b hb eq=>?_⟩;subst eq;rcases z5 a hb with y|y
     ·rcases t2 a y with x|x
      ·exact dj a ha (y4 a x)
      ·exact p.ne ha x
     ·exact dj a ha y
    ·rcases Vv.mp hb with y|y
     ·exact VF _ y
     ·exact Vm _ (z3 b y)
    ·rcases Vv.mp hb with y|y
     ·exact .inr (VF _ y)
     ·exact (z5 b y).imp id λz=>Vm _ z
theorem At.child {M:List Vr}{k:List U}{x:V}(h:At K H A n v L (m+1) (.dct (iz es) us) (.ref a) (a::M) F)(d:fj H a es)(z:es=[]->H a=some (.dK []))(l:us.length<=Vf)(al:iy (Dp K H A m) us (es.map (·.2.2)) M)(hv:gy es k=some x) :
  ∃u' L2,e_ (iz es) us (.tup k)=some u'/\F (.dct (j9 (iz es) (.tup k)) (jM (iz es) us (.tup k) u'))=F (.dct (iz es) us)/\At K H A n v L m u' x L2 (λw=>F (.dct (j9 (iz es) (.tup k)) (jM (iz es) us (.tup k) w))):=by
 obtain⟨na,nM⟩:=Wj.mp h.nod';obtain⟨u',M',y1,y2,y3,y4,y5,y6,y7⟩:=al.find d.nd nM hv;have hk:U.tup k∈iz es:=wa.mpr y2;have e1:j9 (iz es) (.tup k)=iz es:=hV hk;have e2:∀w,jM (iz es) us (.tup k) w=YX (λk' u=>if k'=.tup k then w else u) (iz es) us:=λw=>hV hk;have e3:F (.dct (j9 (iz es) (.tup k)) (jM (iz es) us (.tup k) u'))=F (.dct (iz es) us):=by rw[e1,e2,y3]
 refine⟨u',M',y1,e3,⟨λb hb=>h.sub b (Vc _ (y4 b hb)),h.nod,y5,y6,by rw[e3];exact h.all,λH' A' w L3 g kk d5 n5 t1 t2=>?_⟩⟩;have ka:H' a=H a:=kk a (h.sub a U8) λq=>na (y4 a q);obtain⟨M4,z1,z2,z3,z4,z5⟩:=y7 H' A' w L3 g (λb hb nb=>kk b (h.sub b (Vc _ hb)) nb) d5 n5 t1 t2;have n4:(a::M4).Nodup:=Wj.mpr ⟨λq=>by
  rcases z5 a q with y|y
  ·rcases t2 a y with x|x
   ·exact na (y4 a x)
   ·exact h.dp.ne U8 x
  ·exact na y,z2⟩
 obtain⟨L4,w1,w2,w3,w4,w5⟩:=h.put H' A' (.dct (iz es) (jM (iz es) us (.tup k) w)) (a::M4) g (λb hb nb=>kk b hb λq=>nb (Vc _ (y4 b q)))
  ⟨a,_,es,M4,rfl,rfl,rfl,d.re ka g.tup,(by rw[ka];exact z),by rw[e2,ZV];lia,by rw[e2];exact z1⟩ n4 (λb hb=>by
   rcases Vk.mp hb with rfl|hb
   ·exact U8
   ·exact Vc _ (z3 b hb)) (λb hb=>by
   rcases Vk.mp hb with rfl|hb
   ·exact .inl U8
   ·rcases z5 b hb with y|y
    ·exact (t2 b y).imp (λq=>Vc _ (y4 b q)) id
    ·exact .inl (Vc _ y))
 refine⟨L4,by rw[e1];exact w1,w2,w3,λb hb=>w4 b (Vc _ (z4 b hb)),λb hb=>?_⟩;rcases w5 b hb with y|y
 ·rcases Vk.mp y with rfl|y
  ·exact .inr (h.sub b U8)
  ·rcases z5 b y with x|x
   ·exact .inl x
   ·exact .inr (h.sub b (Vc _ x))
 ·exact .inr y
theorem iy.snoc {P:U->V->List Vr->Prop}(p:P u v L'):∀{us:List U} {vs:List V} {L:List Vr},iy P us vs L->iy P (us++[u]) (vs++[v]) (L++L')
 | [],_,_,⟨e1,e2⟩=>by subst e1 e2;exact⟨v,[],L',[],rfl,(VU _).symm,p,rfl,rfl⟩
 |w::us,_,_,⟨x,r,L1,L2,e1,e2,q,al⟩=>by subst e1 e2;exact⟨x,r++[v],L1,L2++L',rfl,VC _ _ _,q,al.snoc p⟩
theorem F3 {k:List U}(h:gy es k=none):k∉es.map (·.1):=λz=>by
 obtain⟨e,he,rfl⟩:=V3.mp z;unfold gy at h;rw[Zi,Zb] at h;exact h e he (hG rfl)
theorem CW {k:List U}(h:gy es k=none):gy (es++[(k,b,v)]) k=some v:=by
 unfold gy at h ⊢;rw[Zi] at h;rw[List.find?_append,h];show Option.map _ (List.find? _ _)=_;rw[WE,hG rfl];rfl
theorem CY {k w:U}(h:k∉ks)(l:ks.length=us.length):YX (λk' u=>if k'=k then w else u) (ks++[k]) (us++[u])=us++[w]:=by
 rw[List.zipWith_append l,qf h l];show _++[if k=k then w else u]=_;rw[hV rfl]
theorem yk {k:U}:∀{ks us:List U},k∉ks->e_ ks us k=none
 | [],us,_=>by unfold e_;rfl
 |x::ks,[],_=>by unfold e_;rfl
 |x::ks,y::us,h=>by unfold e_;rw[hU (λe=>h (by rw[e];exact U8))];exact yk λz=>h (Vc _ z)
theorem u5 {k u:U}:∀{ks us:List U},k∉ks->ks.length=us.length->e_ (ks++[k]) (us++[u]) k=some u
 | [],[],_,_=>by show e_ [k] [u] k=_;unfold e_;rw[hV rfl]
 |x::ks,y::us,h,l=>by show e_ (x::(ks++[k])) (y::(us++[u])) k=_;unfold e_;rw[hU (λe=>h (by rw[e];exact U8))];exact u5 (λz=>h (Vc _ z)) (by simpa using l)
theorem At.new {H0:Hp}{c:Vr}{M:List Vr}{k:List U}{u0:U}(h:At K H0 A n v L (m+1) (.dct (iz es) us) (.ref a) (a::M) F)(d:fj H0 a es)(l:us.length<Vf)(al:iy (Dp K H0 A m) us (es.map (·.2.2)) M)(mu:∀b,A b->Mu (H0 b))(aa:∀b∈L,A b)(s0:aT H0 H)(nc:H0 c=none)(kb:zj H k b)(hv:gy es k=none)(h':H'=cQ H a (DN a ep (zk es k b (.ref c))))(dc:∀H',H' c=H c->(∀b,Mu (H b)\/H' b=H b)->Dp K H' (λb=>A b\/b=c) m u0 (.ref c) [c]) :
  ∃L4 L2,e_ (iz es) us (.tup k)=none/\At K H' (λb=>A b\/b=c) n v L4 m u0 (.ref c) L2 (λw=>F (.dct (j9 (iz es) (.tup k)) (jM (iz es) us (.tup k) w)))/\(∀b∈L,b∈L4)/\(∀b∈L4,b∈L\/b=c)/\yS A (λb=>A b\/b=c) H0 H':=by
 have nk:=F3 hv;have Pr:U.tup k∉iz es:=λz=>nk (wa.mp z);have ll:(iz es).length=us.length:=by rw[al.length,Vd,Vd]
 have pe:zk es k b (.ref c)=es++[(k,b,.ref c)]:=by unfold zk;rw[hv];rfl
 rw[pe] at h';have aA:A a:=aa a (h.sub a U8);have ha:H' a=some (DN a ep (es++[(k,b,.ref c)])):=by rw[h'];unfold cQ;rw[hV rfl]
 have hb:∀b,b≠a->H' b=H b:=λb nb=>by rw[h'];unfold cQ;rw[hU nb]
 have ca:c≠a:=λe=>by
  have:=mu a aA;rw[←e,nc] at this;exact this
 have cM:c∉M:=λz=>h.all.ne (h.sub c (Vc _ z)) nc;obtain⟨na,nM⟩:=Wj.mp h.nod';have g:yS A (λb=>A b\/b=c) H0 H':=⟨mu,λb o nb e=>by rw[hb b (λz=>nb (z▸aA))];exact s0 b o e,λb z=>z.imp id λe=>by rw[e];exact nc⟩;have un:∀b,H' b=none->H0 b=none:=λx e=>by
  by_cases xa:x=a
  ·rw[xa,ha] at e;cases e
  ·rw[hb x xa] at e;cases q:H0 x with
   |none=>rfl
   |some o=>rw[s0 x o q] at e;cases e
 have kL:∀b∈L,b≠a->H' b=H0 b:=λx hx xa=>by
  rw[hb x xa];cases q:H0 x with
  |none=>exact absurd q (h.all.ne hx)
  |some o=>exact s0 x o q
 have d2:fj H' a (es++[(k,b,.ref c)]):=⟨.inl ⟨ep,ha⟩,by
  rw[WI,Xc];refine⟨d.nd,Wb _ _,λx hx y hy=>?_⟩;rw[Vp,Xg,Vu] at hy;subst hy;exact λe=>nk (e▸hx),λe he=>by
  rcases Vv.mp he with he|he
  ·exact (d.key e he).to g.tup
  ·rw[Vu] at he;subst he;refine kb.to λx ys q=>?_;rw[hb x (λz=>?_)]
   ·exact q
   ·have:=mu a aA;obtain⟨o,e⟩:=this.ex;rw[e] at this;rw[z,s0 a o e] at q;cases q;exact this⟩
 have em:(es++[(k,b,V.ref c)]).map (·.2.2)=es.map (·.2.2)++[.ref c]:=by rw[WI];rfl
 have ek:iz (es++[(k,b,V.ref c)])=iz es++[.tup k]:=by unfold iz;rw[WI];rfl
 have Qc:iy (Dp K H' (λb=>A b\/b=c) m) (us++[u0]) ((es++[(k,b,V.ref c)]).map (·.2.2)) (M++[c]):=by
  rw[em];refine iy.snoc (dc H' (hb c ca) λx=>?_) (al.imp λu v L' s p=>p.re g λx hx=>kL x (h.sub x (Vc _ (s x hx))) λe=>na (e▸s x hx));by_cases xa:x=a
  ·refine .inl ?_;have:=mu a aA;obtain⟨o,e⟩:=this.ex;rw[xa,s0 a o e,←e];exact this
  ·exact .inr (hb x xa)
 obtain⟨L4,h4,z1,z2⟩:=h.set (w:=.dct (iz (es++[(k,b,V.ref c)])) (us++[u0])) (L3:=a::(M++[c])) g (λx hx nx=>kL x hx λe=>nx (by rw[e];exact U8)) un
  ⟨a,_,_,_,rfl,rfl,rfl,d2,(λe=>absurd e (by simp)),by rw[Ve];exact l,Qc⟩
  (Wj.mpr ⟨λz=>by
   rcases Vv.mp z with z|z
   ·exact na z
   ·rw[Vu] at z;exact ca z.symm,Xc.mpr ⟨nM,Wb _ _,λx hx y hy e=>by
    rw[Vu] at hy;exact cM (hy▸e▸hx)⟩⟩)
  (λx hx=>by
   rcases Vk.mp hx with hx|hx
   ·rw[hx];exact U8
   ·exact Vc _ (VF _ hx))
  (λx hx=>by
   rcases Vk.mp hx with hx|hx
   ·rw[hx];exact .inl U8
   ·rcases Vv.mp hx with hx|hx
    ·exact .inl (Vc _ hx)
    ·rw[Vu] at hx;rw[hx];exact .inr nc)
 obtain⟨u',L2,y1,y2,y3⟩:=h4.child d2 (λe=>absurd e (by simp)) (by rw[Ve];exact l) Qc (CW hv);rw[ek,u5 Pr ll] at y1;cases y1;have e1:j9 (iz es) (.tup k)=iz es++[.tup k]:=hU Pr;have e2:∀w,jM (iz es) us (.tup k) w=us++[w]:=λw=>hU Pr;have e3:(λw=>F (.dct (j9 (iz (es++[(k,b,V.ref c)])) (.tup k)) (jM (iz (es++[(k,b,V.ref c)])) (us++[u0]) (.tup k) w)))=(λw=>F (.dct (j9 (iz es) (.tup k)) (jM (iz es) us (.tup k) w))):=by
  funext w;have m:U.tup k∈iz es++[.tup k]:=Vm _ U8;rw[ek,show j9 (iz es++[.tup k]) (.tup k)=iz es++[.tup k] from hV m,show jM (iz es++[.tup k]) (us++[u0]) (.tup k) w=_ from hV m,CY Pr ll,e1,e2]
 rw[e3] at y3;refine⟨L4,L2,yk Pr,y3,z1,λx hx=>?_,g⟩;rcases z2 x hx with y|y
 ·rcases Vk.mp y with y|y
  ·rw[y];exact .inl (h.sub a U8)
  ·rcases Vv.mp y with y|y
   ·exact .inl (h.sub x (Vc _ y))
   ·rw[Vu] at y;exact .inr y
 ·exact .inl y
end
end L2
namespace L2
open Classical in
noncomputable def Pkg.hx (Z:Pkg)(H:Hp)(L:List Vr):Pkg:=⟨λb=>Z.A0 b\/b∈L,λb=>if b∈L then H b else Z.B b,Z.a0⟩
section
variable {A':Vr->Prop}{ρ':Ev}{σ':St}
theorem pb (h:b∈L):(Z.hx H L).B b=H b:=hV h
theorem cg (h:b∉L):(Z.hx H L).B b=Z.B b:=hU h
structure kS (K:U7)(G:Gm)(Z:Pkg)(A:Vr->Prop)(ρ:Ev)(σ:St)(H:Hp)(i n:Nat)(u:U)(v:V)(L:List Vr):Prop where
 at_:σ[i]? = some (some v)
 nod:L.Nodup
 fr:∀b∈L,Z.B b=none/\¬Z.A0 b
 dp:Dp K H A n u v L
 rel:cu K G (Z.hx H L) A (ρ.set i none) σ H
theorem kS.inA (h:kS K G Z A ρ σ H i n u v L)(hb:b∈L):A b:=h.rel.sup b (.inr hb)
theorem Ij (h:∀b∈L,H' b=H b):Z.hx H' L=Z.hx H L:=by
 unfold Pkg.hx;congr 1;funext b;by_cases c:b∈L
 ·rw[hV c,hV c,h b c]
 ·rw[hU c,hU c]
theorem kS.kept (h:kS K G Z A ρ σ H i n u v L)(s:aT H H'):∀b∈L,H' b=H b:=λb hb=>by
 cases q:H b with
 |none=>exact absurd q (h.dp.ne hb)
 |some o=>exact s b o q
theorem sh (m:∀b,A b->Mu (H b))(s:aT H H'):yS A A H H':=⟨m,eT.same s,λb z=>.inl z⟩
theorem wc (s:aT H H'):∀b,H' b=none->H b=none:=λb e=>by
 cases q:H b with
 |none=>rfl
 |some o=>rw[s b o q] at e;cases e
theorem kS.same (h:kS K G Z A ρ σ H i n u v L)(s:aT H H'):kS K G Z A ρ σ H' i n u v L:=
 ⟨h.at_,h.nod,h.fr,h.dp.re (sh h.rel.mu s) (h.kept s),by rw[Ij (h.kept s)];exact h.rel.same s⟩
theorem kS.put (h:kS K G Z A ρ σ H i n u v L)(g:yS A A' H H')(aa:∀b,A b->A' b)(k:∀b,b∉L'->H b≠none->H' b=H b)(nd:L'.Nodup)(s1:∀b∈L,b∈L')(s2:∀b∈L',b∈L\/H b=none)(ia:∀b∈L',A' b)(oa:∀b,A' b->A b\/b∈L')
  (d:Dp K H' A' n u' v L') (e:ρ'.set i none=ρ.set i none):kS K G Z A' ρ' σ H' i n u' v L':=by
 have old:∀b,A b->b∉L->b∉L':=λb ha nb z=>by
  rcases s2 b z with y|y
  ·exact nb y
  ·have:=h.rel.mu b ha;rw[y] at this;exact this
 have ne:∀b,A b->H b≠none:=λb ha e=>by
  have:=h.rel.mu b ha;rw[e] at this;exact this
 have nL:∀b,A b->(Z.hx H L).B b=none->b∉L:=λb ha e z=>by
  rw[pb z] at e;exact ne b ha e
 refine⟨h.at_,nd,λb hb=>?_,d,?_⟩
 ·rcases s2 b hb with y|y
  ·exact h.fr b y
  ·refine⟨?_,λz=>ne b (h.rel.sup b (.inl z)) y⟩;cases q:Z.B b with
   |none=>rfl
   |some o=>
    by_cases c:b∈L
    ·exact absurd y (h.dp.ne c)
    ·have:=h.rel.bas b o (by rw[cg c];exact q);rw[this] at y;cases y
 ·rw[e];exact {
   slot:=λj w hj=>by
    obtain⟨x,x1,x2⟩:=h.rel.slot j w hj;refine⟨x,x1,?_⟩;by_cases c:G.is j=true
    ·rw[hV c] at x2 ⊢;obtain⟨a,e1,e2,e3,e4,e5⟩:=x2;have na:=nL a e2 e3;have R5:=old a e2 na;refine⟨a,e1,aa a e2,?_,e4.imp (λy z=>y (z.imp id λq=>absurd q R5)) id,e5.re g.mu g.ex g.nw λo w=>?_⟩
     ·rw[cg R5];rw[cg na] at e3;exact e3
     ·rw[k a R5 (by rw[w];simp)];exact w
    ·rw[hU c] at x2 ⊢;exact x2.re g.mu g.ex g.nw
   dis:=h.rel.dis
   mu:=λb z=>by
    by_cases c:b∈L'
    ·exact d.mu c
    ·rcases oa b z with y|y
     ·rw[k b c (ne b y)];exact h.rel.mu b y
     ·exact absurd y c
   sup:=λb z=>by
    rcases z with z|z
    ·exact aa b (h.rel.sup b (.inl z))
    ·exact ia b z
   out:=λb z=>by
    by_cases c:b∈L'
    ·exact .inl (.inr c)
    ·rcases oa b z with y|y
     ·rcases h.rel.out b y with q|q
      ·rcases q with q|q
       ·exact .inl (.inl q)
       ·exact absurd (s1 b q) c
      ·rw[cg λz=>c (s1 b z)] at q;exact .inr (by rw[cg c];exact q)
     ·exact absurd y c
   bas:=λb o z=>by
    by_cases c:b∈L'
    ·rw[pb c] at z;exact z
    ·rw[cg c] at z;have cL:b∉L:=λy=>c (s1 b y);have:=h.rel.bas b o (by rw[cg cL];exact z);rw[k b c (by rw[this];simp)];exact this
   io0:=h.rel.io0
   len:=h.rel.len}
theorem cu.hid (q:cu K G Z A ρ σ H)(c:G.is i=true)(hi:G.io=true->i≠0)(h:ρ[i]? = some (some (.dct [] []))):∃a,kS K G Z A ρ σ H i (n+1) (.dct [] []) (.ref a) [a]:=by
 obtain⟨a,h1,h2,h3,h4,h5⟩:=q.own c h;have na:¬Z.A0 a:=by
  rcases h4 with h4|⟨h4,h6⟩
  ·exact h4
  ·exact absurd h6 (hi h4)
 have hk:H a=some (.dK []):=by
  unfold j2 at h5;obtain⟨xs,d,_⟩:=h5;rcases d with⟨cn,d1,d2,_⟩|⟨es,d0,_,d2,_⟩
  ·cases cn with
   |nil=>exact d1
   |cons=>cases d2
  ·cases es with
   |nil=>exact absurd rfl d0
   |cons=>cases d2
 have ne:∀j w b,i≠j->G.is j=true->ρ[j]? = some (some w)->σ[j]? = some (some (.ref b))->b≠a:=λj w b n1 cj e1 e2 e=>by
  subst e;exact q.dis i j _ w b c cj n1 h e1 h1 e2
 refine⟨a,h1,Wb _ _,λb hb=>?_,⟨a,[],[],[],rfl,rfl,rfl,⟨.inr ⟨rfl,hk⟩,Zv,(λe he=>nomatch he)⟩,λ_=>hk,Wt _,rfl,rfl⟩,?_⟩
 ·rw[Vu] at hb;subst hb;exact⟨h3,na⟩
 ·exact {
   slot:=λj w hj=>by
    rcases cR hj with⟨rfl,e⟩|⟨n1,e⟩
    ·cases e
    ·obtain⟨x,x1,x2⟩:=q.slot j w e;refine⟨x,x1,?_⟩;by_cases cj:G.is j=true
     ·rw[hV cj] at x2 ⊢;obtain⟨b,e1,e2,e3,e4,e5⟩:=x2;subst e1;have nb:=ne j w b n1 cj e x1;have S9:b∉[a]:=λz=>nb (Vu.mp z);exact⟨b,rfl,e2,by rw[cg S9];exact e3,e4.imp (λy z=>y (z.elim id λq=>absurd q S9)) id,e5⟩
     ·rw[hU cj] at x2 ⊢;exact x2
   dis:=(q.drop i).dis
   mu:=q.mu
   sup:=λb z=>by
    rcases z with z|z
    ·exact q.sup b z
    ·rw[Vu] at z;subst z;exact h2
   out:=λb z=>by
    by_cases y:b∈[a]
    ·exact .inl (.inr y)
    ·exact (q.out b z).imp (λw=>.inl w) λw=>by rw[cg y];exact w
   bas:=λb o z=>by
    by_cases y:b∈[a]
    ·rw[pb y] at z;exact z
    ·rw[cg y] at z;exact q.bas b o z
   io0:=q.io0
   len:=by rw[Wl];exact q.len}
theorem kS.un (h:kS K G Z A ρ σ H i (n+1) u v L)(c:G.is i=true)(hu:ρ[i]? = some (some u)):cu K G Z (λb=>A b/\(b∈L->v=.ref b)) ρ σ H:=by
 obtain⟨a,us,es,M,e1,e2,e3,d,z,l,al⟩:=id h.dp;subst e1 e2 e3;obtain⟨na,nM⟩:=Wj.mp h.nod;have ha:a∈a::M:=U8;have nL:∀b,A b->(Z.hx H (a::M)).B b=none->b∉a::M:=λb hA e y=>by
  rw[pb y] at e;exact h.dp.ne y e
 have av:∀b,(A b/\(b∈a::M->V.ref a=.ref b))->A b/\b∉M:=λb y=>⟨y.1,λw=>by
  have:=y.2 (Vc _ w);cases this;exact na w⟩
 have wR:∀j w,i≠j->ρ[j]? = some (some w)->(ρ.set i none)[j]? = some (some w):=λj w n1 e=>by rw[VH n1];exact e
 exact {
  slot:=λj w hj=>by
   by_cases n1:i=j
   ·subst n1;rw[hu] at hj;cases hj;refine⟨.ref a,h.at_,?_⟩;rw[hV c];refine⟨a,rfl,⟨h.inA ha,λ_=>rfl⟩,(h.fr a ha).1,.inl (h.fr a ha).2,?_⟩;unfold j2;exact⟨es.map (·.2.2),d.at z,l,al.rps λu v L' s p=>Dp.rp (λb y=>⟨y.1,λw=>(av b y).2 (s b w)⟩) p⟩
   ·obtain⟨x,x1,x2⟩:=h.rel.slot j w (wR j w n1 hj);refine⟨x,x1,?_⟩;by_cases cj:G.is j=true
    ·rw[hV cj] at x2 ⊢;obtain⟨b,e1,e2,e3,e4,e5⟩:=x2;have nb:=nL b e2 e3;exact⟨b,e1,⟨e2,λy=>absurd y nb⟩,by rw[cg nb] at e3;exact e3,e4.imp (λy w=>y (.inl w)) id,e5.mono λb y=>y.1⟩
    ·rw[hU cj] at x2 ⊢;exact x2.mono λb y=>y.1
  dis:=λj k w w' b cj ck n1 hj hk sj sk=>by
   have key:∀k w',G.is k=true->i≠k->ρ[k]? = some (some w')->σ[k]? ≠ some (some (.ref a)):=λk w' ck n2 e y=>by
    obtain⟨b,x1,x2,x3,_⟩:=h.rel.own ck (wR k w' n2 e);rw[x1] at y;cases y;exact nL a x2 x3 ha
   by_cases n2:i=j
   ·subst n2;rw[h.at_] at sj;cases sj;exact key k w' ck n1 hk sk
   ·by_cases n3:i=k
    ·subst n3;rw[h.at_] at sk;cases sk;exact key j w cj n2 hj sj
    ·exact h.rel.dis j k w w' b cj ck n1 (wR j w n2 hj) (wR k w' n3 hk) sj sk
  mu:=λb y=>h.rel.mu b y.1
  sup:=λb y=>⟨h.rel.sup b (.inl y),λw=>absurd y (h.fr b w).2⟩
  out:=λb y=>by
   by_cases w:b∈a::M
   ·exact .inr (h.fr b w).1
   ·rcases h.rel.out b y.1 with q|q
    ·exact .inl (q.elim id λx=>absurd x w)
    ·rw[cg w] at q;exact .inr q
  bas:=λb o y=>by
   have w:b∉a::M:=λx=>by rw[(h.fr b x).1] at y;cases y
   exact h.rel.bas b o (by rw[cg w];exact y)
  io0:=h.rel.io0
  len:=by have:=h.rel.len;rw[Wl] at this;exact this}
theorem cu.pkg {Z':Pkg}(q:cu K G Z A ρ σ H)(e0:Z'.a0=Z.a0)(e1:∀b,Z'.A0 b↔Z.A0 b)(hB:∀b,A b->Z.B b=none->Z'.B b=none)(bas:∀b o,Z'.B b=some o->H b=some o):cu K G Z' A ρ σ H where
 slot:=λj w hj=>by
  obtain⟨x,x1,x2⟩:=q.slot j w hj;refine⟨x,x1,?_⟩;by_cases c:G.is j=true
  ·rw[hV c] at x2 ⊢;obtain⟨b,yM,e2,e3,e4,e5⟩:=x2;exact⟨b,yM,e2,hB b e2 e3,e4.imp (λy z=>y ((e1 b).mp z)) id,e5⟩
  ·rw[hU c] at x2 ⊢;exact x2
 dis:=q.dis
 mu:=q.mu
 sup:=λb z=>q.sup b ((e1 b).mp z)
 out:=λb z=>(q.out b z).imp (λy=>(e1 b).mpr y) (hB b z)
 bas:=bas
 io0:=λz=>by rw[e0];exact q.io0 z
 len:=q.len
theorem kS.lp (h:kS K G Z A ρ σ H i n u v L):kS K G (Z.lp A H) A ρ σ H i n u v L:=
 ⟨h.at_,h.nod,λb hb=>⟨kK (h.inA hb) (h.fr b hb).1,(h.fr b hb).2⟩,h.dp,h.rel.pkg rfl (λb=>Iff.rfl) (λb ha e=>by
  by_cases c:b∈L
  ·rw[pb c] at e ⊢;exact e
  ·rw[cg c] at e ⊢;exact kK ha e) λb o e=>by
  by_cases c:b∈L
  ·rw[pb c] at e;exact e
  ·rw[cg c] at e;by_cases y:A b/\Z.B b=none
   ·rw[kK y.1 y.2] at e;cases e
   ·rw[iV y] at e;exact e⟩
theorem J7 (h:kS K G Z A ρ σ H i n u v L)(e:(Z.lp A H).B b=none):Z.B b=none:=by
 rcases qQ e with y|y
 ·exact y.2
 ·cases q:Z.B b with
  |none=>rfl
  |some o=>
   have c:b∉L:=λz=>by rw[(h.fr b z).1] at q;cases q
   have:=h.rel.bas b o (by rw[cg c];exact q);rw[this] at y;cases y
theorem kS.unlp (h:kS K G Z A ρ σ H i n u v L)(h':kS K G (Z.lp A H) A' ρ' σ' H' i n u' v' L'):kS K G Z A' ρ' σ' H' i n u' v' L' :=
 ⟨h'.at_,h'.nod,λb hb=>⟨J7 h (h'.fr b hb).1,(h'.fr b hb).2⟩,h'.dp,h'.rel.pkg rfl (λb=>Iff.rfl) (λb ha e=>by
  by_cases c:b∈L'
  ·rw[pb c] at e ⊢;exact e
  ·rw[cg c] at e ⊢;exact J7 h e) λb o e=>by
  by_cases c:b∈L'
  ·rw[pb c] at e;exact e
  ·rw[cg c] at e;refine h'.rel.bas b o ?_;rw[cg c,iV (λy=>by rw[e] at y;exact nomatch y.2)];have cL:b∉L:=λz=>by rw[(h.fr b z).1] at e;cases e
   exact h.rel.bas b o (by rw[cg cL];exact e)⟩
theorem kS.ext (h:kS K G Z A ρ σ H i n u v L)(h':kS K G (Z.lp A H) A' ρ' σ' H' i n u' v' L'):eT A H H'/\∀b,A' b->A b\/H b=none:=by
 refine⟨λb o nb e=>?_,λb z=>?_⟩
 ·have lb:(Z.lp A H).B b=some o:=by rw[iV (λy=>nb y.1)];exact e
  have c:b∉L':=λy=>by rw[(h'.fr b y).1] at lb;cases lb
  exact h'.rel.bas b o (by rw[cg c];exact lb)
 ·have f:(Z.lp A H).B b=none->A b\/H b=none:=λy=>(qQ y).imp (λw=>w.1) id;rcases h'.rel.out b z with y|y
  ·rcases y with y|y
   ·exact .inl (h.rel.sup b (.inl y))
   ·exact f (h'.fr b y).1
  ·by_cases c:b∈L'
   ·exact f (h'.fr b c).1
   ·rw[cg c] at y;exact f y
def mV (K:U7)(G:Gm)(Z:Pkg)(i n:Nat):SR->lH->Prop
 | .nx ρ',D=>∀A' σ' H' u' v' L',kS K G Z A' ρ' σ' H' i n u' v' L'->ρ'[i]? = some (some u')->D.nx σ' H'
 | .bk ρ',D=>∀A' σ' H' u' v' L',kS K G Z A' ρ' σ' H' i n u' v' L'->ρ'[i]? = some (some u')->D.bk σ' H'
 | .ct ρ',D=>∀A' σ' H' u' v' L',kS K G Z A' ρ' σ' H' i n u' v' L'->ρ'[i]? = some (some u')->D.ct σ' H'
 |_,_=>False
def Sz (K:U7)(G:Gm)(i n:Nat)(g:Ev->SR):TS:=λD σ H=>∃Z A ρ u v L,kS K G Z A ρ σ H i n u v L/\ρ[i]? = some (some u)/\mV K G Z i n (g ρ) D
theorem mV.lp (h:kS K G Z A ρ σ H i n u v L){r:SR}{D:lH}(f:mV K G Z i n r D):mV K G (Z.lp A H) i n r D:=by
 cases r with
 |nx=>exact λA' σ' H' u' v' L' h'=>f A' σ' H' u' v' L' (h.unlp h')
 |bk=>exact λA' σ' H' u' v' L' h'=>f A' σ' H' u' v' L' (h.unlp h')
 |ct=>exact λA' σ' H' u' v' L' h'=>f A' σ' H' u' v' L' (h.unlp h')
 |rt=>exact f.elim
 |exc=>exact f.elim
 |stk=>exact f.elim
theorem mV.of {α:Type}{x:R α}{k:α->SR}{D:lH}(f:mV K G Z i n (SR.of x k) D):∃a,x=.ok a/\mV K G Z i n (k a) D:=by
 cases x with
 |ok a=>exact⟨a,rfl,f⟩
 |exc=>exact f.elim
 |stk=>exact f.elim
end
structure DD (X:Cx)(G:Gm)(i n:Nat)(st:Zf)(g:Ev->SR):Prop where
 un:PS X st (Sz X.K G i n g)
structure OH (X:Cx)(G:Gm)(i n:Nat)(st:List Zf)(g:Ev->SR):Prop where
 un:tG X st (Sz X.K G i n g)
section
variable {e a b o f:W5}{rest:List Zf}{es:List W5}{gj cpos:Pos}{b1 b2:Bool}{m1 m2 m:Md}{g1 g2:Ev->R (U×Ev)}{h1:Ev->R (Bool×Ev)}{s1 s2:Ev->SR}
theorem Ik:OH X G i n [] bu:=⟨Ay.to λD σ H ⟨Z,A,ρ,u,v,L,h,hu,f⟩=>f A σ H u v L h hu⟩
theorem BG (h:DD X G i n st s1):OH X G i n [st] s1:=⟨Az h.un⟩
noncomputable def L_ (i:Nat)(h:Ev->R (Bool×Ev))(s1 s2:Ev->SR):Ev->SR:=λρ=>SR.of (h (ρ.set i none)) λx=>if x.1=true then s1 ρ else s2 ρ
theorem OI {a b:List Zf}(hc:DT X G c false h1)(ha:OH X G i n a s1)(hb:OH X G i n b s2):DD X G i n (.If c a b pos) (L_ i h1 s1 s2):=⟨(IM hc.un ha.un hb.un).to λD σ H h00=>by
 obtain⟨Z,A,ρ,u,v,L,h,hu,f⟩:=h00;obtain⟨⟨k,ρ1⟩,e1,f⟩:=f.of;refine⟨Z.hx H L,A,ρ.set i none,h.rel,?_⟩;rw[e1];intro H1 q1 _ s1;have sm:=(s1 rfl).2;cases k with
 |true=>rw[hV rfl] at f ⊢;exact⟨Z,A,ρ,u,v,L,h.same sm,hu,f⟩
 |false=>rw[hU Vb] at f ⊢;exact⟨Z,A,ρ,u,v,L,h.same sm,hu,f⟩⟩
noncomputable def CZ (i:Nat)(sg:U->Ev->R Ev)(s:Ev->SR):List U->Ev->SR
 | [],ρ=>.nx ρ
 |u::us,ρ=>SR.of (sg u (ρ.set i none)) λρ1=>match s (ρ1.set i (ρ[i]?.getD none)) with
   | .nx ρ2=>CZ i sg s us ρ2
   | .ct ρ2=>CZ i sg s us ρ2
   | .bk ρ2=>.nx ρ2
   |r=>r
noncomputable def F4 (i:Nat)(gi:Ev->R (List U×Ev))(sg:U->Ev->R Ev)(s:Ev->SR):Ev->SR:=λρ=>SR.of (gi (ρ.set i none)) λx=>CZ i sg s x.1 ρ
theorem Ma {gi:Ev->R (List U×Ev)}(hp:aaD (VE X.prog X.w) X.A X.env X.xe)(hc:X.calm=true)(hi:DI X G tg iter false false gi)(hg:DG X G tg sg)(hb:OH X G i n body s1)(ci:G.is i=true:=by rfl)(hs:∀x,WB iter X.env x=pure x:=by intro _;rfl):DD X G i n (.For tg iter body [] pos) (F4 i gi sg s1):=⟨(AH hp hc hi.un hg.un hb.un hs).to λD σ H h00=>by
 obtain⟨Z,A,ρ,u,v,L,h,hu,f⟩:=h00;obtain⟨⟨us,ρ1⟩,e1,f⟩:=f.of;refine⟨Z.hx H L,A,ρ.set i none,h.rel,?_⟩;rw[e1];intro J H1 q1 x1 yL wk;have h1:=h.same (yL rfl).2;dsimp only at f;obtain⟨hz,wk⟩:=wk;refine⟨λj k σ H=>j+k=us.length/\∃A' ρ' u' v' L',kS X.K G (Z.lp A H1) A' ρ' σ H i n u' v' L'/\ρ'[i]? = some (some u')/\mV X.K G (Z.lp A H1) i n (CZ i sg s1 (us.drop j) ρ') D,⟨us.length,by lia,A,ρ,u,v,L,h1.lp,hu,by rw[Zw];exact f.lp h1⟩,?_⟩;rintro j k σ H ⟨hk,A',ρ',u',v',L',h',c_,f'⟩;obtain⟨ex,nw⟩:=h1.ext h';obtain⟨w1,w2⟩:=wk H A' (by rw[hU Vb];exact ex) nw;by_cases yT:j<us.length
 ·have eu:us[j]? = some us[j]:=U4 yT;obtain⟨go,yl⟩:=w1 j _ eu;rw[Wq yT] at f';unfold CZ at f';obtain⟨ρ2,e2,f2⟩:=f'.of;refine .inr ⟨go,λσ H=>∃A' ρ' u' v' L',kS X.K G (Z.lp A H1) A' ρ' σ H i n u' v' L'/\ρ'[i]? = some (some u')/\mV X.K G (Z.lp A H1) i n (CZ i sg s1 (us.drop (j+1)) ρ') D,λσ' H' z=>⟨k-1,by lia,by lia,z⟩,λx H' y=>?_⟩;obtain⟨sm,rp⟩:=yl x H' y;have h2:=h'.same sm;refine⟨(Z.lp A H1).hx H' L',A',ρ'.set i none,us[j],h2.rel,rp,?_⟩;rw[e2];intro σ2 q2 keep;have Ku:σ2[i]? = some (some v'):=by rw[keep i ci];exact h2.at_
  have il:i<ρ2.length:=by
   rw[q2.len];exact (Vg.mp Ku).1
  have R6:(ρ2.set i (some u'))[i]? = some (some u'):=Xw il;rw[c_,Yb] at f2;refine⟨Z.lp A H1,A',ρ2.set i (some u'),u',v',L',⟨Ku,h2.nod,h2.fr,h2.dp,by rw[List.set_set];exact q2.drop i⟩,R6,?_⟩;cases e3:s1 (ρ2.set i (some u')) with
  |nx ρ3=>rw[e3] at f2;exact λA3 σ3 H3 u3 v3 L3 h3 R7=>⟨A3,ρ3,u3,v3,L3,h3,R7,f2⟩
  |ct ρ3=>rw[e3] at f2;exact λA3 σ3 H3 u3 v3 L3 h3 R7=>⟨A3,ρ3,u3,v3,L3,h3,R7,f2⟩
  |bk ρ3=>rw[e3] at f2;exact f2
  |rt=>rw[e3] at f2;exact f2
  |exc=>rw[e3] at f2;exact f2
  |stk=>rw[e3] at f2;exact f2
 ·have e:j=us.length:=by lia
  subst e;rw[YM] at f';exact .inl ⟨w2,f' A' σ H u' v' L' h' c_⟩⟩
noncomputable def BH (i:Nat)(g:Ev->SR):Ev->SR:=λρ=>match ρ[i]? with
 |some (some (.dct [] []))=>match g ρ with
  | .nx ρ'=>.nx ρ'
  | .bk ρ'=>.bk ρ'
  | .ct ρ'=>.ct ρ'
  |_=>.stk
 |_=>.stk
theorem Il (h:DD X G i (n+1) st s1)(hi:G.io=true->i≠0:=by decide)(c:G.is i=true:=by rfl):DS X G m st (BH i s1):=⟨h.un.to λD σ H h00=>by
 obtain⟨Z,A,ρ,q,f⟩:=h00;unfold BH at f;split at f
 ·rename_i hu;obtain⟨a,hd⟩:=q.hid (n:=n) c hi hu;refine⟨Z,A,ρ,_,_,_,hd,hu,?_⟩;cases e:s1 ρ with
  |nx=>rw[e] at f;exact λA' σ' H' u' v' L' h' c_=>f _ σ' H' (h'.un c c_)
  |bk=>rw[e] at f;exact λA' σ' H' u' v' L' h' c_=>f _ σ' H' (h'.un c c_)
  |ct=>rw[e] at f;exact λA' σ' H' u' v' L' h' c_=>f _ σ' H' (h'.un c c_)
  |rt=>rw[e] at f;exact f.elim
  |exc=>rw[e] at f;exact f.elim
  |stk=>rw[e] at f;exact f.elim
 ·exact f.elim⟩
end
end L2
namespace L2
noncomputable def BI (i:Nat):Ev->R (U×(U->U)):=λρ=>match ρ[i]? with
 |some (some u)=>.ok (u,id)
 |_=>.stk
noncomputable def u6 (i:Nat)(e0:U)(gp:Ev->R (U×(U->U)))(gk:Ev->R (U×Ev)):Ev->R (U×(U->U)):=λρ=>(gp ρ).bind λx=>(gk (ρ.set i none)).bind λk=>match x.1 with
 | .dct ks us=>if Ct k.1=true/\us.length<Vf then .ok ((e_ ks us k.1).getD e0,λw=>x.2 (.dct (j9 ks k.1) (jM ks us k.1 w))) else .stk
 |_=>.stk
def P0 (K:U7)(G:Gm)(i n m:Nat)(gp:Ev->R (U×(U->U))):TE:=λσ H Q=>∃Z A ρ u v L,kS K G Z A ρ σ H i n u v L/\ρ[i]? = some (some u)/\match gp ρ with
 | .ok (u',F)=>∀A1 H1 L1 v' L',kS K G Z A1 ρ σ H1 i n (F u') v L1->At K H1 A1 n v L1 m u' v' L' F->Q v' H1
 |_=>False
noncomputable def P2:Nat->HO
 |0=>.lst []
 |_+1=>.dK []
noncomputable def Ag:Nat->U
 |0=>.lst []
 |_+1=>.dct [] []
def Q5 (m:Nat):TE:=λ_ H Q=>∀p,H p=none->Q (.ref p) (cQ H p (P2 m))
theorem Mb {c:Vr}:∀{m:Nat},H c=some (P2 m)->Dp K H A m (Ag m) (.ref c) [c]
 |0,h=>⟨c,[],[],rfl,rfl,rfl,h,Wt _,aK.nil⟩
 |m+1,h=>⟨c,[],[],[],rfl,rfl,rfl,⟨.inr ⟨rfl,h⟩,Zv,(λe he=>nomatch he)⟩,λ_=>h,Wt _,rfl,rfl⟩
theorem Dp.self {c:Vr}:∀{m:Nat},Dp K H A m u (.ref c) L->c∈L
 |0,⟨a,_,_,e,_,e2,_⟩=>by cases e;subst e2;exact U8
 |m+1,⟨a,_,_,_,e,_,e2,_⟩=>by cases e;subst e2;exact U8
section
variable {e o f:W5}{gj cpos p1:Pos}{y:Str}{mk:Md}{gk:Ev->R (U×Ev)}{gp:Ev->R (U×(U->U))}
theorem Im:PE X (.Dict [] [] pos) (Q5 (m+1)):=xg
theorem Io:PE X (.List [] pos) (Q5 0):=(DF qo).to λσ H Q h=>⟨Wt _,h⟩
theorem Iq (i:Nat)(hN:X.N[i]? = some y:=by rfl)(hv:GR X.env.scope y:=by first|exact Or.inl rfl|exact Or.inr (Or.inl rfl)|exact Or.inr (Or.inr rfl))(hd:(y==("__debug__":Str))=false:=by decide)
  (sW:(y==("__classdict__":Str))=false:=by decide):PE X (.Name y pos) (P0 X.K G i n n (BI i)):=(lJ hN hv hd sW).to λσ H Q h00=>by
 obtain⟨Z,A,ρ,u,v,L,h,hu,f⟩:=h00;unfold BI at f;rw[hu] at f;exact⟨v,h.at_,f A H L v L h (.root h.dp h.nod)⟩
theorem BJ (hu:X.A.units+64<W9)(ho:PE X o (P0 X.K G i n (m+1) gp))(he:DE X G e false mk gk)(hf:PE X f (Q5 m))(hn:mk≠.P:=by decide)(M:M2 X o "setdefault" gj e f cpos:=by exact⟨rfl,rfl,rfl,rfl⟩) :
  PE X (.Call (.Attribute o "setdefault" gj) [e,f] [] cpos) (P0 X.K G i n m (u6 i (Ag m) gp gk)):=(Ii hu ho he.un hf M).to λσ H Q h00=>by
 obtain⟨Z,A,ρ,u,v,L,hd,hu0,f⟩:=h00;unfold u6 at f;cases e1:gp ρ with
 |stk=>rw[e1] at f;exact f.elim
 |exc=>rw[e1] at f;exact f.elim
 |ok x=>
  obtain⟨u1,F⟩:=x;rw[e1] at f;dsimp only[R.bind] at f;cases e2:gk (ρ.set i none) with
  |stk=>rw[e2] at f;exact f.elim
  |exc=>rw[e2] at f;exact f.elim
  |ok k=>
   obtain⟨k,ρk⟩:=k;rw[e2] at f;dsimp only[R.bind] at f;refine⟨Z,A,ρ,u,v,L,hd,hu0,?_⟩;rw[e1];intro A1 H1 L1 v' L' C9 kF;obtain⟨a,us,es,M,r1,r2,r3,d,z,l,al⟩:=id kF.dp;subst r1 r2 r3;dsimp only at f;split at f;rotate_left
   ·exact f.elim
   rename_i u' F' ef;split at ef;rotate_left
   ·cases ef
   rename_i hk;cases ef;refine⟨a,rfl,.inr ⟨es,d⟩,Z.hx H1 L1,A1,ρ.set i none,C9.rel,?_⟩;rw[e2];intro vk H2 q2 x2 s2 vf;have Qb:=(s2 rfl).2;intro c nc;have s3:aT H2 (cQ H2 c (P2 m)):=cN nc _;have MX:=Qb.trans s3;have As:Ct k=true:=hk.1;cases k<;>first|(cases As;done)|skip
   rename_i kk;obtain⟨b,rfl,kb⟩:=EA As (vf.rp hn);have S_:zj (cQ H2 c (P2 m)) kk b:=kb.to λx ys q=>s3 x _ q;have R8:=sh C9.rel.mu MX;have R9:=C9.kept MX;have Uk:=kF.keep R8 R9 (wc MX);have ka:=R9 a (kF.sub a U8);have d3:=d.re ka R8.tup;have Ul:=al.imp λu v L' s (p:Dp X.K H1 A1 m u v L')=>p.re R8 λb hb=>R9 b (kF.sub b (Vc _ (s b hb)));have hl:es.length=us.length:=by rw[al.length,Vd]
   refine⟨es,kk,b,d3,rfl,S_,by lia,λx hx=>?_,λhx ep=>?_⟩
   ·obtain⟨u',L2,y1,y2,y3⟩:=Uk.child d3 (by rw[ka];exact z) l Ul hx;rw[show e_ (es.map λp=>U.tup p.1) us (.tup kk)=some u' from y1,Yb] at f;refine f A1 _ L1 x L2 ?_ y3;show kS _ _ _ _ _ _ _ _ _ (F (.dct (j9 (iz es) (.tup kk)) (jM (iz es) us (.tup kk) u'))) _ _;rw[y2];exact C9.same MX
   ·have Ta:H1 c=none:=wc Qb c nc;obtain⟨L4,L2,y1,y3,z1,z2,g⟩:=At.new (H0:=H1) (c:=c) (u0:=Ag m) (ep:=ep) kF d hk.2 al C9.rel.mu (λb hb=>C9.inA hb) MX Ta S_ hx rfl (λH' e _=>Mb (by rw[e];exact bI));rw[show e_ (es.map λp=>U.tup p.1) us (.tup kk)=none from y1,YJ] at f;refine f _ _ L4 (.ref c) L2 (C9.put g (λb z=>.inl z) (λb nb ne=>?_) y3.nod z1 (λb hb=>?_) (λb hb=>?_) (λb z=>?_) y3.all rfl) y3
    ·have:b≠a:=λq=>nb (by rw[q];exact z1 a (kF.sub a U8));show (if b=a then _ else _)=_;rw[hU this];cases q:H1 b with
     |none=>exact absurd q ne
     |some o=>exact MX b o q
    ·rcases z2 b hb with y|y
     ·exact .inl y
     ·rw[y];exact .inr Ta
    ·exact (z2 b hb).imp (λy=>C9.inA y) id
    ·rcases z with z|z
     ·exact .inl z
     ·rw[z];exact .inr (y3.sub c y3.dp.self)
noncomputable def Mc (i:Nat)(gp:Ev->R (U×(U->U)))(g:Ev->R (U×Ev)):Ev->SR:=λρ=>SR.of (gp ρ) λx=>SR.of (g (ρ.set i none)) λy=>match x.1 with
 | .lst us=>if us.length<Vf then .nx (ρ.set i (some (x.2 (.lst (us++[y.1]))))) else .stk
 |_=>.stk
theorem Me (ho:PE X o (P0 X.K G i n 0 gp))(he:DE X G e false mk gk)(hn:mk≠.P:=by decide)
  (yJ:Y5 o "append" X.env (YD o X.env)=YD o X.env:=by rfl)
  (Gp:((XR cpos (Vx [e] X.env)).all (λx=> !x.1)&&(backToKw cpos (ZR [] X.env)).all (λx=>x.1.isSome)
   && decide ([e].length+([]:List Zz).length+(if ([]:List Zz).isEmpty then 0 else 1)<30))=true:=by rfl)
  (yK:(gj.endLine==cpos.line)=true:=by rfl) (hs:Vx [e] X.env=(false,YD e X.env)::Vx [] X.env:=by rfl) (sX:(XR cpos (Vx [] X.env)).any (·.1)=false:=by rfl)
  (hw:Zx (.Call (.Attribute o "append" gj) [e] [] cpos) none pos.line X.env=pure false:=by rfl) :
  DD X G i n (.Expr (.Call (.Attribute o "append" gj) [e] [] cpos) pos) (Mc i gp gk):=⟨(AA (IV Wi YZ Y0 nB ho (ae (p:=false) he ai (λh=>absurd h hn) hs).un yJ Gp yK hs sX) hw).to λD σ H h00=>by
 obtain⟨Z,A,ρ,u,v,L,hd,hu0,f⟩:=h00;obtain⟨⟨u1,F⟩,e1,f⟩:=f.of;obtain⟨⟨y,ρy⟩,e2,f⟩:=f.of;dsimp only at e2 f;refine⟨Z,A,ρ,u,v,L,hd,hu0,?_⟩;rw[e1];intro A1 H1 L1 v' L' C9 kF;obtain⟨a,us,xs,r1,r2,r3,q,l,r⟩:=id kF.dp;subst r1 r2 r3;dsimp only at f;split at f;rotate_left
 ·exact f.elim
 rename_i hl;refine⟨.inl ⟨rfl,xs,.inl (.inl q)⟩,Z.hx H1 L1,A1,ρ.set i none,C9.rel,?_⟩;unfold af;rw[e2];intro vs H2 q2 x2 s2 vf;have sm:=(s2 rfl).2;have rr:=vf.rps;unfold aK at rr;obtain⟨w,wr,rfl,rw1,rw2⟩:=rr;unfold aK at rw2;subst rw2;have Ku:=kF.keep (sh C9.rel.mu sm) (C9.kept sm) (wc sm);have Av:=C9.same sm;have Um:H2 a=some (.lst xs):=sm a _ q;have r2:=r.same sm;refine⟨a,xs,w,rfl,rfl,Um,by rw[←r.length];exact hl,?_⟩;have aA:A1 a:=Av.inA (Ku.sub a U8);have hb:∀b,b≠a->cQ H2 a (.lst (xs++[w])) b=H2 b:=λb nb=>by unfold cQ;rw[hU nb]
 have g:yS A1 A1 H2 (cQ H2 a (.lst (xs++[w]))):=⟨Av.rel.mu,λb o nb e=>by rw[hb b (λz=>nb (z▸aA))];exact e,λb z=>.inl z⟩;obtain⟨L4,d4,n4,z1,z3,z2⟩:=Ku.put _ A1 (.lst (us++[y])) [a] g (λb s9 nb=>hb b λz=>nb (by rw[z];exact U8))
  ⟨a,_,_,rfl,rfl,rfl,bI,by rw[Ve];exact hl,(r2.snoc rw1).re g.mu g.ex g.nw⟩ (Wb _ _) (λb hb=>hb) (λb hb=>.inl hb)
 have il:i<ρ.length:=by
  have:=Av.rel.len;rw[Wl] at this;rw[this];exact (Vg.mp Av.at_).1
 refine f A1 σ _ _ v L4 (Av.put g (λb z=>z) (λb nb ne=>hb b λz=>nb (z3 b (by rw[z];exact U8))) n4 z1 (λb s9=>?_) (λb s9=>?_) (λb z=>.inl z) d4 (List.set_set _)) (Xw il)
 ·rcases z2 b s9 with x|x
  ·rw[Vu] at x;rw[x];exact .inl (Ku.sub a U8)
  ·exact .inl x
 ·rcases z2 b s9 with x|x
  ·rw[Vu] at x;rw[x];exact aA
  ·exact Av.inA x⟩
end
end L2
namespace Hc.Ts
open PySem.W
noncomputable def jW:List (List Int)->List (List Int)->Bool
 | [],[]=>false
 | [],_::_=>true
 |_::_,[]=>false
 |x::xs,y::ys=>if x=y then jW xs ys else fb x y
theorem pd:∀a,jW a a=false
 | []=>rfl
 |x::xs=>by unfold jW;rw[hV rfl];exact pd xs
theorem su:∀a b c,jW a b=true->jW b c=true->jW a c=true
 | [],[],_,h,_=>by cases h
 | [],_::_,[],_,h=>by cases h
 | [],_::_,_::_,_,_=>rfl
 |_::_,[],_,h,_=>by cases h
 |_::_,_::_,[],_,h=>by cases h
 |x::xs,y::ys,z::zs,h1,h2=>by
  unfold jW at h1 h2 ⊢;by_cases e1:x=y
  ·subst e1;rw[hV rfl] at h1;by_cases e2:x=z
   ·subst e2;rw[hV rfl] at h2 ⊢;exact su xs ys zs h1 h2
   ·rw[hU e2] at h2 ⊢;exact h2
  ·rw[hU e1] at h1;by_cases e2:y=z
   ·subst e2;rw[hU e1];exact h1
   ·rw[hU e2] at h2;have h3:=lV x y z h1 h2;rw[hU (λe=>by subst e;rw[kh] at h3;cases h3)];exact h3
theorem ym:∀a b c,jW a c=true->jW a b=true\/jW b c=true
 | [],[],_::_,_=>.inr rfl
 | [],_::_,_::_,_=>.inl rfl
 | [],_,[],h=>by cases h
 |_::_,_,[],h=>by cases h
 |_::_,[],_::_,_=>.inr rfl
 |x::xs,y::ys,z::zs,h=>by
  unfold jW at h ⊢;by_cases e:x=z
  ·subst e;rw[hV rfl] at h;by_cases e2:x=y
   ·subst e2;rw[hV rfl,hV rfl];exact ym xs ys zs h
   ·rw[hU e2,hU (λq=>e2 q.symm)];cases c1:fb x y with
    |true=>exact .inl rfl
    |false=>
     cases c2:fb y x with
     |true=>exact .inr rfl
     |false=>exact absurd (iw x y c1 c2) e2
  ·rw[hU e] at h;by_cases e2:x=y
   ·subst e2;exact .inr (by rw[hU e];exact h)
   ·by_cases e3:y=z
    ·subst e3;exact .inl (by rw[hU e];exact h)
    ·rw[hU e2,hU e3];exact rX x y z h
theorem sv:∀a b,jW a b=false->jW b a=false->a=b
 | [],[],_,_=>rfl
 | [],_::_,h,_=>by cases h
 |_::_,[],_,h=>by cases h
 |x::xs,y::ys,h1,h2=>by
  unfold jW at h1 h2;by_cases e:x=y
  ·subst e;rw[hV rfl] at h1 h2;rw[sv xs ys h1 h2]
  ·rw[hU e] at h1;rw[hU (λq=>e q.symm)] at h2;exact absurd (iw x y h1 h2) e
noncomputable def Ah:aaC:=⟨List (List Int),jW,pd,su,ym,sv⟩
inductive kn (h:XI):List Va->List (List Int)->Prop
 |nil:kn h [] []
 |cons {t:Vr} {its:Array Va} {ns:List Int} {vs:List Va} {cS:List (List Int)}:h.IsTuple t its->Xh its.toList ns->kn h vs cS->kn h (.ref t::vs) (ns::cS)
theorem kn.keep (k:∀b o,h.get? b=some o->h'.get? b=some o){vs:List Va}(t:kn h vs cS):kn h' vs cS:=by
 induction t with
 |nil=>exact .nil
 |cons a i _ ih=>
  obtain⟨o,e,r⟩:=a;exact .cons ⟨o,k _ _ e,r⟩ i ih
theorem kn.length {vs:List Va}(t:kn h vs cS):vs.length=cS.length:=by
 induction t with
 |nil=>rfl
 |cons _ _ _ ih=>rw[Vi,Vi,ih]
def lX (h:XI)(a:Vr)(cS:List (List Int)):Prop:=∃its,h.IsTuple a its/\kn h its.toList cS
theorem lX.keep (k:∀b o,h.get? b=some o->h'.get? b=some o)(t:lX h a cS):lX h' a cS:=by
 obtain⟨its,⟨o,e,r⟩,t⟩:=t;exact⟨its,⟨o,k _ _ e,r⟩,t.keep k⟩
section
variable {A:VR}{fin:Bool}{Q:Bool->Vo->Prop}
theorem yn (hu:A.units<W9):∀{xs ys:List Va} {ns ms:List (List Int)} {i:Nat},kn s.heap xs ns->kn s.heap ys ms->fin=decide (ns.length<ms.length)->Q (jW ns ms) s->KatLex prog w A false fin Q (xs.zip ys) i s
 |_,_,_,_,i,.nil,.nil,hf,h=>by subst hf;exact kat_nil h
 |_,_,_,_,i,.nil,.cons a1 a2 r,hf,h=>by subst hf;exact kat_nil (by rw[show decide (([]:List (List Int)).length<(_::_).length)=true from hG (by simp)];exact h)
 |_,_,_,_,i,.cons a1 a2 r,.nil,hf,h=>by subst hf;exact kat_nil (by rw[show decide ((_::_).length<([]:List (List Int)).length)=false from hJ (by simp)];exact h)
 |_,_,_,_,i,.cons (ns:=n) a1 a2 r,.cons (ns:=m) c1 c2 q,hf,h=>by
  refine kat_cons (wpAny_eqBool_tuple (knd:=aaj prog w) hu (OD a1 a2) (OD c1 c2) ?_);unfold jW at h;by_cases e:n=m
  ·rw[hV e] at h;rw[hG e];refine kat_yes (yn hu r q ?_ h);rw[hf];simp
  ·rw[hU e] at h;rw[hJ e];refine kat_no (kat_one _ _ (HT.lt_tupInts a1 c1 a2 c2 hu ?_));rw[yj];exact h
theorem F5 {h0:XI}{bs:List Vr}{kf:Vr->List (List Int)}(hu:A.units<W9)(at_:∀a∈bs,lX h0 a (kf a))(keep:∀b o,h0.get? b=some o->s.heap.get? b=some o)
  {key:VA->List (List Int)} (Pt:∀x:VA,∀a∈bs,x.1=.ref a->key x=kf a):ly (VE prog w) A E s Ah key (tuples' false) (λx=>∃a∈bs,x.1=.ref a) where
 lt:=λx y st Q dx dy kd q=>by
  obtain⟨a,ha,e1⟩:=dx;obtain⟨c,hc,e2⟩:=dy;rw[Pt x a ha e1,Pt y c hc e2] at q;obtain⟨i1,t1,u1⟩:=(at_ a ha).keep keep;obtain⟨i2,t2,u2⟩:=(at_ c hc).keep keep;rw[lt'_eq];refine Vn (aap ?_);rw[kd,e1,e2];obtain⟨o1,g1,_,n1,d1⟩:=t1;obtain⟨o2,g2,_,n2,d2⟩:=t2;refine Vn (wpS_lift (X9 (kat_lt g1 d1 g2 d2 (yn hu u1 u2 ?_ ⟨rfl,?_⟩))))
  ·rw[←u1.length,←u2.length,U9,U9]
  ·exact Vt q
theorem C0 {bs:List Vr}{Q:YQ->Vo->Prop}(h2:2<=bs.length)(at_:∀a∈bs,∃cS,lX s.heap a cS/\cS≠[])(q:Q (tuples' false) s):Vs (VE prog w) A (keyKind' (bs.map Value.ref).toArray) Q E s:=by
 have kt:∀l:List Vr,(∀a∈l,∃cS,lX s.heap a cS/\cS≠[])->∃fs,KatTups s.heap (l.map Value.ref) fs/\fs.length=l.length/\∀f∈fs,∃t its,f=.ref t/\s.heap.IsTuple t its:=by
  intro l
  induction l with
  |nil=>exact λ_=>⟨[],.nil,rfl,λf hf=>by cases hf⟩
  |cons a l ih=>
   intro h;obtain⟨fs,k1,k2,k3⟩:=ih λc hc=>h c (Vc _ hc);obtain⟨cS,⟨its,⟨o,e,c,n,d⟩,tj⟩,ne⟩:=h a U8;have:∃t i2 r,its.toList=.ref t::r/\s.heap.IsTuple t i2:=by
    generalize its.toList=l at tj;cases tj with
    |nil=>exact absurd rfl ne
    |cons v _ _=>exact⟨_,_,_,rfl,v⟩
   obtain⟨t,i2,r,el,v⟩:=this;refine⟨.ref t::fs,.cons e c d (by rw[←Vq,el];rfl) k1,by rw[Vi,Vi,k2],λf hf=>?_⟩;rcases Vk.mp hf with rfl|hf
   ·exact⟨t,i2,rfl,v⟩
   ·exact k3 f hf
 obtain⟨fs,k1,k2,k3⟩:=kt bs at_;refine kat_kind (T:=.type "tuple") k1 (by lia) (λv hv=>?_) (by decide) q;obtain⟨t,its,rfl,o,e,c,_⟩:=k3 v hv;rw[←c];exact (Looks.ld e).andThen .now
end
end Hc.Ts
namespace L2
open Hc.Dw Hc.Ts
section
variable (O:aaC)
noncomputable def C1 (x:O.α):List O.α->List O.α
 | []=>[x]
 |y::r=>if O.blt y x=true then y::C1 x r else x::y::r
noncomputable def BK (l:List O.α):List O.α:=l.foldr (C1 O) []
def OJ (l:List O.α):Prop:=l.Pairwise λx y=>O.blt y x=false
variable {O}
theorem n9 (x:O.α):∀l,(C1 O x l).Perm (x::l)
 | []=>.refl _
 |y::r=>by
  unfold C1;split
  ·exact ((n9 x r).cons y).trans (.swap x y r)
  ·exact .refl _
theorem sC:∀l,(BK O l).Perm l
 | []=>.refl _
 |x::l=>(n9 x _).trans ((sC l).cons x)
theorem BL (x:O.α):∀{l},OJ O l->OJ O (C1 O x l)
 | [],_=>Wb _ _
 |y::r,h=>by
  obtain⟨h1,h2⟩:=V6.mp h;unfold C1;split
  ·rename_i c;refine V6.mpr ⟨λz hz=>?_,BL x h2⟩;rcases Vk.mp ((n9 x r).mem_iff.mp hz) with rfl|hz
   ·exact KeyOrd.klt_asymm (O:=O) c
   ·exact h1 z hz
  ·rename_i c;have c:O.blt y x=false:=by simpa using c
   refine V6.mpr ⟨λz hz=>?_,h⟩;rcases Vk.mp hz with rfl|hz
   ·exact c
   ·exact VI (O:=O) (a:=x) (b:=y) (c:=z) c (h1 z hz)
theorem yo:∀l,OJ O (BK O l)
 | []=>List.Pairwise.nil
 |x::l=>BL x (yo l)
theorem yp:∀{l m:List O.α},l.Perm m->OJ O l->OJ O m->l=m
 | [],m,p,_,_=>(List.nil_perm.mp p).symm
 |x::l,[],p,_,_=>absurd p.length_eq (by simp)
 |x::l,y::m,p,h1,h2=>by
  obtain⟨a1,a2⟩:=V6.mp h1;obtain⟨b1,b2⟩:=V6.mp h2;have e:x=y:=by
   have hx:x∈y::m:=p.mem_iff.mp U8;have hy:y∈x::l:=p.mem_iff.mpr U8;rcases Vk.mp hx with rfl|hx
   ·rfl
   ·rcases Vk.mp hy with rfl|hy
    ·rfl
    ·exact O.total x y (b1 x hx) (a1 y hy)
  subst e;rw[yp (p.cons_inv) a2 b2]
end
noncomputable def Q7:V->Vr
 | .ref a=>a
 |_=>0
noncomputable def mW (H:Hp)(b:Vr):List (List Int):=match H b with
 |some (.tup xs)=>xs.map λx=>cf H (Q7 x)
 |_=>[]
def yq (H:Hp)(b:Vr)(cS:List (List Int)):Prop:=∃ts:List Vr,H b=some (.tup (ts.map V.ref))/\ts.map (cf H)=cS/\∀t∈ts,H t=some (.tup ((cf H t).map V.int))
theorem Ir (h:yq H b cS):mW H b=cS:=by
 obtain⟨ts,h1,h2,_⟩:=h;unfold mW;rw[h1];dsimp only;rw[←h2,W0];rfl
theorem u7 (I:aI X pins σ H s)(h:yq H b cS):lX s.heap b cS:=by
 obtain⟨ts,h1,h2,h3⟩:=h;obtain⟨y1,its,rv,it,y2⟩:=I.hok b _ h1;refine⟨its.toArray,it,?_⟩;have e:=fR rv;subst e h2;clear rv it h1 y1 y2;rw[List.toList_toArray]
 induction ts with
 |nil=>exact .nil
 |cons t ts ih=>
  obtain⟨_,its2,rv2,it2,_⟩:=I.hok t _ (h3 t U8);exact .cons it2 (by simpa using de rv2) (ih λt ht=>h3 t (Vc _ ht))
def Ai (K:U7):List V->Hp->VK->Prop:=λxs H Q=>∃(p:Vr) (bs:List Vr),xs=[.ref p]/\CN K H p bs/\bs.length<=1000000/\(2<=bs.length->∀b∈bs,yq H b (mW H b)/\mW H b≠[])/\
  ∀(l:Vr) (gU:List Vr),H l=none->gU.Perm bs->gU.Pairwise (λx y=>jW (mW H y) (mW H x)=false)->Q (.ref l) (cQ H l (.lst (gU.map V.ref)))
theorem Iu (hc:X.calm=true)(I:aI X pins σ H s){bs:List Vr}(Di:CN X.K H p bs)(yO:bs.length<=Vf)(Q:List Va->Vo->Prop)(E:Va->Vo->Prop)(hq:∀h1 tk (jc:List Vr),jc.Perm bs->(∀b o,s.heap.get? b=some o->h1.get? b=some o)->Q (jc.map Value.ref) {s with heap:=h1,toks:=tk}):Vs (VE X.prog X.w) X.A.in1 (collect (.ref p)) Q E s:=by
 rcases Di with hs|hs|⟨ep,es,hs,rfl⟩
 ·obtain⟨its,rv,pl,_⟩:=I.list hs;obtain⟨o,e,c,n,d⟩:=pl.isList;have e2:=fR rv;subst e2;exact Yx p (.inl rfl) e c d (λh1 k1=>by simpa using hq h1 s.toks bs (Wz _) k1) (by rw[U_,Vd];exact yO)
 ·obtain⟨its,rv,pl,_⟩:=I.tuple hs;obtain⟨o,e,c,n,d⟩:=pl;have e2:=fR rv;subst e2;exact Yx p (.inr rfl) e c d (λh1 k1=>by simpa using hq h1 s.toks bs (Wz _) k1) (by rw[U_,Vd];exact yO)
 ·obtain⟨lo,ds,rd,n,at_⟩:=I.rawD hs;refine ki (A:=X.A.in1) (Ov lo) (I.ok.hd hc) rd (by rw[n];rw[Vd] at yO;exact yO) λh1 tk cv k1 ia=>?_;have e:cv.toList=(es.map (·.2.1)).map Value.ref:=by
   apply X2;intro i;rw[Vq,W0,VL];by_cases hi:i<cv.size
   ·rw[getElem?_pos cv i hi];obtain⟨en,e1,e2⟩:=ia.2 i _ (getElem?_pos cv i hi);have wO:i<ds.size:=by rw[←ia.1];exact hi
    rw[getElem?_pos ds i wO] at e1;cases e1;obtain⟨x,m,ek,_⟩:=at_ i wO;rw[m,e2,ek];rfl
   ·rw[getElem?_neg cv i hi,Yr (by rw[←n,←ia.1];lia)];rfl
  rw[e];exact hq h1 tk _ (Wz _) k1
theorem Aj (hc:X.calm=true)(hu:X.A.units+64<W9):eH X (.builtin "sorted") (Ai X.K):=by
 intro pins s σ H xs us Q I r h;obtain⟨p,bs,rfl,Di,hz,tu,q⟩:=h;obtain⟨u,rfl,rx⟩:=ig r;cases rx;have yO:bs.length<=Vf:=by rw[W8];lia
 refine r6 (O:=Ah) (mW H) (tuples' false) I hz hu (λA E jc s6 Q6 B0 h2 k6 q6=>?_) (λh2 A E s6 hA k6=>?_) (λQ E hq=>Iu hc I Di yO Q E hq) q
 ·refine C0 h2 (λa ha=>?_) q6;have:=tu (by rw[←B0.length_eq];exact h2) a (B0.mem_iff.mp ha);exact⟨_,(u7 I this.1).keep k6,this.2⟩
 ·exact F5 (h0:=s.heap) (kf:=mW H) hA (λa ha=>u7 I (tu h2 a ha).1) k6 (λx a _ e=>by rw[e];rfl)
noncomputable def Iv (cS:List (List Int)):U:=.tup (cS.map aJ)
noncomputable def J8:U->Option (List Int)
 | .tup xs=>ik xs
 |_=>none
noncomputable def sD:List U->Option (List (List Int))
 | []=>some []
 |u::us=>match J8 u,sD us with
  |some ns,some cS=>some (ns::cS)
  |_,_=>none
noncomputable def Mf:U->Option (List (List Int))
 | .tup (x::xs)=>sD (x::xs)
 |_=>none
noncomputable def yr:List U->Option (List (List (List Int)))
 | []=>some []
 |u::us=>match Mf u,yr us with
  |some ns,some cS=>some (ns::cS)
  |_,_=>none
theorem u9:∀{us:List U} {cS:List (List Int)},sD us=some cS->us=cS.map aJ
 | [],cS,h=>by unfold sD at h;cases h;rfl
 |u::us,cS,h=>by
  unfold sD at h;split at h
  ·rename_i ns r e1 e2;cases h;rw[Vp,←u9 e2];unfold J8 at e1;split at e1
   ·rw[gL e1];rfl
   ·cases e1
  ·cases h
theorem Iw (h:Mf u=some cS):u=Iv cS/\cS≠[]:=by
 unfold Mf at h;split at h
 ·rename_i x xs;have e:=u9 h;refine⟨by unfold Iv;rw[←e],λz=>by subst z;cases e⟩
 ·cases h
theorem sE:∀{us:List U} {cS:List (List (List Int))},yr us=some cS->us=cS.map Iv/\∀ns∈cS,ns≠[]
 | [],cS,h=>by unfold yr at h;cases h;exact⟨rfl,λz hz=>by cases hz⟩
 |u::us,cS,h=>by
  unfold yr at h;split at h
  ·rename_i ns r e1 e2;cases h;obtain⟨e3,n3⟩:=Iw e1;obtain⟨e4,n4⟩:=sE e2;refine⟨by rw[Vp,←e3,←e4],λz hz=>?_⟩;rcases Vk.mp hz with rfl|hz
   ·exact n3
   ·exact n4 z hz
  ·cases h
noncomputable def jE (us:List U):R U:=if us.length<2/\us.all Ez=true then .ok (.lst us) else match yr us with
 |some cS=>if cS.length<=1000000 then .ok (.lst ((BK Ah cS).map Iv)) else .stk
 |none=>.stk
noncomputable def n_:List U->R U:=λus=>match us with
 | [.lst xs]=>jE xs
 | [.tup xs]=>jE xs
 | [.dct ks _]=>if Ot ks=true then jE ks else .stk
 |_=>.stk
theorem OL {ns:List (List Int)}(h:Rp K H A (Iv ns) v):∃b,v=.ref b/\yq H b ns:=by
 unfold Iv Rp at h;obtain⟨b,ys,e,q,l,r⟩:=h;obtain⟨ts,rfl,e2,z⟩:=jk r;exact⟨b,e,ts,q,e2,λt ht=>(z t ht).1⟩
theorem wd {A:Vr->Prop}:∀{cS:List (List (List Int))} {xs:List V},aK K H A (cS.map Iv) xs->∃bs:List Vr,xs=bs.map V.ref/\bs.map (mW H)=cS/\∀b∈bs,yq H b (mW H b)/\Rp K H A (Iv (mW H b)) (.ref b)
 | [],xs,h=>by rw[Xg] at h;unfold aK at h;subst h;exact⟨[],rfl,rfl,λb hb=>by cases hb⟩
 |ns::cS,xs,h=>by
  rw[Vp] at h;unfold aK at h;obtain⟨x,r,rfl,h1,h2⟩:=h;obtain⟨b,rfl,q⟩:=OL h1;obtain⟨bs,rfl,e,z⟩:=wd h2;have k:=Ir q;refine⟨b::bs,rfl,by rw[Vp,e,k],λc hc=>?_⟩;rcases Vk.mp hc with rfl|hc
  ·rw[k];exact⟨q,h1⟩
  ·exact z c hc
theorem yt {A:Vr->Prop}:∀{us:List U} {xs:List V},us.all Ez=true->aK K H A us xs->∃bs:List Vr,xs=bs.map V.ref
 | [],xs,_,h=>by unfold aK at h;subst h;exact⟨[],rfl⟩
 |u::us,xs,c,h=>by
  rw[Y8,Vw] at c;unfold aK at h;obtain⟨x,r,rfl,h1,h2⟩:=h;obtain⟨bs,rfl⟩:=yt c.2 h2;have c1:=c.1;cases u<;>first|(cases c1;done)|skip
  unfold Rp at h1;obtain⟨a,_,rfl,_⟩:=h1;exact⟨a::bs,rfl⟩
theorem J9 (h:n<=1000000):n<=Vf:=by rw[W8];lia
theorem Iy {bs cs:List Vr}(h:bs.map V.ref=cs.map V.ref):bs=cs:=(List.map_inj_right λ_ _ h=>by cases h;rfl).mp h
theorem sF {xs:List U}{z:U}(e:jE xs=.ok z)(r:aK K H A xs vs):∃bs:List Vr,vs=bs.map V.ref:=by
 unfold jE at e;split at e
 ·rename_i c;exact yt c.2 r
 ·split at e
  ·rename_i cS e1;rw[(sE e1).1] at r;obtain⟨bs,e2,_⟩:=wd r;exact⟨bs,e2⟩
  ·cases e
theorem C2:j3 K (Ai K) .O n_:=λA H vs us z Q h mu e q=>by
 have fin:∀(xs:List U) (p:Vr) (bs:List Vr),jE xs=.ok z->aK K H A xs (bs.map V.ref)->CN K H p bs->Ai K [.ref p] H Q:=by
  intro xs p bs e r Di;have rl:xs.length=bs.length:=by have:=r.length;rwa [Vd] at this
  unfold jE at e;split at e
  ·rename_i c;cases e;refine⟨p,bs,rfl,Di,by lia,λh2=>absurd h2 (by lia),λl gU hn hp hw=>?_⟩;have e7:gU=bs:=by
    have hl:=hp.length_eq
    match bs,gU,hp,hl with
    | [],[],_,_=>rfl
    | [a],[b],hp,_=>exact List.perm_singleton.mp hp
    |_::_::_,_,_,_=>simp at rl;lia
   subst e7;exact q _ _ (cN hn _) ⟨l,rfl,hn,bC mu r hn (J9 (by lia))⟩
  ·split at e
   ·rename_i cS e1;split at e
    ·rename_i hz;cases e;obtain⟨e2,ne⟩:=sE e1;subst e2;obtain⟨jc,e3,e4,e5⟩:=wd r;have e6:=Iy e3;subst e6;have n1:bs.length=cS.length:=by rw[←e4,Vd]
     refine⟨p,bs,rfl,Di,by lia,λ_ b hb=>⟨(e5 b hb).1,ne _ (by rw[←e4];exact Xv hb)⟩,λl gU hn hp hw=>?_⟩;have e7:gU.map (mW H)=BK Ah cS:=yp (O:=Ah) ((hp.map (mW H)).trans (by rw[e4];exact (sC (O:=Ah) cS).symm)) (Xb.mpr hw) (yo (O:=Ah) cS);refine q _ _ (cN hn _) ⟨l,rfl,hn,?_⟩;rw[←e7];refine bC mu ?_ hn (J9 (by rw[Vd,Vd,hp.length_eq];lia));have all:∀b∈gU,Rp K H A (Iv (mW H b)) (.ref b):=λb hb=>(e5 b (hp.mem_iff.mp hb)).2;clear hw e7 hp
     induction gU with
     |nil=>exact aK.nil
     |cons b gU ih=>exact aK.cons (all b U8) (ih λc hc=>all c (Vc _ hc))
    ·cases e
   ·cases e
 unfold n_ at e;split at e
 ·obtain⟨v,rfl,p⟩:=h.one;unfold Pk at p;obtain⟨a,ys,rfl,h1,l1,r1⟩:=p;obtain⟨bs,rfl⟩:=sF e r1;exact fin _ a bs e r1 (.inl (fH.of h1))
 ·obtain⟨v,rfl,p⟩:=h.one;unfold Pk at p;obtain⟨a,ys,rfl,h1,l1,r1⟩:=p;obtain⟨bs,rfl⟩:=sF e r1;exact fin _ a bs e r1 (.inr (.inl (fK.of h1)))
 ·rename_i ks ws;split at e
  ·rename_i c;obtain⟨v,rfl,p⟩:=h.one;unfold Pk at p;obtain⟨a,ys,rfl,h1,l1,r1⟩:=p;obtain⟨es,ep,q1,kt,e1,e2⟩:=FG c h1;refine fin ks a (es.map (·.2.1)) e ?_ (.inr (.inr ⟨ep,es,q1,rfl⟩));subst e1;clear e fin e2 r1 h1 c q1 h
   induction es with
   |nil=>exact aK.nil
   |cons x es ih=>exact aK.cons (JV (kt x U8)) (ih λy hy=>kt y (Vc _ hy))
  ·cases e
 ·cases e
end L2
namespace L2
open Hc.Dw Hc.Ts
noncomputable def sG:Int->List Int->Int
 |m,[]=>m
 |m,n::ns=>sG (if n<m then n else m) ns
theorem BM:∀(ns:List Int) (m:Int),sG m ns<=m/\(∀a∈ns,sG m ns<=a)/\(sG m ns=m\/sG m ns∈ns)
 | [],m=>⟨Int.le_refl _,(λa h=>by cases h),.inl rfl⟩
 |n::ns,m=>by
  obtain⟨h1,h2,h3⟩:=BM ns (if n<m then n else m);unfold sG;by_cases c:n<m
  ·rw[hV c] at h1 h2 h3 ⊢;refine⟨by lia,λa ha=>?_,.inr ?_⟩
   ·rcases Vk.mp ha with rfl|ha
    ·exact h1
    ·exact h2 a ha
   ·rcases h3 with h3|h3
    ·rw[h3];exact U8
    ·exact Vc _ h3
  ·rw[hU c] at h1 h2 h3 ⊢;refine⟨h1,λa ha=>?_,h3.imp id λz=>Vc _ z⟩;rcases Vk.mp ha with rfl|ha
   ·lia
   ·exact h2 a ha
def J_ (K:U7):List V->Hp->VK->Prop:=λxs H Q=>∃p n0 ns,xs=[.ref p]/\fK K H p ((n0::ns).map V.int)/\Q (.int (sG n0 ns)) H
theorem sH:∀{vs:List Va} {ns:List Int},Xh vs ns->∀(i:Nat) (v:Va),vs[i]? = some v->∃t,v=.int (ns.getD i 0) t
 |_,_,.nil,i,v,h=>by simp at h
 |_,_,.cons n t r,i,v,h=>by
  cases i with
  |zero=>simp at h;exact⟨t,by rw[←h];rfl⟩
  |succ i=>
   obtain⟨t',e⟩:=sH r i v (by simpa using h);exact⟨t',by rw[e];simp[YF]⟩
theorem C3 (hc:X.calm=true):eH X (.builtin "min") (J_ X.K):=by
 intro pins s σ H xs us Q I r h;obtain⟨p,n0,ns,rfl,hs,q⟩:=h;obtain⟨u,rfl,rx⟩:=ig r;cases rx;obtain⟨its,rv,pl,_⟩:=I.tuple hs;have hI:=de rv;have sz:its.toArray.size=ns.length+1:=by rw[U_,hI.length];rfl
 have pt:s.heap.IsTuple p its.toArray:=pl;have lp:p<s.heap.objs.size:=by obtain⟨o,e,_⟩:=pt;exact Vl e
 refine call_min_walk (Y2 pt ?_);refine⟨s.heap.objs.size,[s.heap.objs.size,p],[s.heap.objs.size],its.toArray.size,_,_,λi j=>decide ((n0::ns).getD i 0<(n0::ns).getD j 0),rfl,Walks.tuple (A:=X.A.in1) (show X.A.in1.handled=none from I.ok.hd hc) _ p (VB lp) its.toArray,?_,?_,by rw[sz];lia,?_,?_⟩
 ·obtain⟨o,e,z⟩:=pt;exact⟨⟨_,Vj _ rfl,rfl,rfl⟩,o,U5 _ e,z⟩
 ·intro b hb;rw[Wo];simp only[Vk,W2,or_false] at hb;rcases hb with rfl|rfl
  ·exact YK _
  ·exact Xa lp
 ·exact CmpOf.ints_lt (λi=>(n0::ns).getD i 0) λi v hv=>sH hI i v (by simpa using hv)
 ·intro v h' tk hv kp;obtain⟨t,rfl⟩:=sH hI (argBest (λi j=>decide ((n0::ns).getD i 0<(n0::ns).getD j 0)) (its.toArray.size-1)) v (by rw[←List.getElem?_toArray];exact hv);have k:∀b o,s.heap.get? b=some o->h'.get? b=some o:=λb o e=>kp b o (by
   rw[Vu];exact VB (Vl e)) (U5 _ e)
  obtain⟨b1,b2⟩:=argBest_lt (λi=>(n0::ns).getD i 0) (its.toArray.size-1);have e:(n0::ns).getD (argBest (λi j=>decide ((n0::ns).getD i 0<(n0::ns).getD j 0)) (its.toArray.size-1)) 0=sG n0 ns:=by
   generalize hk:argBest (λi j=>decide ((n0::ns).getD i 0<(n0::ns).getD j 0)) (its.toArray.size-1)=k at b1 b2;rw[sz] at b1 b2;have Pm:k<(n0::ns).length:=by rw[Vi];lia
   obtain⟨m1,m2,m3⟩:=BM ns n0;have get:∀a∈n0::ns,(n0::ns).getD k 0<=a:=λa ha=>by
    obtain⟨j,hj⟩:=List.getElem?_of_mem ha;have Uo:=(Vg.mp hj).1;rw[Vi] at Uo;have:=b2 j (by lia);have e:(n0::ns).getD j 0=a:=by rw[W6,hj];rfl
    rw[e] at this;exact this
   have mem:(n0::ns).getD k 0∈n0::ns:=by
    rw[W6,U4 Pm];exact VS Pm
   have g1:(n0::ns).getD k 0<=sG n0 ns:=by
    rcases m3 with m3|m3
    ·rw[m3];exact get _ U8
    ·exact get _ (Vc _ m3)
   have g2:sG n0 ns<=(n0::ns).getD k 0:=by
    rcases Vk.mp mem with e|e
    ·rw[e];exact m1
    ·exact m2 _ e
   lia
  rw[e];exact⟨.int _,H,I.kept (t':=tk) k,⟨t,rfl⟩,q⟩
noncomputable def BN:List U->R U:=λus=>match us with
 | [.tup xs]=>match ik xs with
  |some (n::ns)=>.ok (.int (sG n ns))
  |_=>.stk
 |_=>.stk
theorem F6:j3 K (J_ K) .S BN:=λA H vs us z Q h mu e q=>by
 unfold BN at e;split at e
 ·rename_i xs;split at e
  ·rename_i n ns hb;cases e;obtain⟨v,rfl,p⟩:=h.one;unfold Pk at p;obtain⟨a,ys,rfl,h1,l1,r1⟩:=p;rw[gL hb] at r1;rw[r1.toI] at h1;exact⟨a,n,ns,rfl,fK.of h1,q _ H (aT.refl _) (show Rp K H A _ _ from dN)⟩
  ·cases e
 ·cases e
end L2
noncomputable section
namespace Hc
open PySem L2
noncomputable abbrev yu:Gm:=⟨[false,false,false,true,false,false,false,false],false,λ_=>False⟩
noncomputable def we:Ev->SR:=(qV 3 (ag 7) (ag 6))
noncomputable def wg:Ev->SR:=(iR (CJ (af (ag 4) (af (aG bS (ag 1) (ag 5)) ar))) (cU 2 (aE (bJ 6) (aE (bJ 7) cT)))
 we)
noncomputable def pf:Ev->SR:=(aF (aZ 3 (qW (af (ag 0) ar)))
 (aF (iR (CJ (af (ag 1) (af (ag 2) ar))) (cU 2 (aE (bJ 4) (aE (bJ 5) cT)))
 wg)
 (bo (gz ij (af (ag 3) ar)))))
noncomputable def ko:List U->R U:=dE .S 8 pf
noncomputable abbrev kq:Gm:=⟨[false,true,false,false],false,λ_=>False⟩
noncomputable def fx:Nat->Ev->SR
 |0=>λ_=>.stk
 |n+1=>let r_arrangements:=dE .O 4 (fx n)
  (aF (jT (gB (aG (iS id) (gz gK (af (ag 0) ar)) (gC (.int 0)))) (bo (bX (af (aL ar) ar))) bu)
 (aF (aZ 1 (bX ar))
 (aF (iR (bZ (ag 0)) (bJ 2)
 (aF (aZ 3 (dO (bZ (ag 0)) [none,some 2] (bJ 0) (gB (aG (iS not) (ag 0) (ag 1))) (ag 0)))
 (lj (gM "list" 1 kO (af (dO (bZ (eQ 1 r_arrangements (af (ag 3) ar))) [none,some 2] (bJ 0) fO (aG fu (aL (af (ag 1) ar)) (ag 0))) ar)))))
 (bo (ag 1)))))
noncomputable def iA (n:Nat):List U->R U:=dE .O 4 (fx n)
noncomputable abbrev Ak:Gm:=⟨[false,false],false,λ_=>False⟩
noncomputable def sI:Ev->SR:=(aF (jT (gB (aG Hy (gz gK (af (ag 1) ar)) (gC (.int 4)))) (λ_=>.exc "TooMany" .non) bu)
 (bo (gz ij (af (dO (bZ (eQ 1 (iA 6) (af (qW (af (gz gK (af (ag 1) ar)) ar)) ar))) [none,some 0,some 1] (bJ 0) fO (eQ 3 ko (af (ag 1) (af (ag 2) (af (ag 0) ar))))) ar))))
noncomputable def lY:List U->R U:=dE .S 2 sI
noncomputable abbrev C4:Gm:=⟨[false],false,λ_=>False⟩
noncomputable def u_:Ev->SR:=(bo (aL (af (aG dP (gC (.int 2)) (ag 0)) (af (aG fu (aG dP (gC (.int 2)) (ag 0)) (gC (.int 1))) ar))))
noncomputable def jl:List U->R U:=dE .S 1 u_
noncomputable abbrev F7:Gm:=⟨[false],false,λ_=>False⟩
noncomputable def yv:Ev->SR:=(bo (aL (af (aG bS (ag 0) (gC (.int 1))) (af (aG bS (ag 0) (gC (.int 0))) ar))))
noncomputable def sJ:List U->R U:=dE .S 1 yv
noncomputable abbrev yw:Gm:=⟨[false,false,true,false],false,λ_=>False⟩
noncomputable def wj:Ev->SR:=(lj (gM "list" 2 kO (af (ag 3) ar)))
noncomputable def ph:Ev->SR:=(aF (aZ 2 (bX ar))
 (aF (iR (bZ (ag 1)) (bJ 3)
 wj)
 (tP 2 (bo (aL (af (gC (.str "end")) (af (gz ij (af (aG fu (ag 2) (dO (lq (af (ag 0) ar)) [none,some 2] (bJ 0) (gB (aG (L9 not) (ag 0) (ag 1))) (ag 0))) ar)) ar)))))))
noncomputable def iX:List U->R U:=dE .S 4 ph
noncomputable abbrev og:Gm:=⟨[false,false,false],false,λ_=>False⟩
noncomputable def jn:Ev->SR:=(bo (aL (af (gC (.str "mix")) (af (eQ 2 lY (af (ag 0) (af (ag 1) ar))) (af (aL (af (gC (.str "look")) (af (aL (af (aG bS (aG bS (ag 1) (gC (.int 0))) (gC (.int 0))) ar)) (af (aL (af (aL (af (aL (af (gC (.int 0)) ar)) (af (aG bS (ag 2) (gC (.int 0))) ar))) (af (aL (af (aL (af (gC (.int 1)) ar)) (af (aG bS (ag 2) (gC (.int 1))) ar))) ar))) ar)))) ar)))))
noncomputable def fS:List U->R U:=dE .S 3 jn
noncomputable abbrev Al:Gm:=⟨[false,false,false],false,λ_=>False⟩
noncomputable def sL:Ev->SR:=(bo (aL (af (aG fu (aL (af (aG bS (ag 0) (gC (.int 0))) ar)) (ag 1)) (af (aG fu (aL (af (aG bS (ag 0) (gC (.int 1))) ar)) (ag 2)) ar))))
noncomputable def lZ:List U->R U:=dE .S 3 sL
noncomputable abbrev Iz:Gm:=⟨[false,false,false,false,false,false,false,false],false,λ_=>False⟩
noncomputable def BO:Ev->SR:=(aF (aZ 4 (eQ 1 jl (af (ag 1) ar)))
 (aF (aZ 5 (eQ 1 jl (af (ag 3) ar)))
 (aF (aZ 6 (eQ 1 jl (af (ag 2) ar)))
 (aF (aZ 7 (aL (af (eQ 2 iX (af (ag 0) (af (aL (af (ag 5) (af (ag 4) (af (ag 6) ar)))) ar))) (af (eQ 2 iX (af (ag 0) (af (aL (af (ag 6) (af (eQ 1 sJ (af (ag 4) ar)) (af (ag 5) ar)))) ar))) ar))))
 (bo (eQ 3 fS (af (ag 0) (af (eQ 3 lZ (af (ag 4) (af (ag 5) (af (ag 6) ar)))) (af (ag 7) ar)))))))))
noncomputable def iY:List U->R U:=dE .S 8 BO
noncomputable abbrev sM:Gm:=⟨[false,false],false,λ_=>False⟩
noncomputable def fy:Ev->SR:=(aF (jT (gB (aG NK (ag 1) (gz gK (af (ag 0) ar)))) (bo (aG bS (ag 0) (ag 1))) bu)
 (bo (gC (.int 0))))
noncomputable def cW:List U->R U:=dE .S 2 fy
noncomputable abbrev wm:Gm:=⟨[false,false,false],false,λ_=>False⟩
noncomputable def gO:Ev->SR:=(aF (aZ 2 (eQ 2 cW (af (ag 0) (af (ag 1) ar))))
 (aF (jT (gB (aG QO (ag 2) (aG Hx (gC (.int 10)) (gC (.int 18))))) (bo (bX (af (aG xw (ag 2) (aG Hx (gC (.int 10)) (gC (.int 18)))) (af (gC (.bl true)) ar)))) bu)
 (bo (bX (af (aG vz (ag 2) (gC (.int 2147483647))) (af (gC (.bl false)) ar))))))
noncomputable def di:List U->R U:=dE .O 3 gO
noncomputable abbrev yx:Gm:=⟨[true,false,false,false],true,λ_=>False⟩
noncomputable def iZ:Ev->SR:=(aF (jT (gB (aG bS (ag 0) (gC (.int 1)))) (aF (aZ 2 (aG vz (aG bS (ag 0) (gC (.int 0))) (ag 1)))
 (aF (qV 0 (aG oE (aG bS (ag 0) (gC (.int 0))) (ag 1)) (gC (.int 0)))
 (bo (ag 2)))) bu)
 (aF (qV 0 (aG vz (aG fu (aG dP (aG bS (ag 0) (gC (.int 0))) (gC (.int 48271))) (gC (.int 29))) (gC (.int 2147483647))) (gC (.int 0)))
 (aF (aZ 3 (aG vz (aG fu (aG fu (aG dP (aG bS (ag 0) (gC (.int 0))) (aG bS (ag 0) (gC (.int 0)))) (aG dP (gC (.int 39373)) (aG bS (ag 0) (gC (.int 0))))) (gC (.int 7))) (gC (.int 2147483629))))
 (aF (aZ 3 (aG vz (aG fu (aG dP (ag 3) (ag 3)) (aG dP (gC (.int 16807)) (ag 3))) (gC (.int 2147483587))))
 (bo (aG vz (aG oE (ag 3) (gC (.int 8))) (ag 1)))))))
noncomputable def bf:List U->R (U×U):=Ck 4 iZ
noncomputable abbrev sN:Gm:=⟨[false,false],false,λ_=>False⟩
noncomputable def kr:Ev->SR:=(aF (aZ 0 (gz Hz (af (ag 0) ar)))
 (aF (aZ 1 (gz Hz (af (ag 1) ar)))
 (aF (lM (gB (aG Hy (ag 1) (gC (.int 0))))
 (Li 0 1 (af (ag 1) (af (aG vz (ag 0) (ag 1)) ar))) 1000)
 (bo (ag 0)))))
noncomputable def iB:List U->R U:=dE .S 2 kr
noncomputable abbrev wo:Gm:=⟨[false,false,false],false,λ_=>False⟩
noncomputable def mX:Ev->SR:=(aF (aZ 2 (eQ 2 iB (af (ag 0) (af (ag 1) ar))))
 (bo (aL (af (aG oE (ag 0) (ag 2)) (af (aG oE (ag 1) (ag 2)) ar)))))
noncomputable def bF:List U->R U:=dE .S 3 mX
noncomputable abbrev yy:Gm:=⟨[false,false],false,λ_=>False⟩
noncomputable def pj:Ev->SR:=(bo (gz ij (af (dO (bZ (ag 1)) [none,some 0] (bJ 0) fO (aG bS (ag 1) (ag 0))) ar)))
noncomputable def eW:List U->R U:=dE .S 2 pj
noncomputable abbrev mY:Gm:=⟨[false,false,false,false,false,true,false,false,false,false],false,λ_=>False⟩
noncomputable def gP:Nat->Ev->SR
 |0=>λ_=>.stk
 |n+1=>let r__law_paths:=dE .S 10 (gP n)
  (aF (jT (gB (aG (iS id) (aG bS (ag 0) (gC (.int 0))) (gC (.str "again")))) (bo (bX (af (aL (af (ag 4) (af (gC .non) (af (ag 3) ar)))) ar))) bu)
 (aF (jT (gB (aG (iS id) (aG bS (ag 0) (gC (.int 0))) (gC (.str "end")))) (bo (bX (af (aL (af (ag 4) (af (eQ 2 eW (af (ag 1) (af (aG bS (ag 0) (gC (.int 1))) ar))) (af (ag 3) ar)))) ar))) bu)
 (aF (jT (gB (aG (iS id) (aG bS (ag 0) (gC (.int 0))) (gC (.str "lay")))) (bo (eQ 5 r__law_paths (af (aG bS (ag 0) (gC (.int 2))) (af (eQ 2 eW (af (ag 1) (af (aG bS (ag 0) (gC (.int 1))) ar))) (af (ag 2) (af (ag 3) (af (ag 4) ar))))))) bu)
 (aF (jT (gB (aG (iS id) (aG bS (ag 0) (gC (.int 0))) (gC (.str "mix")))) (aF (aZ 5 (bX ar))
 (aF (iR (bZ (aG bS (ag 0) (gC (.int 1)))) (bJ 6)
 (lj (gM "list" 5 kO (af (eQ 5 r__law_paths (af (aG bS (ag 0) (gC (.int 2))) (af (eQ 2 eW (af (ag 1) (af (ag 6) ar))) (af (ag 2) (af (aG dP (ag 3) (gz gK (af (aG bS (ag 0) (gC (.int 1))) ar))) (af (ag 4) ar)))))) ar))))
 (bo (ag 5)))) bu)
 (aF (aZ 7 (eQ 2 eW (af (ag 1) (af (aG bS (ag 0) (gC (.int 1))) ar))))
 (aF (iR (bZ (aG bS (ag 0) (gC (.int 2)))) (cU 2 (aE (bJ 8) (aE (bJ 9) cT)))
 (jT (gB (aG (iS id) (ag 8) (ag 7))) (bo (eQ 5 r__law_paths (af (ag 9) (af (ag 1) (af (ag 2) (af (ag 3) (af (aG fu (ag 4) (aL (af (ag 7) ar))) ar))))))) bu))
 (bo (bX (af (aL (af (ag 4) (af (aL (af (gC (.str "no way")) (af (ag 7) ar))) (af (ag 3) ar)))) ar)))))))))
noncomputable def aP (n:Nat):List U->R U:=dE .S 10 (gP n)
noncomputable abbrev wq:Gm:=⟨[false,false,false,false],false,λ_=>False⟩
noncomputable def tR:Ev->SR:=(aZ 1 (eQ 2 bF (af (aG fu (aG dP (aG bS (ag 1) (gC (.int 0))) (ag 3)) (aG dP (ag 2) (aG bS (ag 1) (gC (.int 1))))) (af (aG dP (aG bS (ag 1) (gC (.int 1))) (ag 3)) ar))))
noncomputable def mZ:Ev->SR:=(aF (aZ 1 (aL (af (gC (.int 0)) (af (gC (.int 1)) ar))))
 (aF (iR (bZ (ag 0)) (cU 2 (aE (bJ 2) (aE (bJ 3) cT)))
 tR)
 (bo (ag 1))))
noncomputable def bx:List U->R U:=dE .S 4 mZ
noncomputable abbrev tT:Gm:=⟨[false,false,true,false,false,false,false,true,false,false,false],false,λ_=>False⟩
noncomputable def cX:Ev->SR:=(aF (aZ 8 (dO (bZ (gz o_ (af (aG jU (ag 2) (ag 3)) ar))) [none,some 2,some 3] (bJ 0) fO (aL (af (ag 0) (af (eQ 1 bx (af (aG jU (aG jU (ag 1) (ag 2)) (ag 0)) ar)) ar)))))
 (aF (aZ 9 (eQ 1 bx (af (dO (bZ (ag 8)) [none,none] (cU 2 (aE (bJ 0) (aE (bJ 1) cT))) fO (ag 1)) ar)))
 (aF (aZ 10 (dO (bZ (ag 8)) [none,none,some 9] (cU 2 (aE (bJ 0) (aE (bJ 1) cT))) fO (aL (af (ag 0) (af (eQ 2 bF (af (aG dP (aG bS (ag 1) (gC (.int 0))) (aG bS (ag 2) (gC (.int 1)))) (af (aG dP (aG bS (ag 1) (gC (.int 1))) (aG bS (ag 2) (gC (.int 0)))) ar))) ar)))))
 (lj (gM "list" 7 iW (af (aL (af (ag 3) (af (eQ 2 bF (af (aG dP (aG bS (ag 9) (gC (.int 0))) (aG bS (ag 6) (gC (.int 1)))) (af (aG dP (aG bS (ag 9) (gC (.int 1))) (aG bS (ag 6) (gC (.int 0)))) ar))) (af (ag 10) ar)))) ar))))))
noncomputable def i9:Ev->SR:=(aF (aZ 1 (eQ 1 bx (af (dO (bZ (ag 0)) [none,none,none] (cU 3 (aE (bJ 0) (aE (bJ 1) (aE (bJ 2) cT)))) (gB (aG (j7 id) (ag 1) (gC .non))) (aL (af (gC (.int 1)) (af (ag 2) ar)))) ar)))
 (aF (aZ 2 PF)
 (aF (BH 2 (F4 2 (bZ (ag 0)) (cU 3 (aE (bJ 3) (aE (bJ 4) (aE (bJ 5) cT))))
 (L_ 2 (gB (aG (j7 not) (ag 4) (gC .non))) (Mc 2 (u6 2 (Ag 0) (u6 2 (Ag 1) (BI 2) (ag 3)) (ag 4)) (aL (af (gC (.int 1)) (af (ag 5) ar)))) bu)))
 (tP 2 (aF (aZ 6 (eQ 2 bF (af (aG xw (aG bS (ag 1) (gC (.int 1))) (aG bS (ag 1) (gC (.int 0)))) (af (aG bS (ag 1) (gC (.int 1))) ar))))
 (aF (jT (gB (aG (iS id) (aG bS (ag 6) (gC (.int 0))) (gC (.int 0)))) (bo (aL (af (ag 1) (af (gC .non) ar)))) bu)
 (aF (aZ 7 (bX ar))
 (aF (iR (bZ (gz n_ (af (ag 2) ar))) (bJ 3)
 cX)
 (tP 7 (bo (aL (af (ag 1) (af (ag 7) ar)))))))))))))
noncomputable def cG:List U->R U:=dE .S 11 i9
noncomputable abbrev yz:Gm:=⟨[false,false,false,false,false],false,λ_=>False⟩
noncomputable def ku:Ev->SR:=(aF (aZ 2 (eQ 5 (aP 6) (af (ag 0) (af (ag 1) (af (ag 1) (af (gC (.int 1)) (af (aL ar) ar)))))))
 (aF (aZ 3 (dO (bZ (ag 2)) [none,none,none] (cU 3 (aE (bJ 0) (aE (bJ 1) (aE (bJ 2) cT)))) (nH (gB (aG (j7 not) (ag 1) (gC .non))) (gB (aG (iS id) (GH Cm (ag 1) oD (ji (gC (.int 1)))) (aL (af (gC (.str "no way")) ar))))) (aG bS (ag 1) (gC (.int 1)))))
 (aF (jT (gB (aG (iS not) (ag 3) (bX ar))) (bo (aL (af (gC (.str "way")) (af (ag 3) ar)))) bu)
 (aF (aZ 4 (aG bS (eQ 1 cG (af (ag 2) ar)) (gC (.int 1))))
 (aF (jT (gB (aG (j7 id) (ag 4) (gC .non))) (bo (aL (af (gC (.str "end")) (af (bX ar) ar)))) bu)
 (bo (aL (af (gC (.str "walked")) (af (ag 4) ar)))))))))
noncomputable def aY:List U->R U:=dE .S 5 ku
noncomputable abbrev m4:Gm:=⟨[false,false,false,false,false,false,false],false,λ_=>False⟩
noncomputable def gQ:Nat->Ev->SR
 |0=>λ_=>.stk
 |n+1=>let r__law_sound:=dE .S 7 (gQ n)
  (aF (jT (nH (gB (aG (iS id) (aG bS (ag 0) (gC (.int 0))) (gC (.str "end")))) (gB (aG (iS id) (gz gK (af (ag 0) ar)) (gC (.int 2))))) (aF (aZ 3 (dO (bZ (aG bS (ag 0) (gC (.int 1)))) [none,some 1] (bJ 0) (Ef (gB (qO NL NK (gC (.int 0)) (ag 0) (ag 1)))) (ag 0)))
 (aF (jT (yQ (gB (aG (iS not) (ag 3) (bX ar))) (yQ (gB (aG (iS not) (gz qa (af (aG bS (ag 0) (gC (.int 1))) ar)) (gz gK (af (aG bS (ag 0) (gC (.int 1))) ar)))) (nH (gB (ag 2)) (gB (aG NK (gz gK (af (aG bS (ag 0) (gC (.int 1))) ar)) (ag 1)))))) (bo (gC .non)) bu)
 (bo (QH (gB (aG Hy (gz gK (af (aG bS (ag 0) (gC (.int 1))) ar)) (gC (.int 0)))) (aL (af (gC (.int 1)) (af (gC (.int 1)) ar))) (gC .non))))) bu)
 (aF (aZ 4 (bX ar))
 (aF (jT (nH (gB (aG (iS id) (aG bS (ag 0) (gC (.int 0))) (gC (.str "look")))) (gB (aG (iS id) (gz gK (af (ag 0) ar)) (gC (.int 3))))) (aF (aZ 5 (dO (bZ (aG bS (ag 0) (gC (.int 2)))) [none] (bJ 0) fO (aG bS (ag 0) (gC (.int 0)))))
 (jT (nH (gB (aG (iS id) (ag 5) (gz gf (af (ag 5) ar)))) (gB (aG (iS id) (dO (bZ (ag 5)) [none,some 0] (bJ 0) (gB (aG (iS not) (gz gK (af (ag 0) ar)) (gz gK (af (aG bS (ag 1) (gC (.int 1))) ar)))) (ag 0)) (bX ar)))) (aZ 4 (dO (bZ (aG bS (ag 0) (gC (.int 2)))) [none] (bJ 0) fO (aG bS (ag 0) (gC (.int 1))))) bu)) bu)
 (aF (jT (nH (gB (aG (iS id) (aG bS (ag 0) (gC (.int 0))) (gC (.str "lay")))) (nH (gB (aG (iS id) (gz gK (af (ag 0) ar)) (gC (.int 3)))) (gB (aG (iS id) (gz o_ (af (aG bS (ag 0) (gC (.int 1))) ar)) (qW (af (ag 1) ar)))))) (aZ 4 (bX (af (aG bS (ag 0) (gC (.int 2))) ar))) bu)
 (aF (jT (nH (gB (aG (iS id) (aG bS (ag 0) (gC (.int 0))) (gC (.str "mix")))) (nH (gB (aG (iS id) (gz gK (af (ag 0) ar)) (gC (.int 3)))) (gB (qO NL NL (gC (.int 1)) (gz gK (af (aG bS (ag 0) (gC (.int 1))) ar)) (gC (.int 24)))))) (jT (gB (aG (iS id) (dO (bZ (aG bS (ag 0) (gC (.int 1)))) [none,some 1] (bJ 0) (gB (aG (iS not) (gz o_ (af (ag 0) ar)) (qW (af (ag 1) ar)))) (ag 0)) (bX ar))) (aZ 4 (bX (af (aG bS (ag 0) (gC (.int 2))) ar))) bu) bu)
 (aF (aZ 6 (dO (bZ (ag 4)) [none,some 1,some 2] (bJ 0) fO (eQ 3 r__law_sound (af (ag 0) (af (ag 1) (af (ag 2) ar))))))
 (aF (jT (yQ (gB (aG (iS id) (ag 6) (bX ar))) (gB (aG (L9 id) (gC .non) (ag 6)))) (bo (gC .non)) bu)
 (bo (aL (af (aG fu (gC (.int 1)) (gz FY (af (dO (bZ (ag 6)) [none] (bJ 0) fO (aG bS (ag 0) (gC (.int 0)))) ar))) (af (aG fu (gC (.int 1)) (gz F0 (af (dO (bZ (ag 6)) [none] (bJ 0) fO (aG bS (ag 0) (gC (.int 1)))) ar))) ar)))))))))))
noncomputable def dk (n:Nat):List U->R U:=dE .S 7 (gQ n)
noncomputable abbrev yA:Gm:=⟨[false],false,λ_=>False⟩
noncomputable def pq:Ev->SR:=(bo (aL (af (ag 0) (af (aG xw (gC (.int 1)) (ag 0)) ar))))
noncomputable def ky:List U->R U:=dE .S 1 pq
noncomputable abbrev cy:Gm:=⟨[true,false,false,false,true,false,false],true,λ_=>False⟩
noncomputable def iC:Ev->SR:=(aF (qV 4 (ag 6) (aG dP (gC (.int 2)) (ag 5)))
 (qV 4 (aG xw (gC (.int 1)) (ag 6)) (aG fu (aG dP (gC (.int 2)) (ag 5)) (gC (.int 1)))))
noncomputable def fz:Ev->SR:=(aF (aZ 4 (zx cy (lq (af (ag 1) ar)) [none,some 0] (bJ 0) fO (zu 2 1 bf (af (gC (.int 10)) ar))))
 (aF (iR (CJ (af (ag 2) (af (ag 3) ar))) (cU 2 (aE (bJ 5) (aE (bJ 6) cT)))
 iC)
 (bo (gz ij (af (ag 4) ar)))))
noncomputable def cz:List U->R (U×U):=Ck 7 fz
noncomputable abbrev tU:Gm:=⟨[false,false,false],false,λ_=>False⟩
noncomputable def lA:Ev->SR:=(aF (aZ 2 (dO (lq (af (gz gK (af (ag 0) ar)) ar)) [none,some 1] (bJ 0) (gB (aG (L9 not) (aG oE (ag 0) (gC (.int 2))) (ag 1))) (ag 0)))
 (bo (gz ij (af (dO (bZ (ag 2)) [none,some 0] (bJ 0) fO (aG bS (ag 1) (ag 0))) ar))))
noncomputable def bw:List U->R U:=dE .S 3 lA
noncomputable abbrev iD:Gm:=⟨[true,false,false,true],true,λ_=>False⟩
noncomputable def iE:Ev->SR:=(aF (aZ 3 (qW (af (aG oE (ag 1) (gC (.int 2))) ar)))
 (bo (zx iD (lq (af (ag 2) ar)) [none,some 3,some 0] (bJ 0) fO (gM "list" 1 nN (af (zu 2 2 bf (af (gz gK (af (ag 1) ar)) ar)) ar)))))
noncomputable def cY:List U->R (U×U):=Ck 4 iE
noncomputable abbrev pL:Gm:=⟨[false,false,false],false,λ_=>False⟩
noncomputable def oh:Ev->SR:=(aZ 1 (aG fu (dO (bZ (ag 1)) [none] (bJ 0) fO (aG fu (ag 0) (aL (af (gC (.int 0)) ar)))) (dO (bZ (ag 1)) [none] (bJ 0) fO (aG fu (ag 0) (aL (af (gC (.int 1)) ar))))))
noncomputable def jP:Ev->SR:=(aF (aZ 1 (bX (af (aL ar) ar)))
 (aF (iR (lq (af (ag 0) ar)) (bJ 2)
 oh)
 (bo (ag 1))))
noncomputable def gE:List U->R U:=dE .S 3 jP
noncomputable abbrev k9:Gm:=⟨[false,false,false,false],false,λ_=>False⟩
noncomputable def eL:Ev->SR:=(aF (Ci (cU 2 (aE (bJ 2) (aE (bJ 3) cT))) (eQ 2 aY (af (ag 0) (af (ag 1) ar))))
 (aF (jT (gB (aG (iS not) (ag 2) (gC (.str "walked")))) (bo (gC .non)) bu)
 (bo (dO (bZ (ag 3)) [none,none,none] (cU 3 (aE (bJ 0) (aE (bJ 1) (aE (bJ 2) cT)))) fO (aL (af (ag 0) (af (ag 1) ar)))))))
noncomputable def bQ:List U->R U:=dE .S 4 eL
noncomputable abbrev sO:Gm:=⟨[false,false,false,false,true,false,false,false],false,λ_=>False⟩
noncomputable def gF:Ev->SR:=(lj (gM "list" 4 kO (af (dO (bZ (ag 7)) [none,none] (cU 2 (aE (bJ 0) (aE (bJ 1) cT))) fO (ag 0)) ar)))
noncomputable def iF:Ev->SR:=(aF (Ci (cU 2 (aE (bJ 2) (aE (bJ 3) cT))) (eQ 2 aY (af (ag 0) (af (ag 1) ar))))
 (aF (jT (gB (aG (iS not) (ag 2) (gC (.str "walked")))) (bo (gC .non)) bu)
 (aF (aZ 4 (bX ar))
 (aF (iR (bZ (ag 3)) (cU 3 (aE (bJ 5) (aE (bJ 6) (aE (bJ 7) cT))))
 gF)
 (bo (gz gf (af (ag 4) ar)))))))
noncomputable def dQ:List U->R U:=dE .S 8 iF
noncomputable abbrev wt:Gm:=⟨[false,false,false,false],false,λ_=>False⟩
noncomputable def f7:Ev->SR:=(jT (yQ (gB (aG (iS not) (GH Cm (ag 3) oD (ji (gC (.int 4)))) (ag 1))) (yQ (gB (aG (L9 not) (GH Cm (ag 3) (ji (gC (.int 4))) (ji (gC (.int 6)))) (aL (af (aL (af (gC (.int 0)) (af (gC (.int 1)) ar))) (af (aL (af (gC (.int 1)) (af (gC (.int 0)) ar))) ar))))) (gB (aG (iS not) (GH Cm (ag 3) (ji (gC (.int 6))) oD) (ag 2))))) (bo (gC (.bl false))) bu)
noncomputable def jF:Ev->SR:=(aF (iR (bZ (ag 0)) (bJ 3)
 f7)
 (bo (aG (iS not) (ag 0) (bX ar))))
noncomputable def eB:List U->R U:=dE .S 4 jF
noncomputable abbrev OM:Gm:=⟨[false,false,true,false,false,false,false,true,false,false,false,false],false,λ_=>False⟩
noncomputable def oj:Ev->SR:=(aF (aZ 9 (zu 4 2 cz (af (ag 3) (af (ag 4) (af (aG fu (ag 8) (aL (af (gC (.int 0)) ar))) ar)))))
 (aF (aZ 10 (eQ 2 dQ (af (ag 5) (af (ag 9) ar))))
 (aF (aZ 11 (aG fu (eQ 1 ky (af (gz BN (af (ag 8) ar)) ar)) (aL (af (gC (.int 0)) (af (gC (.int 1)) ar)))))
 (aF (jT (yQ (gB (aG (j7 id) (ag 10) (gC .non))) (Ef (gB (eQ 3 eB (af (ag 10) (af (ag 11) (af (eQ 2 bw (af (ag 9) (af (ag 4) ar))) ar))))))) (bo (gC (.bl false))) bu)
 (lj (gM "list" 7 iW (af (eQ 2 bQ (af (ag 5) (af (ag 9) ar))) ar)))))))
noncomputable def sP:Ev->SR:=(aF (aZ 2 (eQ 2 di (af (ag 0) (af (ag 1) ar))))
 (aF (aZ 3 (aG fu (gC (.int 6)) (zu 2 2 bf (af (gC (.int 3)) ar))))
 (aF (aZ 4 (zu 3 2 cY (af (ag 3) (af (gC (.int 3)) ar))))
 (aF (aZ 5 (eQ 4 iY (af (ag 3) (af (aG bS (ag 4) (gC (.int 0))) (af (aG bS (ag 4) (gC (.int 1))) (af (aG bS (ag 4) (gC (.int 2))) ar))))))
 (aF (aZ 6 (eQ 3 (dk 6) (af (ag 5) (af (ag 3) (af (gC (.bl true)) ar)))))
 (aF (jT (yQ (gB (aG (j7 id) (ag 6) (gC .non))) (yQ (gB (aG Hy (aG bS (ag 6) (gC (.int 0))) (gC (.int 5)))) (gB (aG Hy (aG bS (ag 6) (gC (.int 1))) (gC (.int 3)))))) (bo (gC (.bl false))) bu)
 (aF (aZ 7 (bX ar))
 (aF (iR (bZ (aG BF (eQ 1 gE (af (gC (.int 2)) ar)) (gC (.int 2)))) (bJ 8)
 oj)
 (jT (gB (aG (iS not) (dO (bZ (ag 7)) [none,some 7] (bJ 0) (gB (aG (iS not) (ag 0) (aG bS (ag 1) (gC (.int 0))))) (ag 0)) (bX ar))) (bo (gC (.bl false))) bu)))))))))
noncomputable def F8:Ev->SR:=(aF (iR (lq (af (gz AU (af (gC (.int 1)) (af (gz AV (af (gz gK (af (ag 0) ar)) (af (gC (.int 3)) ar))) ar))) ar)) (bJ 1)
 sP)
 (bo (gC (.bl true))))
noncomputable def yB:List U->R U:=dE .S 12 F8
end Hc
end
namespace Hc
open L2
noncomputable def top (i:Nat):Zf:=PySem.Challenge.pw_hushcards_k53_all_of_two.main.body.getD i (.Pass ⟨0,0,0,0⟩)
noncomputable abbrev fT:Zf:=top 5
noncomputable abbrev bG:Zf:=top 6
noncomputable abbrev iG:Zf:=top 7
noncomputable abbrev kT:Zf:=top 9
noncomputable abbrev kW:Zf:=top 10
noncomputable abbrev fU:Zf:=top 11
noncomputable abbrev dC:Zf:=top 12
noncomputable abbrev g7:Zf:=top 13
noncomputable abbrev om:Zf:=top 14
noncomputable abbrev fV:Zf:=top 16
noncomputable abbrev g8:Zf:=top 17
noncomputable abbrev jo:Zf:=top 18
noncomputable abbrev eX:Zf:=top 19
noncomputable abbrev g9:Zf:=top 20
noncomputable abbrev iH:Zf:=top 21
noncomputable abbrev fW:Zf:=top 22
noncomputable abbrev cH:Zf:=top 23
noncomputable abbrev g_:Zf:=top 24
noncomputable abbrev iI:Zf:=top 25
noncomputable abbrev bD:Zf:=top 26
noncomputable abbrev jq:Zf:=top 27
noncomputable abbrev cI:Zf:=top 28
noncomputable abbrev dR:Zf:=top 29
noncomputable abbrev dU:Zf:=top 30
noncomputable abbrev c9:Zf:=top 31
noncomputable abbrev bN:Zf:=top 32
noncomputable abbrev dW:Zf:=top 33
noncomputable abbrev ic:Zf:=top 34
noncomputable abbrev wu:Zf:=top 35
abbrev Bd (x:Str)(ps:List Str)(s:Zf):Prop:=∀(kV nv pm:Va) (an:Option Vr) (cP ct:Va) (us:List Va),us.length=ps.length->bindArgs (WY x x (fi s) (cb s) (aq s) .none kV nv pm an cP ct) ⟨us,[]⟩=pure (ps.zip us)
theorem m6 {P:List Str}{sc:aai}(a:sc.kind=.function:=by rfl)(b:sc.isCoroutine=false:=by rfl)(c:sc.isGenerator=false:=by rfl)(d:N.Nodup:=by decide+kernel)(e:N.take P.length=P:=by rfl)(f:∀x∈P,sc.names.lookup x=some .local\/sc.names.lookup x=some .cell:=by decide+kernel)(g:∀y∈sc.names,y.2≠.free:=by decide+kernel):aS N P sc:=⟨a,b,c,d,e,f,g⟩
theorem rm {A:VR}(r:fh k A)(h:j<=k:=by first|decide|lia):fh j A:=r.mono h
theorem eC:aS ["many","piles","sources","order","pile","source","place","origin"] ["many","piles","sources"] (aq fT):=m6
theorem wx:Bd "exchanged" ["many","piles","sources"] fT:=λ_ _ _ _ _ _ us hl=>match us,hl with|[_,_,_],_=>rfl
theorem dz:aS ["numbers","told","number","rest"] ["numbers"] (aq bG):=m6
theorem jQ:Bd "arrangements" ["numbers"] bG:=λ_ _ _ _ _ _ us hl=>match us,hl with|[_],_=>rfl
theorem yC:aS ["many","piles"] ["many","piles"] (aq iG):=m6
theorem yD:Bd "pile_mix" ["many","piles"] iG:=λ_ _ _ _ _ _ us hl=>match us,hl with|[_,_],_=>rfl
theorem Am:aS ["number"] ["number"] (aq kT):=m6
theorem An:Bd "pair_at" ["number"] kT:=λ_ _ _ _ _ _ us hl=>match us,hl with|[_],_=>rfl
theorem C5:aS ["pair"] ["pair"] (aq kW):=m6
theorem C6:Bd "turned" ["pair"] kW:=λ_ _ _ _ _ _ us hl=>match us,hl with|[_],_=>rfl
theorem jG:aS ["many","pairs","places","pair"] ["many","pairs"] (aq fU):=m6
theorem wy:Bd "whole_end" ["many","pairs"] fU:=λ_ _ _ _ _ _ us hl=>match us,hl with|[_,_],_=>rfl
theorem m7:aS ["many","piles","plans"] ["many","piles","plans"] (aq dC):=m6
theorem m9:Bd "mixed_and_seen" ["many","piles","plans"] dC:=λ_ _ _ _ _ _ us hl=>match us,hl with|[_,_,_],_=>rfl
theorem yE:aS ["one","low","high"] ["one","low","high"] (aq g7):=m6
theorem yF:Bd "choosing" ["one","low","high"] g7:=λ_ _ _ _ _ _ us hl=>match us,hl with|[_,_,_],_=>rfl
theorem kz:aS ["many","one","other","free","first","low","high","ends"] ["many","one","other","free"] (aq om):=m6
theorem F9:Bd "anded" ["many","one","other","free"] om:=λ_ _ _ _ _ _ us hl=>match us,hl with|[_,_,_,_],_=>rfl
theorem pM:aS ["script","k"] ["script","k"] (aq fV):=m6
theorem pN:Bd "_law_cell_at" ["script","k"] fV:=λ_ _ _ _ _ _ us hl=>match us,hl with|[_,_],_=>rfl
theorem lB:aS ["script","k","cell"] ["script","k"] (aq g8):=m6
theorem tV:Bd "_law_state" ["script","k"] g8:=λ_ _ _ _ _ _ us hl=>match us,hl with|[_,_],_=>rfl
theorem gR:aS ["state","many","found","mixed"] ["state","many"] (aq jo):=m6
theorem wz:Bd "_law_take" ["state","many"] jo:=λ_ _ _ _ _ _ us hl=>match us,hl with|[_,_],_=>rfl
theorem eR:aS ["one","other"] ["one","other"] (aq eX):=m6
theorem pO:Bd "_law_divisor" ["one","other"] eX:=λ_ _ _ _ _ _ us hl=>match us,hl with|[_,_],_=>rfl
theorem lC:aS ["top","bottom","by"] ["top","bottom"] (aq g9):=m6
theorem tW:Bd "_law_ratio" ["top","bottom"] g9:=λ_ _ _ _ _ _ us hl=>match us,hl with|[_,_],_=>rfl
theorem wA:aS ["row","order"] ["row","order"] (aq iH):=m6
theorem wB:Bd "_law_laid" ["row","order"] iH:=λ_ _ _ _ _ _ us hl=>match us,hl with|[_,_],_=>rfl
theorem cJ:aS ["plan","row","start","bottom","trace","found","order","seen","some","part"] ["plan","row","start","bottom","trace"] (aq fW):=m6
theorem lD:Bd "_law_paths" ["plan","row","start","bottom","trace"] fW:=λ_ _ _ _ _ _ us hl=>match us,hl with|[_,_,_,_,_],_=>rfl
theorem ba:aS ["paths","again","ends","trace","result","bottom","ending","found","shares","whole","results"] ["paths"] (aq cH):=m6
theorem sQ:Bd "_law_walked" ["paths"] cH:=λ_ _ _ _ _ _ us hl=>match us,hl with|[_],_=>rfl
theorem eN:aS ["some","found","top","bottom"] ["some"] (aq g_):=m6
theorem tX:Bd "_law_total" ["some"] g_:=λ_ _ _ _ _ _ us hl=>match us,hl with|[_],_=>rfl
theorem gT:aS ["plan","row","paths","lost","found"] ["plan","row"] (aq iI):=m6
theorem wC:Bd "_law_gone" ["plan","row"] iI:=λ_ _ _ _ _ _ us hl=>match us,hl with|[_,_],_=>rfl
theorem bH:aS ["plan","many","full","odd","parts","seen","found"] ["plan","many","full"] (aq bD):=m6
theorem lE:Bd "_law_sound" ["plan","many","full"] bD:=λ_ _ _ _ _ _ us hl=>match us,hl with|[_,_,_],_=>rfl
theorem wD:aS ["bit"] ["bit"] (aq jq):=m6
theorem wF:Bd "_law_pair" ["bit"] jq:=λ_ _ _ _ _ _ us hl=>match us,hl with|[_],_=>rfl
theorem dq:aS ["state","many","numbers","bits","row","number","bit"] ["state","many","numbers","bits"] (aq cI):=m6
theorem l0:Bd "_law_with_pairs" ["state","many","numbers","bits"] cI:=λ_ _ _ _ _ _ us hl=>match us,hl with|[_,_,_,_],_=>rfl
theorem kA:aS ["row","numbers","left"] ["row","numbers"] (aq dR):=m6
theorem sR:Bd "_law_others" ["row","numbers"] dR:=λ_ _ _ _ _ _ us hl=>match us,hl with|[_,_],_=>rfl
theorem jR:aS ["state","many","count","left"] ["state","many","count"] (aq dU):=m6
theorem pP:Bd "_law_numbers" ["state","many","count"] dU:=λ_ _ _ _ _ _ us hl=>match us,hl with|[_,_,_],_=>rfl
theorem eD:aS ["count","found","k"] ["count"] (aq c9):=m6
theorem oo:Bd "_law_all_bits" ["count"] c9:=λ_ _ _ _ _ _ us hl=>match us,hl with|[_],_=>rfl
theorem dX:aS ["plan","row","word","found"] ["plan","row"] (aq bN):=m6
theorem kC:Bd "_law_seen_chances" ["plan","row"] bN:=λ_ _ _ _ _ _ us hl=>match us,hl with|[_,_],_=>rfl
theorem bO:aS ["plan","row","word","found","told","trace","chance","results"] ["plan","row"] (aq dW):=m6
theorem pQ:Bd "_law_results" ["plan","row"] dW:=λ_ _ _ _ _ _ us hl=>match us,hl with|[_,_],_=>rfl
theorem lF:aS ["found","ahead","behind","result"] ["found","ahead","behind"] (aq ic):=m6
theorem tY:Bd "_law_comes" ["found","ahead","behind"] ic:=λ_ _ _ _ _ _ us hl=>match us,hl with|[_,_,_],_=>rfl
theorem gG:aS ["script","k","state","many","numbers","plan","size","seen","bits","row","found","ahead"] ["script"] (aq wu):=m6
structure l9 (mg:Str->Option Va):Prop where
 zkq:mg "abs"=none
 ziq:mg "len"=none
 zeq:mg "list"=none
 zfq:mg "max"=none
 zjq:mg "min"=none
 zcq:mg "range"=none
 zgq:mg "set"=none
 zbq:mg "sorted"=none
 zhq:mg "sum"=none
 zdq:mg "tuple"=none
 zlq:mg "zip"=none
 zaq:∃tk,mg "MOST_PILES_MIXED"=some (.int 4 tk)
end Hc
namespace Hc
open L2
section
variable {base:XI}
theorem wG (T:l9 mg)  (gm:Df K mg "exchanged" fT):Fn P w K mg base "exchanged" 1 ["many","piles","sources"] (gH K 3 ko .S):=by
 refine Df.fnD (N:=["many","piles","sources","order","pile","source","place","origin"]) (ps:=["many","piles","sources"]) (st:=fT) (k:=0) yu .S pf gm eC wx rfl (by decide) ?_;intro f cP A outer s0 H E hr;have hu:=hr.units;have kE:=bW hr;exact (ao (fY (i:=3) eC.nd (mI rfl (ae (aj 0) ai) T.zeq T.zcq))
 (ao (fq V8 rfl (zS (ae (aj 1) (ae (aj 2) ai)) T.zlq) (eU rfl (aM (aw (i:=4) eC.nd) (aM (aw (i:=5) eC.nd) dh)))
 (au (fq V8 rfl (zS (ae (aj 4) (ae (aH az aB (aj 1) (aj 5) (λ_ _=>rfl)) ai)) T.zlq) (eU rfl (aM (aw (i:=6) eC.nd) (aM (aw (i:=7) eC.nd) dh)))
 (au (mE (i:=3) (aj 7) (aj 6))))))
 (au (aU (gY dB g6 (by rfl) T.zdq jg (ae (fN 3) ai))))))
theorem pR (T:l9 mg)  (c7:Df K mg "arrangements" bG):∀n,Fn P w K mg base "arrangements" (n+1) ["numbers"] (gH K 1 (iA n) .O):=by
 intro n
 induction n with
 |zero=>
  refine Df.fnD (N:=["numbers","told","number","rest"]) (ps:=["numbers"]) (st:=bG) (k:=0) kq .O (fx 0) c7 dz jQ rfl (by decide) ?_;intro f cP A outer s0 H E hr;have hu:=hr.units;have kE:=bW hr;exact vD
 |succ n dY=>
  refine Df.fnD (N:=["numbers","told","number","rest"]) (ps:=["numbers"]) (st:=bG) (k:=n+1) kq .O (fx (n+1)) c7 dz jQ rfl (by decide) ?_;intro f cP A outer s0 H E hr;have hu:=hr.units;have kE:=bW hr;exact (ao (cV (aN (cF hu) (bj (f:=id)) (aW bA cc (by rfl) T.ziq df (ae (aj 0) ai)) ak (aR _)) (au (vx (bT (ae (aO ai) ai)))) bh)
 (ao (fY (i:=1) dz.nd (bT ai))
 (ao (fq V8 rfl (bp (aj 0)) (aw (i:=2) dz.nd)
 (ao (eA (i:=3) (aq bG) ["numbers","told","number","rest"] ["other","number"] [none,some 2] dz.nd rfl (bp (aj 0)) (λY=>⟨(aw (i:=0) (show (["other","number"]:List Str).Nodup by decide+kernel)),(ft (aN (fM hu) (bj (f:=not)) (aj 0) (aj 1) (aR _))),(aj 0)⟩))
 (au (kJ (lL (i:=1) Wi X5 X6 p_ jB (ae (eK (aq bG) ["numbers","told","number","rest"] ["more","number"] [none,some 2] rfl (bp (aD dY (rm hr) (ae (aj 3) ai))) (λY=>⟨(aw (i:=0) (show (["more","number"]:List Str).Nodup by decide+kernel)),bB,(aX bK bL (aO (ae (aj 1) ai)) (aj 0))⟩)) ai))))))
 (au (AJ (i:=1) (hi:=by decide))))))
theorem yG (T:l9 mg)(kG:Fn P w K mg base "exchanged" 1 ["many","piles","sources"] (gH K 3 ko .S))(dY:∀n,Fn P w K mg base "arrangements" (n+1) ["numbers"] (gH K 1 (iA n) .O))(iK:Df K mg "pile_mix" iG):Fn P w K mg base "pile_mix" 8 ["many","piles"] (gH K 2 lY .S):=by
 obtain⟨gJ,zaq⟩:=T.zaq;refine Df.fnD (N:=["many","piles"]) (ps:=["many","piles"]) (st:=iG) (k:=7) Ak .S sI iK yC yD rfl (by decide) ?_;intro f cP A outer s0 H E hr;have hu:=hr.units;have kE:=bW hr;exact (ao (cV (aN w9 qY (aW bA cc (by rfl) T.ziq df (ae (aj 1) ai)) (Ee (i:=4) rfl zaq) (aR _)) (au (LB λ_=>⟨_,_,rfl⟩)) bh)
 (au (aU (gY dB g6 (by rfl) T.zdq jg (ae (eK (aq iG) ["many","piles"] ["sources","many","piles"] [none,some 0,some 1] rfl (bp (aD (dY 6) (rm hr) (ae (mI rfl (ae (aW bA cc (by rfl) T.ziq df (ae (aj 1) ai)) ai) T.zeq T.zcq) ai))) (λY=>⟨(aw (i:=0) (show (["sources","many","piles"]:List Str).Nodup by decide+kernel)),bB,(aD kG (rm hr) (ae (aj 1) (ae (aj 2) (ae (aj 0) ai))))⟩)) ai)))))
theorem Ao (T:l9 mg)  (jt:Df K mg "pair_at" kT):Fn P w K mg base "pair_at" 1 ["number"] (gH K 1 jl .S):=by
 refine Df.fnD (N:=["number"]) (ps:=["number"]) (st:=kT) (k:=0) C4 .S u_ jt Am An rfl (by decide) ?_;intro f cP A outer s0 H E hr;have hu:=hr.units;have kE:=bW hr;exact (au (aU (aO (ae (aX dH cx ak (aj 0)) (ae (aX bK bL (aX dH cx ak (aj 0)) ak) ai)))))
theorem C7 (T:l9 mg)  (kH:Df K mg "turned" kW):Fn P w K mg base "turned" 1 ["pair"] (gH K 1 sJ .S):=by
 refine Df.fnD (N:=["pair"]) (ps:=["pair"]) (st:=kW) (k:=0) F7 .S yv kH C5 C6 rfl (by decide) ?_;intro f cP A outer s0 H E hr;have hu:=hr.units;have kE:=bW hr;exact (au (aU (aO (ae (aH az aB (aj 0) ak (λ_ _=>rfl)) (ae (aH az aB (aj 0) ak (λ_ _=>rfl)) ai)))))
theorem wH (T:l9 mg)  (gq:Df K mg "whole_end" fU):Fn P w K mg base "whole_end" 1 ["many","pairs"] (gH K 2 iX .S):=by
 refine Df.fnD (N:=["many","pairs","places","pair"]) (ps:=["many","pairs"]) (st:=fU) (k:=0) yw .S ph gq jG wy rfl (by decide) ?_;intro f cP A outer s0 H E hr;have hu:=hr.units;have kE:=bW hr;exact (ao (fY (i:=2) jG.nd (bT ai))
 (ao (fq V8 rfl (bp (aj 1)) (aw (i:=3) jG.nd)
 (au (kJ (lL (i:=2) Wi X5 X6 p_ jB (ae (aj 3) ai)))))
 (vJ 2 (au (aU (aO (ae dD (ae (gY dB g6 (by rfl) T.zdq jg (ae (aX bK bL (aj 2) (eK (aq fU) ["many","pairs","places","pair"] ["place","places"] [none,some 2] rfl (gZ (ae (aj 0) ai) T.zcq) (λY=>⟨(aw (i:=0) (show (["place","places"]:List Str).Nodup by decide+kernel)),(ft (aN (n8 hu) v9 (aj 0) (aj 1) (by with_unfolding_all rfl))),(aj 0)⟩))) ai)) ai))))))))
theorem m_ (T:l9 mg)(l7:Fn P w K mg base "pile_mix" 8 ["many","piles"] (gH K 2 lY .S))(c8:Df K mg "mixed_and_seen" dC):Fn P w K mg base "mixed_and_seen" 9 ["many","piles","plans"] (gH K 3 fS .S):=by
 refine Df.fnD (N:=["many","piles","plans"]) (ps:=["many","piles","plans"]) (st:=dC) (k:=8) og .S jn c8 m7 m9 rfl (by decide) ?_;intro f cP A outer s0 H E hr;have hu:=hr.units;have kE:=bW hr;exact (au (aU (aO (ae dD (ae (aD l7 (rm hr) (ae (aj 0) (ae (aj 1) ai))) (ae (aO (ae dD (ae (aO (ae (aH az aB (aH az aB (aj 1) ak (λ_ _=>rfl)) ak (λ_ _=>rfl)) ai)) (ae (aO (ae (aO (ae (aO (ae ak ai)) (ae (aH az aB (aj 2) ak (λ_ _=>rfl)) ai))) (ae (aO (ae (aO (ae ak ai)) (ae (aH az aB (aj 2) ak (λ_ _=>rfl)) ai))) ai))) ai)))) ai))))))
theorem yH (T:l9 mg)  (iL:Df K mg "choosing" g7):Fn P w K mg base "choosing" 1 ["one","low","high"] (gH K 3 lZ .S):=by
 refine Df.fnD (N:=["one","low","high"]) (ps:=["one","low","high"]) (st:=g7) (k:=0) Al .S sL iL yE yF rfl (by decide) ?_;intro f cP A outer s0 H E hr;have hu:=hr.units;have kE:=bW hr;exact (au (aU (aO (ae (aX bK bL (aO (ae (aH az aB (aj 0) ak (λ_ _=>rfl)) ai)) (aj 1)) (ae (aX bK bL (aO (ae (aH az aB (aj 0) ak (λ_ _=>rfl)) ai)) (aj 2)) ai)))))
theorem F_ (T:l9 mg)(ju:Fn P w K mg base "pair_at" 1 ["number"] (gH K 1 jl .S))(s_:Fn P w K mg base "turned" 1 ["pair"] (gH K 1 sJ .S))(i4:Fn P w K mg base "whole_end" 1 ["many","pairs"] (gH K 2 iX .S))(fX:Fn P w K mg base "mixed_and_seen" 9 ["many","piles","plans"] (gH K 3 fS .S))(l8:Fn P w K mg base "choosing" 1 ["one","low","high"] (gH K 3 lZ .S))(nj:Df K mg "anded" om):Fn P w K mg base "anded" 10 ["many","one","other","free"] (gH K 4 iY .S):=by
 refine Df.fnD (N:=["many","one","other","free","first","low","high","ends"]) (ps:=["many","one","other","free"]) (st:=om) (k:=9) Iz .S BO nj kz F9 rfl (by decide) ?_;intro f cP A outer s0 H E hr;have hu:=hr.units;have kE:=bW hr;exact (ao (br (i:=4) kz.nd (aD ju (rm hr) (ae (aj 1) ai)))
 (ao (br (i:=5) kz.nd (aD ju (rm hr) (ae (aj 3) ai)))
 (ao (br (i:=6) kz.nd (aD ju (rm hr) (ae (aj 2) ai)))
 (ao (br (i:=7) kz.nd (aO (ae (aD i4 (rm hr) (ae (aj 0) (ae (aO (ae (aj 5) (ae (aj 4) (ae (aj 6) ai)))) ai))) (ae (aD i4 (rm hr) (ae (aj 0) (ae (aO (ae (aj 6) (ae (aD s_ (rm hr) (ae (aj 4) ai)) (ae (aj 5) ai)))) ai))) ai))))
 (au (aU (aD fX (rm hr) (ae (aj 0) (ae (aD l8 (rm hr) (ae (aj 4) (ae (aj 5) (ae (aj 6) ai)))) (ae (aj 7) ai))))))))))
theorem pS (T:l9 mg)  (dZ:Df K mg "_law_cell_at" fV):Fn P w K mg base "_law_cell_at" 1 ["script","k"] (gH K 2 cW .S):=by
 refine Df.fnD (N:=["script","k"]) (ps:=["script","k"]) (st:=fV) (k:=0) sM .S fy dZ pM pN rfl (by decide) ?_;intro f cP A outer s0 H E hr;have hu:=hr.units;have kE:=bW hr;exact (ao (cV (aN Dy zF (aj 1) (aW bA cc (by rfl) T.ziq df (ae (aj 0) ai)) (aR _)) (au (aU (aH az aB (aj 0) (aj 1) (λ_ _=>rfl)))) bh)
 (au (aU ak)))
theorem tZ (T:l9 mg)(iM:Fn P w K mg base "_law_cell_at" 1 ["script","k"] (gH K 2 cW .S))(fB:Df K mg "_law_state" g8):Fn P w K mg base "_law_state" 2 ["script","k"] (gH K 2 di .O):=by
 refine Df.fnD (N:=["script","k","cell"]) (ps:=["script","k"]) (st:=g8) (k:=1) wm .O gO fB lB tV rfl (by decide) ?_;intro f cP A outer s0 H E hr;have hu:=hr.units;have kE:=bW hr;exact (ao (br (i:=2) lB.nd (aD iM (rm hr) (ae (aj 0) (ae (aj 1) ai))))
 (ao (cV (aN Nh Ls (aj 2) (aX Dv AO ak ak) (aR _)) (au (vx (bT (ae (aX vn p7 (aj 2) (aX Dv AO ak ak)) (ae oB ai))))) bh)
 (au (vx (bT (ae (aX lK jA (aj 2) ak) (ae oB ai)))))))
theorem wI (T:l9 mg)  (gr:Df K mg "_law_take" jo):Fn P w K mg base "_law_take" 1 ["state","many"] (IZ K 2 bf):=by
 refine Df.fnI (N:=["state","many","found","mixed"]) (ps:=["state","many"]) (st:=jo) (k:=0) yx iZ gr gR wz rfl rfl (by decide) ?_;intro f cP A outer s0 H E hr;have hu:=hr.units;have kE:=bW hr;exact (ao (cV (zp (aH az aB (fN 0) ak (λ_ _=>rfl))) (ao (br (i:=2) gR.nd (aX lK jA (aH az aB (fN 0) ak (λ_ _=>rfl)) (aj 1)))
 (ao (mE (i:=0) (aX gW jj (aH az aB (fN 0) ak (λ_ _=>rfl)) (aj 1)) ak)
 (au (aU (aj 2))))) bh)
 (ao (mE (i:=0) (aX lK jA (aX bK bL (aX dH cx (aH az aB (fN 0) ak (λ_ _=>rfl)) ak) ak) ak) ak)
 (ao (br (i:=3) gR.nd (aX lK jA (aX bK bL (aX bK bL (aX dH cx (aH az aB (fN 0) ak (λ_ _=>rfl)) (aH az aB (fN 0) ak (λ_ _=>rfl))) (aX dH cx ak (aH az aB (fN 0) ak (λ_ _=>rfl)))) ak) ak))
 (ao (br (i:=3) gR.nd (aX lK jA (aX bK bL (aX dH cx (aj 3) (aj 3)) (aX dH cx ak (aj 3))) ak))
 (au (aU (aX lK jA (aX gW jj (aj 3) ak) (aj 1))))))))
theorem pT (T:l9 mg)  (d8:Df K mg "_law_divisor" eX):Fn P w K mg base "_law_divisor" 1 ["one","other"] (gH K 2 iB .S):=by
 refine Df.fnD (N:=["one","other"]) (ps:=["one","other"]) (st:=eX) (k:=0) sN .S kr d8 eR pO rfl (by decide) ?_;intro f cP A outer s0 H E hr;have hu:=hr.units;have kE:=bW hr;exact (ao (br (i:=0) eR.nd (aW w_ AS (by rfl) T.zkq D8 (ae (aj 0) ai)))
 (ao (br (i:=1) eR.nd (aW w_ AS (by rfl) T.zkq D8 (ae (aj 1) ai)))
 (ao (En V8 (aN w9 qY (aj 1) ak (aR _))
 (au (Lj (i:=0) (j:=1) rfl eR.nd (ae (aj 1) (ae (aX lK jA (aj 0) (aj 1)) ai)))))
 (au (aU (aj 0))))))
theorem t6 (T:l9 mg)(iO:Fn P w K mg base "_law_divisor" 1 ["one","other"] (gH K 2 iB .S))(fD:Df K mg "_law_ratio" g9):Fn P w K mg base "_law_ratio" 2 ["top","bottom"] (gH K 2 bF .S):=by
 refine Df.fnD (N:=["top","bottom","by"]) (ps:=["top","bottom"]) (st:=g9) (k:=1) wo .S mX fD lC tW rfl (by decide) ?_;intro f cP A outer s0 H E hr;have hu:=hr.units;have kE:=bW hr;exact (ao (br (i:=2) lC.nd (aD iO (rm hr) (ae (aj 0) (ae (aj 1) ai))))
 (au (aU (aO (ae (aX gW jj (aj 0) (aj 2)) (ae (aX gW jj (aj 1) (aj 2)) ai))))))
theorem wJ (T:l9 mg)  (gu:Df K mg "_law_laid" iH):Fn P w K mg base "_law_laid" 1 ["row","order"] (gH K 2 eW .S):=by
 refine Df.fnD (N:=["row","order"]) (ps:=["row","order"]) (st:=iH) (k:=0) yy .S pj gu wA wB rfl (by decide) ?_;intro f cP A outer s0 H E hr;have hu:=hr.units;have kE:=bW hr;exact (au (aU (gY dB g6 (by rfl) T.zdq jg (ae (eK (aq iH) ["row","order"] ["place","row"] [none,some 0] rfl (bp (aj 1)) (λY=>⟨(aw (i:=0) (show (["place","row"]:List Str).Nodup by decide+kernel)),bB,(aH az aB (aj 1) (aj 0) (λ_ _=>rfl))⟩)) ai))))
theorem t7 (T:l9 mg)(eY:Fn P w K mg base "_law_laid" 1 ["row","order"] (gH K 2 eW .S))(eF:Df K mg "_law_paths" fW):∀n,Fn P w K mg base "_law_paths" (n+2) ["plan","row","start","bottom","trace"] (gH K 5 (aP n) .S):=by
 intro n
 induction n with
 |zero=>
  refine Df.fnD (N:=["plan","row","start","bottom","trace","found","order","seen","some","part"]) (ps:=["plan","row","start","bottom","trace"]) (st:=fW) (k:=1) mY .S (gP 0) eF cJ lD rfl (by decide) ?_;intro f cP A outer s0 H E hr;have hu:=hr.units;have kE:=bW hr;exact vD
 |succ n dv=>
  refine Df.fnD (N:=["plan","row","start","bottom","trace","found","order","seen","some","part"]) (ps:=["plan","row","start","bottom","trace"]) (st:=fW) (k:=n+2) mY .S (gP (n+1)) eF cJ lD rfl (by decide) ?_;intro f cP A outer s0 H E hr;have hu:=hr.units;have kE:=bW hr;exact (ao (cV (aN (cF hu) (bj (f:=id)) (aH az aB (aj 0) ak (λ_ _=>rfl)) dD (aR _)) (au (aU (bT (ae (aO (ae (aj 4) (ae fm (ae (aj 3) ai)))) ai)))) bh)
 (ao (cV (aN (cF hu) (bj (f:=id)) (aH az aB (aj 0) ak (λ_ _=>rfl)) dD (aR _)) (au (aU (bT (ae (aO (ae (aj 4) (ae (aD eY (rm hr) (ae (aj 1) (ae (aH az aB (aj 0) ak (λ_ _=>rfl)) ai))) (ae (aj 3) ai)))) ai)))) bh)
 (ao (cV (aN (cF hu) (bj (f:=id)) (aH az aB (aj 0) ak (λ_ _=>rfl)) dD (aR _)) (au (aU (aD dv (rm hr) (NZ (bb (aH az aB (aj 0) ak (λ_ _=>rfl)) (bb (aD eY (rm hr) (ae (aj 1) (ae (aH az aB (aj 0) ak (λ_ _=>rfl)) ai))) (bb (aj 2) (bb (aj 3) (bb (aj 4) mL))))))))) bh)
 (ao (cV (aN (cF hu) (bj (f:=id)) (aH az aB (aj 0) ak (λ_ _=>rfl)) dD (aR _)) (ao (fY (i:=5) cJ.nd (bT ai))
 (ao (fq V8 rfl (bp (aH az aB (aj 0) ak (λ_ _=>rfl))) (aw (i:=6) cJ.nd)
 (au (kJ (lL (i:=5) Wi X5 X6 p_ jB (ae (aD dv (rm hr) (NZ (bb (aH az aB (aj 0) ak (λ_ _=>rfl)) (bb (aD eY (rm hr) (ae (aj 1) (ae (aj 6) ai))) (bb (aj 2) (bb (aX dH cx (aj 3) (aW bA cc (by rfl) T.ziq df (ae (aH az aB (aj 0) ak (λ_ _=>rfl)) ai))) (bb (aj 4) mL))))))) ai)))))
 (au (AJ (i:=5) (hi:=by decide))))) bh)
 (ao (br (i:=7) cJ.nd (aD eY (rm hr) (ae (aj 1) (ae (aH az aB (aj 0) ak (λ_ _=>rfl)) ai))))
 (ao (fq V8 rfl (bp (aH az aB (aj 0) ak (λ_ _=>rfl))) (eU rfl (aM (aw (i:=8) cJ.nd) (aM (aw (i:=9) cJ.nd) dh)))
 (au (cV (aN (cF hu) (bj (f:=id)) (aj 8) (aj 7) (aR _)) (au (aU (aD dv (rm hr) (NZ (bb (aj 9) (bb (aj 1) (bb (aj 2) (bb (aj 3) (bb (aX bK bL (aj 4) (aO (ae (aj 7) ai))) mL))))))))) bh)))
 (au (aU (bT (ae (aO (ae (aj 4) (ae (aO (ae dD (ae (aj 7) ai))) (ae (aj 3) ai)))) ai))))))))))
theorem t9 (T:l9 mg)(cD:Fn P w K mg base "_law_ratio" 2 ["top","bottom"] (gH K 2 bF .S))(fE:Df K mg "_law_total" g_):Fn P w K mg base "_law_total" 3 ["some"] (gH K 1 bx .S):=by
 refine Df.fnD (N:=["some","found","top","bottom"]) (ps:=["some"]) (st:=g_) (k:=2) wq .S mZ fE eN tX rfl (by decide) ?_;intro f cP A outer s0 H E hr;have hu:=hr.units;have kE:=bW hr;exact (ao (br (i:=1) eN.nd (aO (ae ak (ae ak ai))))
 (ao (fq V8 rfl (bp (aj 0)) (eU rfl (aM (aw (i:=2) eN.nd) (aM (aw (i:=3) eN.nd) dh)))
 (au (br (i:=1) eN.nd (aD cD (rm hr) (ae (aX bK bL (aX dH cx (aH az aB (aj 1) ak (λ_ _=>rfl)) (aj 3)) (aX dH cx (aj 2) (aH az aB (aj 1) ak (λ_ _=>rfl)))) (ae (aX dH cx (aH az aB (aj 1) ak (λ_ _=>rfl)) (aj 3)) ai))))))
 (au (aU (aj 1)))))
theorem sS (T:l9 mg)(cD:Fn P w K mg base "_law_ratio" 2 ["top","bottom"] (gH K 2 bF .S))(fF:Fn P w K mg base "_law_total" 3 ["some"] (gH K 1 bx .S))(eO:Df K mg "_law_walked" cH):Fn P w K mg base "_law_walked" 4 ["paths"] (gH K 1 cG .S):=by
 refine Df.fnD (N:=["paths","again","ends","trace","result","bottom","ending","found","shares","whole","results"]) (ps:=["paths"]) (st:=cH) (k:=3) tT .S i9 eO ba sQ rfl (by decide) ?_;intro f cP A outer s0 H E hr;have hu:=hr.units;have kE:=bW hr;exact (ao (br (i:=1) ba.nd (aD fF (rm hr) (ae (eK (aq cH) ["paths","again","ends","trace","result","bottom","ending","found","shares","whole","results"] ["trace","result","bottom"] [none,none,none] rfl (bp (aj 0)) (λY=>⟨(eU rfl (aM (aw (i:=0) (show (["trace","result","bottom"]:List Str).Nodup by decide+kernel)) (aM (aw (i:=1) (show (["trace","result","bottom"]:List Str).Nodup by decide+kernel)) (aM (aw (i:=2) (show (["trace","result","bottom"]:List Str).Nodup by decide+kernel)) dh)))),(ft (aN vo p8 (aj 1) fm (aR _))),(aO (ae ak (ae (aj 2) ai)))⟩)) ai)))
 (ao (fY (i:=2) ba.nd Ew)
 (ao (Il (Ma V8 rfl (bp (aj 0)) (eU rfl (aM (aw (i:=3) ba.nd) (aM (aw (i:=4) ba.nd) (aM (aw (i:=5) ba.nd) dh)))) (BG
 (OI (aN AB xA (aj 4) fm (aR _)) (BG (Me (BJ hu (BJ hu (Iq 2) (aj 3) Im) (aj 4) Io) (aO (ae ak (ae (aj 5) ai))))) Ik))))
 (vJ 2 (ao (br (i:=6) ba.nd (aD cD (rm hr) (ae (aX vn p7 (aH az aB (aj 1) ak (λ_ _=>rfl)) (aH az aB (aj 1) ak (λ_ _=>rfl))) (ae (aH az aB (aj 1) ak (λ_ _=>rfl)) ai))))
 (ao (cV (aN (cF hu) (bj (f:=id)) (aH az aB (aj 6) ak (λ_ _=>rfl)) ak (aR _)) (au (aU (aO (ae (aj 1) (ae fm ai))))) bh)
 (ao (fY (i:=7) ba.nd (bT ai))
 (ao (fq V8 rfl (bp (aW (Aj rfl hu) C2 (by rfl) T.zbq jh (ae (aj 2) ai))) (aw (i:=3) ba.nd)
 (ao (eA (i:=8) (aq cH) ["paths","again","ends","trace","result","bottom","ending","found","shares","whole","results"] ["result","ends","trace"] [none,some 2,some 3] ba.nd rfl (bp (aW (nZ rfl hu) sd (by rfl) T.zbq jh (ae (zL hu (aj 2) (aj 3)) ai))) (λY=>⟨(aw (i:=0) (show (["result","ends","trace"]:List Str).Nodup by decide+kernel)),bB,(aO (ae (aj 0) (ae (aD fF (rm hr) (ae (zL hu (zL hu (aj 1) (aj 2)) (aj 0)) ai)) ai)))⟩))
 (ao (br (i:=9) ba.nd (aD fF (rm hr) (ae (eK (aq cH) ["paths","again","ends","trace","result","bottom","ending","found","shares","whole","results"] ["result","share"] [none,none] rfl (bp (aj 8)) (λY=>⟨(eU rfl (aM (aw (i:=0) (show (["result","share"]:List Str).Nodup by decide+kernel)) (aM (aw (i:=1) (show (["result","share"]:List Str).Nodup by decide+kernel)) dh))),bB,(aj 1)⟩)) ai)))
 (ao (eA (i:=10) (aq cH) ["paths","again","ends","trace","result","bottom","ending","found","shares","whole","results"] ["result","share","whole"] [none,none,some 9] ba.nd rfl (bp (aj 8)) (λY=>⟨(eU rfl (aM (aw (i:=0) (show (["result","share","whole"]:List Str).Nodup by decide+kernel)) (aM (aw (i:=1) (show (["result","share","whole"]:List Str).Nodup by decide+kernel)) dh))),bB,(aO (ae (aj 0) (ae (aD cD (rm hr) (ae (aX dH cx (aH az aB (aj 1) ak (λ_ _=>rfl)) (aH az aB (aj 2) ak (λ_ _=>rfl))) (ae (aX dH cx (aH az aB (aj 1) ak (λ_ _=>rfl)) (aH az aB (aj 2) ak (λ_ _=>rfl))) ai))) ai)))⟩))
 (au (kJ (lL (i:=7) Wi YZ Y0 nB qX (ae (aO (ae (aj 3) (ae (aD cD (rm hr) (ae (aX dH cx (aH az aB (aj 9) ak (λ_ _=>rfl)) (aH az aB (aj 6) ak (λ_ _=>rfl))) (ae (aX dH cx (aH az aB (aj 9) ak (λ_ _=>rfl)) (aH az aB (aj 6) ak (λ_ _=>rfl))) ai))) (ae (aj 10) ai)))) ai))))))))
 (vJ 7 (au (aU (aO (ae (aj 1) (ae (aj 7) ai))))))))))))))
theorem wK (T:l9 mg)(dv:∀n,Fn P w K mg base "_law_paths" (n+2) ["plan","row","start","bottom","trace"] (gH K 5 (aP n) .S))(jd:Fn P w K mg base "_law_walked" 4 ["paths"] (gH K 1 cG .S))(gw:Df K mg "_law_gone" iI):Fn P w K mg base "_law_gone" 9 ["plan","row"] (gH K 2 aY .S):=by
 refine Df.fnD (N:=["plan","row","paths","lost","found"]) (ps:=["plan","row"]) (st:=iI) (k:=8) yz .S ku gw gT wC rfl (by decide) ?_;intro f cP A outer s0 H E hr;have hu:=hr.units;have kE:=bW hr;exact (ao (br (i:=2) gT.nd (aD (dv 6) (rm hr) (NZ (bb (aj 0) (bb (aj 1) (bb (aj 1) (bb ak (bb (aO ai) mL))))))))
 (ao (eA (i:=3) (aq iI) ["plan","row","paths","lost","found"] ["trace","result","bottom"] [none,none,none] gT.nd rfl (bp (aj 2)) (λY=>⟨(eU rfl (aM (aw (i:=0) (show (["trace","result","bottom"]:List Str).Nodup by decide+kernel)) (aM (aw (i:=1) (show (["trace","result","bottom"]:List Str).Nodup by decide+kernel)) (aM (aw (i:=2) (show (["trace","result","bottom"]:List Str).Nodup by decide+kernel)) dh)))),(ft (DW.dt (jy (aN AB xA (aj 1) fm (aR _)) (jx (aN (cF hu) (bj (f:=id)) (mw mG vC (aj 1) vv (mq ak)) (aO (ae dD ai)) (aR _)))))),(aH az aB (aj 1) ak (λ_ _=>rfl))⟩))
 (ao (cV (aN (fM hu) (bj (f:=not)) (aj 3) (bT ai) (aR _)) (au (aU (aO (ae dD (ae (aj 3) ai))))) bh)
 (ao (br (i:=4) gT.nd (aH az aB (aD jd (rm hr) (ae (aj 2) ai)) ak (λ_ _=>rfl)))
 (ao (cV (aN vo p8 (aj 4) fm (aR _)) (au (aU (aO (ae dD (ae (bT ai) ai))))) bh)
 (au (aU (aO (ae dD (ae (aj 4) ai))))))))))
theorem t_ (T:l9 mg)  (eG:Df K mg "_law_sound" bD):∀n,Fn P w K mg base "_law_sound" (n+1) ["plan","many","full"] (gH K 3 (dk n) .S):=by
 intro n
 induction n with
 |zero=>
  refine Df.fnD (N:=["plan","many","full","odd","parts","seen","found"]) (ps:=["plan","many","full"]) (st:=bD) (k:=0) m4 .S (gQ 0) eG bH lE rfl (by decide) ?_;intro f cP A outer s0 H E hr;have hu:=hr.units;have kE:=bW hr;exact vD
 |succ n jH=>
  refine Df.fnD (N:=["plan","many","full","odd","parts","seen","found"]) (ps:=["plan","many","full"]) (st:=bD) (k:=n+1) m4 .S (gQ (n+1)) eG bH lE rfl (by decide) ?_;intro f cP A outer s0 H E hr;have hu:=hr.units;have kE:=bW hr;exact (ao (cV (DW.dt (jy (aN (cF hu) (bj (f:=id)) (aH az aB (aj 0) ak (λ_ _=>rfl)) dD (aR _)) (jx (aN (cF hu) (bj (f:=id)) (aW bA cc (by rfl) T.ziq df (ae (aj 0) ai)) ak (aR _))))) (ao (eA (i:=3) (aq bD) ["plan","many","full","odd","parts","seen","found"] ["place","many"] [none,some 1] bH.nd rfl (bp (aH az aB (aj 0) ak (λ_ _=>rfl))) (λY=>⟨(aw (i:=0) (show (["place","many"]:List Str).Nodup by decide+kernel)),(ft (Eh (xp Dz zG Dy zF ak (aj 0) (aj 1)))),(aj 0)⟩))
 (ao (cV (DW.dt (oC (aN (fM hu) (bj (f:=not)) (aj 3) (bT ai) (aR _)) (oC (aN (fM hu) (bj (f:=not)) (CA rfl (ae (aH az aB (aj 0) ak (λ_ _=>rfl)) ai) (by rfl) T.ziq (by rfl) T.zgq) (aW bA cc (by rfl) T.ziq df (ae (aH az aB (aj 0) ak (λ_ _=>rfl)) ai)) (aR _)) (qN (DW.dt (jy (zp (aj 2)) (jx (aN Dy zF (aW bA cc (by rfl) T.ziq df (ae (aH az aB (aj 0) ak (λ_ _=>rfl)) ai)) (aj 1) (aR _))))))))) (au (aU fm)) bh)
 (au (aU (Ei (hc:=(aN w9 qY (aW bA cc (by rfl) T.ziq df (ae (aH az aB (aj 0) ak (λ_ _=>rfl)) ai)) ak (aR _))) (ha:=(aO (ae ak (ae ak ai)))) (hb:=fm)))))) bh)
 (ao (br (i:=4) bH.nd (bT ai))
 (ao (cV (DW.dt (jy (aN (cF hu) (bj (f:=id)) (aH az aB (aj 0) ak (λ_ _=>rfl)) dD (aR _)) (jx (aN (cF hu) (bj (f:=id)) (aW bA cc (by rfl) T.ziq df (ae (aj 0) ai)) ak (aR _))))) (ao (eA (i:=5) (aq bD) ["plan","many","full","odd","parts","seen","found"] ["way"] [none] bH.nd rfl (bp (aH az aB (aj 0) ak (λ_ _=>rfl))) (λY=>⟨(aw (i:=0) (show (["way"]:List Str).Nodup by decide+kernel)),bB,(aH az aB (aj 0) ak (λ_ _=>rfl))⟩))
 (au (cV (DW.dt (jy (aN (cF hu) (bj (f:=id)) (aj 5) (se rfl hu (ae (aj 5) ai) T.zbq T.zgq) (aR _)) (jx (aN (cF hu) (bj (f:=id)) (eK (aq bD) ["plan","many","full","odd","parts","seen","found"] ["one","plan"] [none,some 0] rfl (bp (aj 5)) (λY=>⟨(aw (i:=0) (show (["one","plan"]:List Str).Nodup by decide+kernel)),(ft (aN (fM hu) (bj (f:=not)) (aW bA cc (by rfl) T.ziq df (ae (aj 0) ai)) (aW bA cc (by rfl) T.ziq df (ae (aH az aB (aj 1) ak (λ_ _=>rfl)) ai)) (aR _))),(aj 0)⟩)) (bT ai) (aR _))))) (au (eA (i:=4) (aq bD) ["plan","many","full","odd","parts","seen","found"] ["way"] [none] bH.nd rfl (bp (aH az aB (aj 0) ak (λ_ _=>rfl))) (λY=>⟨(aw (i:=0) (show (["way"]:List Str).Nodup by decide+kernel)),bB,(aH az aB (aj 0) ak (λ_ _=>rfl))⟩))) bh))) bh)
 (ao (cV (DW.dt (jy (aN (cF hu) (bj (f:=id)) (aH az aB (aj 0) ak (λ_ _=>rfl)) dD (aR _)) (jy (aN (cF hu) (bj (f:=id)) (aW bA cc (by rfl) T.ziq df (ae (aj 0) ai)) ak (aR _)) (jx (aN (cF hu) (bj (f:=id)) (aW (nZ rfl hu) sd (by rfl) T.zbq jh (ae (aH az aB (aj 0) ak (λ_ _=>rfl)) ai)) (mI rfl (ae (aj 1) ai) T.zeq T.zcq) (aR _)))))) (au (br (i:=4) bH.nd (bT (ae (aH az aB (aj 0) ak (λ_ _=>rfl)) ai)))) bh)
 (ao (cV (DW.dt (jy (aN (cF hu) (bj (f:=id)) (aH az aB (aj 0) ak (λ_ _=>rfl)) dD (aR _)) (jy (aN (cF hu) (bj (f:=id)) (aW bA cc (by rfl) T.ziq df (ae (aj 0) ai)) ak (aR _)) (jx (xp Dz zG Dz zG ak (aW bA cc (by rfl) T.ziq df (ae (aH az aB (aj 0) ak (λ_ _=>rfl)) ai)) ak))))) (au (cV (aN (cF hu) (bj (f:=id)) (eK (aq bD) ["plan","many","full","odd","parts","seen","found"] ["order","many"] [none,some 1] rfl (bp (aH az aB (aj 0) ak (λ_ _=>rfl))) (λY=>⟨(aw (i:=0) (show (["order","many"]:List Str).Nodup by decide+kernel)),(ft (aN (fM hu) (bj (f:=not)) (aW (nZ rfl hu) sd (by rfl) T.zbq jh (ae (aj 0) ai)) (mI rfl (ae (aj 1) ai) T.zeq T.zcq) (aR _))),(aj 0)⟩)) (bT ai) (aR _)) (au (br (i:=4) bH.nd (bT (ae (aH az aB (aj 0) ak (λ_ _=>rfl)) ai)))) bh)) bh)
 (ao (eA (i:=6) (aq bD) ["plan","many","full","odd","parts","seen","found"] ["part","many","full"] [none,some 1,some 2] bH.nd rfl (bp (aj 4)) (λY=>⟨(aw (i:=0) (show (["part","many","full"]:List Str).Nodup by decide+kernel)),bB,(aD jH (rm hr) (ae (aj 0) (ae (aj 1) (ae (aj 2) ai))))⟩))
 (ao (cV (DW.dt (oC (aN (cF hu) (bj (f:=id)) (aj 6) (bT ai) (aR _)) (qN (aN (L7 hu) v9 fm (aj 6) (by with_unfolding_all rfl))))) (au (aU fm)) bh)
 (au (aU (aO (ae (aX bK bL ak (aW (CT rfl) FZ (by rfl) T.zhq Lb (ae (eK (aq bD) ["plan","many","full","odd","parts","seen","found"] ["one"] [none] rfl (bp (aj 6)) (λY=>⟨(aw (i:=0) (show (["one"]:List Str).Nodup by decide+kernel)),bB,(aH az aB (aj 0) ak (λ_ _=>rfl))⟩)) ai))) (ae (aX bK bL ak (aW (CU rfl) F1 (by rfl) T.zfq D6 (ae (eK (aq bD) ["plan","many","full","odd","parts","seen","found"] ["one"] [none] rfl (bp (aj 6)) (λY=>⟨(aw (i:=0) (show (["one"]:List Str).Nodup by decide+kernel)),bB,(aH az aB (aj 0) ak (λ_ _=>rfl))⟩)) ai))) ai))))))))))))
theorem wL (T:l9 mg)  (gx:Df K mg "_law_pair" jq):Fn P w K mg base "_law_pair" 1 ["bit"] (gH K 1 ky .S):=by
 refine Df.fnD (N:=["bit"]) (ps:=["bit"]) (st:=jq) (k:=0) yA .S pq gx wD wF rfl (by decide) ?_;intro f cP A outer s0 H E hr;have hu:=hr.units;have kE:=bW hr;exact (au (aU (aO (ae (aj 0) (ae (aX vn p7 ak (aj 0)) ai)))))
theorem l4 (T:l9 mg)(d9:Fn P w K mg base "_law_take" 1 ["state","many"] (IZ K 2 bf))(cE:Df K mg "_law_with_pairs" cI):Fn P w K mg base "_law_with_pairs" 2 ["state","many","numbers","bits"] (IZ K 4 cz):=by
 refine Df.fnI (N:=["state","many","numbers","bits","row","number","bit"]) (ps:=["state","many","numbers","bits"]) (st:=cI) (k:=1) cy fz cE dq l0 rfl rfl (by decide) ?_;intro f cP A outer s0 H E hr;have hu:=hr.units;have kE:=bW hr;exact (ao (zy (i:=4) (aq cI) ["state","many","numbers","bits","row","number","bit"] ["place","state"] [none,some 0] dq.nd rfl (gZ (ae (aj 1) ai) T.zcq) (λY=>⟨(aw (i:=0) (show (["place","state"]:List Str).Nodup by decide+kernel)),bB,(j4 (i:=1) d9 (rm hr) (ae ak ai))⟩))
 (ao (fq V8 rfl (zS (ae (aj 2) (ae (aj 3) ai)) T.zlq) (eU rfl (aM (aw (i:=5) dq.nd) (aM (aw (i:=6) dq.nd) dh)))
 (ao (mE (i:=4) (aj 6) (aX dH cx ak (aj 5)))
 (au (mE (i:=4) (aX vn p7 ak (aj 6)) (aX bK bL (aX dH cx ak (aj 5)) ak)))))
 (au (aU (gY dB g6 (by rfl) T.zdq jg (ae (fN 4) ai))))))
theorem sT (T:l9 mg)  (eP:Df K mg "_law_others" dR):Fn P w K mg base "_law_others" 1 ["row","numbers"] (gH K 2 bw .S):=by
 refine Df.fnD (N:=["row","numbers","left"]) (ps:=["row","numbers"]) (st:=dR) (k:=0) tU .S lA eP kA sR rfl (by decide) ?_;intro f cP A outer s0 H E hr;have hu:=hr.units;have kE:=bW hr;exact (ao (eA (i:=2) (aq dR) ["row","numbers","left"] ["place","numbers"] [none,some 1] kA.nd rfl (gZ (ae (aW bA cc (by rfl) T.ziq df (ae (aj 0) ai)) ai) T.zcq) (λY=>⟨(aw (i:=0) (show (["place","numbers"]:List Str).Nodup by decide+kernel)),(ft (aN (n8 hu) v9 (aX gW jj (aj 0) ak) (aj 1) (by with_unfolding_all rfl))),(aj 0)⟩))
 (au (aU (gY dB g6 (by rfl) T.zdq jg (ae (eK (aq dR) ["row","numbers","left"] ["place","row"] [none,some 0] rfl (bp (aj 2)) (λY=>⟨(aw (i:=0) (show (["place","row"]:List Str).Nodup by decide+kernel)),bB,(aH az aB (aj 1) (aj 0) (λ_ _=>rfl))⟩)) ai)))))
theorem pU (T:l9 mg)(d9:Fn P w K mg base "_law_take" 1 ["state","many"] (IZ K 2 bf))(d_:Df K mg "_law_numbers" dU):Fn P w K mg base "_law_numbers" 2 ["state","many","count"] (IZ K 3 cY):=by
 refine Df.fnI (N:=["state","many","count","left"]) (ps:=["state","many","count"]) (st:=dU) (k:=1) iD iE d_ jR pP rfl rfl (by decide) ?_;intro f cP A outer s0 H E hr;have hu:=hr.units;have kE:=bW hr;exact (ao (fY (i:=3) jR.nd (mI rfl (ae (aX gW jj (aj 1) ak) ai) T.zeq T.zcq))
 (au (aU (Lo (aq dU) ["state","many","count","left"] ["k","left","state"] [none,some 3,some 0] rfl (gZ (ae (aj 2) ai) T.zcq) (λY=>⟨(aw (i:=0) (show (["k","left","state"]:List Str).Nodup by decide+kernel)),bB,(lL (i:=1) Wi PySem.F.slot_list_pop PySem.F.type_list_pop DR Cr (ae (j4 (i:=2) d9 (rm hr) (ae (aW bA cc (by rfl) T.ziq df (ae (fN 1) ai)) ai)) ai))⟩)))))
theorem oq (T:l9 mg)  (dA:Df K mg "_law_all_bits" c9):Fn P w K mg base "_law_all_bits" 1 ["count"] (gH K 1 gE .S):=by
 refine Df.fnD (N:=["count","found","k"]) (ps:=["count"]) (st:=c9) (k:=0) pL .S jP dA eD oo rfl (by decide) ?_;intro f cP A outer s0 H E hr;have hu:=hr.units;have kE:=bW hr;exact (ao (br (i:=1) eD.nd (bT (ae (aO ai) ai)))
 (ao (fq V8 rfl (gZ (ae (aj 0) ai) T.zcq) (aw (i:=2) eD.nd)
 (au (br (i:=1) eD.nd (aX bK bL (eK (aq c9) ["count","found","k"] ["row"] [none] rfl (bp (aj 1)) (λY=>⟨(aw (i:=0) (show (["row"]:List Str).Nodup by decide+kernel)),bB,(aX bK bL (aj 0) (aO (ae ak ai)))⟩)) (eK (aq c9) ["count","found","k"] ["row"] [none] rfl (bp (aj 1)) (λY=>⟨(aw (i:=0) (show (["row"]:List Str).Nodup by decide+kernel)),bB,(aX bK bL (aj 0) (aO (ae ak ai)))⟩))))))
 (au (aU (aj 1)))))
theorem kD (T:l9 mg)(eZ:Fn P w K mg base "_law_gone" 9 ["plan","row"] (gH K 2 aY .S))(bR:Df K mg "_law_seen_chances" bN):Fn P w K mg base "_law_seen_chances" 10 ["plan","row"] (gH K 2 bQ .S):=by
 refine Df.fnD (N:=["plan","row","word","found"]) (ps:=["plan","row"]) (st:=bN) (k:=9) k9 .S eL bR dX kC rfl (by decide) ?_;intro f cP A outer s0 H E hr;have hu:=hr.units;have kE:=bW hr;exact (ao (Em (aD eZ (rm hr) (ae (aj 0) (ae (aj 1) ai))) (eU rfl (aM (aw (i:=2) dX.nd) (aM (aw (i:=3) dX.nd) dh))))
 (ao (cV (aN (fM hu) (bj (f:=not)) (aj 2) dD (aR _)) (au (aU fm)) bh)
 (au (aU (eK (aq bN) ["plan","row","word","found"] ["trace","chance","results"] [none,none,none] rfl (bp (aj 3)) (λY=>⟨(eU rfl (aM (aw (i:=0) (show (["trace","chance","results"]:List Str).Nodup by decide+kernel)) (aM (aw (i:=1) (show (["trace","chance","results"]:List Str).Nodup by decide+kernel)) (aM (aw (i:=2) (show (["trace","chance","results"]:List Str).Nodup by decide+kernel)) dh)))),bB,(aO (ae (aj 0) (ae (aj 1) ai)))⟩))))))
theorem pV (T:l9 mg)(eZ:Fn P w K mg base "_law_gone" 9 ["plan","row"] (gH K 2 aY .S))(eh:Df K mg "_law_results" dW):Fn P w K mg base "_law_results" 10 ["plan","row"] (gH K 2 dQ .S):=by
 refine Df.fnD (N:=["plan","row","word","found","told","trace","chance","results"]) (ps:=["plan","row"]) (st:=dW) (k:=9) sO .S iF eh bO pQ rfl (by decide) ?_;intro f cP A outer s0 H E hr;have hu:=hr.units;have kE:=bW hr;exact (ao (Em (aD eZ (rm hr) (ae (aj 0) (ae (aj 1) ai))) (eU rfl (aM (aw (i:=2) bO.nd) (aM (aw (i:=3) bO.nd) dh))))
 (ao (cV (aN (fM hu) (bj (f:=not)) (aj 2) dD (aR _)) (au (aU fm)) bh)
 (ao (fY (i:=4) bO.nd (bT ai))
 (ao (fq V8 rfl (bp (aj 3)) (eU rfl (aM (aw (i:=5) bO.nd) (aM (aw (i:=6) bO.nd) (aM (aw (i:=7) bO.nd) dh))))
 (au (kJ (lL (i:=4) Wi X5 X6 p_ jB (ae (eK (aq dW) ["plan","row","word","found","told","trace","chance","results"] ["result","share"] [none,none] rfl (bp (aj 7)) (λY=>⟨(eU rfl (aM (aw (i:=0) (show (["result","share"]:List Str).Nodup by decide+kernel)) (aM (aw (i:=1) (show (["result","share"]:List Str).Nodup by decide+kernel)) dh))),bB,(aj 0)⟩)) ai)))))
 (au (aU (se rfl hu (ae (fN 4) ai) T.zbq T.zgq)))))))
theorem uc (T:l9 mg)  (fG:Df K mg "_law_comes" ic):Fn P w K mg base "_law_comes" 1 ["found","ahead","behind"] (gH K 3 eB .S):=by
 refine Df.fnD (N:=["found","ahead","behind","result"]) (ps:=["found","ahead","behind"]) (st:=ic) (k:=0) wt .S jF fG lF tY rfl (by decide) ?_;intro f cP A outer s0 H E hr;have hu:=hr.units;have kE:=bW hr;exact (ao (fq V8 rfl (bp (aj 0)) (aw (i:=3) lF.nd)
 (au (cV (DW.dt (oC (aN (fM hu) (bj (f:=not)) (mw mG vC (aj 3) vv (mq ak)) (aj 1) (aR _)) (oC (aN (n8 hu) v9 (mw mG vC (aj 3) (mq ak) (mq ak)) (aO (ae (aO (ae ak (ae ak ai))) (ae (aO (ae ak (ae ak ai))) ai))) (by with_unfolding_all rfl)) (qN (aN (fM hu) (bj (f:=not)) (mw mG vC (aj 3) (mq ak) vv) (aj 2) (aR _)))))) (au (aU oB)) bh)))
 (au (aU (Le (fM hu) (bj (f:=not)) (aj 0) (bT ai) (aR _)))))
theorem Mg (T:l9 mg)(FL:GG K "law" "law" wu f fd)(gm:Df K mg "exchanged" fT)(c7:Df K mg "arrangements" bG)(iK:Df K mg "pile_mix" iG)(jt:Df K mg "pair_at" kT)(kH:Df K mg "turned" kW)(gq:Df K mg "whole_end" fU)(c8:Df K mg "mixed_and_seen" dC)(iL:Df K mg "choosing" g7)(nj:Df K mg "anded" om)(dZ:Df K mg "_law_cell_at" fV)(fB:Df K mg "_law_state" g8)(gr:Df K mg "_law_take" jo)(d8:Df K mg "_law_divisor" eX)(fD:Df K mg "_law_ratio" g9)(gu:Df K mg "_law_laid" iH)(eF:Df K mg "_law_paths" fW)(eO:Df K mg "_law_walked" cH)(fE:Df K mg "_law_total" g_)(gw:Df K mg "_law_gone" iI)(eG:Df K mg "_law_sound" bD)(gx:Df K mg "_law_pair" jq)(cE:Df K mg "_law_with_pairs" cI)(eP:Df K mg "_law_others" dR)(d_:Df K mg "_law_numbers" dU)(dA:Df K mg "_law_all_bits" c9)(bR:Df K mg "_law_seen_chances" bN)(eh:Df K mg "_law_results" dW)(fG:Df K mg "_law_comes" ic)(hp:∀ns:List Int,ns.length<=63->yB [.scr (ns.map .int)]=.ok (.bl true)):k7 P w K mg base xc 11 f fd ["script"] (xu K):=by
 have kG:=wG (P:=P) (w:=w) (base:=base) T  gm;have dY:=pR (P:=P) (w:=w) (base:=base) T  c7;have l7:=yG (P:=P) (w:=w) (base:=base) T kG dY iK;have ju:=Ao (P:=P) (w:=w) (base:=base) T  jt;have s_:=C7 (P:=P) (w:=w) (base:=base) T  kH;have i4:=wH (P:=P) (w:=w) (base:=base) T  gq;have fX:=m_ (P:=P) (w:=w) (base:=base) T l7 c8;have l8:=yH (P:=P) (w:=w) (base:=base) T  iL;have IL:=F_ (P:=P) (w:=w) (base:=base) T ju s_ i4 fX l8 nj;have iM:=pS (P:=P) (w:=w) (base:=base) T  dZ;have wU:=tZ (P:=P) (w:=w) (base:=base) T iM fB;have d9:=wI (P:=P) (w:=w) (base:=base) T  gr;have iO:=pT (P:=P) (w:=w) (base:=base) T  d8;have cD:=t6 (P:=P) (w:=w) (base:=base) T iO fD;have eY:=wJ (P:=P) (w:=w) (base:=base) T  gu;have dv:=t7 (P:=P) (w:=w) (base:=base) T eY eF;have fF:=t9 (P:=P) (w:=w) (base:=base) T cD fE;have jd:=sS (P:=P) (w:=w) (base:=base) T cD fF eO;have eZ:=wK (P:=P) (w:=w) (base:=base) T dv jd gw;have jH:=t_ (P:=P) (w:=w) (base:=base) T  eG;have yP:=wL (P:=P) (w:=w) (base:=base) T  gx;have nq:=l4 (P:=P) (w:=w) (base:=base) T d9 cE;have uf:=sT (P:=P) (w:=w) (base:=base) T  eP;have tm:=pU (P:=P) (w:=w) (base:=base) T d9 d_;have pZ:=oq (P:=P) (w:=w) (base:=base) T  dA;have lh:=kD (P:=P) (w:=w) (base:=base) T eZ bR;have tq:=pV (P:=P) (w:=w) (base:=base) T eZ eh;have wV:=uc (P:=P) (w:=w) (base:=base) T  fG;refine Lq (f:=yB) ?_ hp;refine GG.okD (N:=["script","k","state","many","numbers","plan","size","seen","bits","row","found","ahead"]) (ps:=["script"]) (st:=wu) (k:=10) OM .S F8 FL gG rfl (by decide) ?_;intro f cP A outer s0 H E hr;have hu:=hr.units;have kE:=bW hr;exact (ao (fq V8 rfl (gZ (ae (aW (B8 rfl) Er (by rfl) T.zfq D6 (ae ak (ae (aW (B9 rfl) Es (by rfl) T.zjq D7 (ae (aW bA cc (by rfl) T.ziq df (ae (aj 0) ai)) (ae ak ai))) ai))) ai) T.zcq) (aw (i:=1) gG.nd)
 (ao (fY (i:=2) gG.nd (aD wU (rm hr) (ae (aj 0) (ae (aj 1) ai))))
 (ao (br (i:=3) gG.nd (aX bK bL ak (j4 (i:=2) d9 (rm hr) (ae ak ai))))
 (ao (br (i:=4) gG.nd (j4 (i:=2) tm (rm hr) (ae (aj 3) (ae ak ai))))
 (ao (br (i:=5) gG.nd (aD IL (rm hr) (NZ (bb (aj 3) (bb (aH az aB (aj 4) ak (λ_ _=>rfl)) (bb (aH az aB (aj 4) ak (λ_ _=>rfl)) (bb (aH az aB (aj 4) ak (λ_ _=>rfl)) mL)))))))
 (ao (br (i:=6) gG.nd (aD (jH 6) (rm hr) (ae (aj 5) (ae (aj 3) (ae oB ai)))))
 (ao (cV (DW.dt (oC (aN vo p8 (aj 6) fm (aR _)) (oC (aN w9 qY (aH az aB (aj 6) ak (λ_ _=>rfl)) ak (aR _)) (qN (aN w9 qY (aH az aB (aj 6) ak (λ_ _=>rfl)) ak (aR _)))))) (au (aU oB)) bh)
 (ao (fY (i:=7) gG.nd (bT ai))
 (ao (fq V8 rfl (bp (aX Ih FX (aD pZ (rm hr) (ae ak ai)) ak)) (aw (i:=8) gG.nd)
 (ao (br (i:=9) gG.nd (j4 (i:=2) nq (rm hr) (ae (aj 3) (ae (aj 4) (ae (aX bK bL (aj 8) (aO (ae ak ai))) ai)))))
 (ao (br (i:=10) gG.nd (aD tq (rm hr) (ae (aj 5) (ae (aj 9) ai))))
 (ao (br (i:=11) gG.nd (aX bK bL (aD yP (rm hr) (ae (aW (C3 rfl) F6 (by rfl) T.zjq D7 (ae (aj 8) ai)) ai)) (aO (ae ak (ae ak ai)))))
 (ao (cV (DW.dt (oC (aN vo p8 (aj 10) fm (aR _)) (qN (Eh (zp (aD wV (rm hr) (ae (aj 10) (ae (aj 11) (ae (aD uf (rm hr) (ae (aj 9) (ae (aj 4) ai))) ai))))))))) (au (aU oB)) bh)
 (au (kJ (lL (i:=7) Wi YZ Y0 nB qX (ae (aD lh (rm hr) (ae (aj 5) (ae (aj 9) ai))) ai)))))))))
 (au (cV (aN (fM hu) (bj (f:=not)) (eK (aq wu) ["script","k","state","many","numbers","plan","size","seen","bits","row","found","ahead"] ["one","seen"] [none,some 7] rfl (bp (fN 7)) (λY=>⟨(aw (i:=0) (show (["one","seen"]:List Str).Nodup by decide+kernel)),(ft (aN (fM hu) (bj (f:=not)) (aj 0) (aH az aB (fN 1) ak (λ_ _=>rfl)) (aR _))),(aj 0)⟩)) (bT ai) (aR _)) (au (aU oB)) bh)))))))))))
 (au (aU oB)))
end
inductive l5 (K:U7)(x:Str)(st:Zf):Prop
 |mk {f:Vr} {od an:Option Vr} {sl:Array (Option Va)} {oc kV dc pm cd ct:Va}:W3 K V0 x=some (some (.ref f))->K.lookup f=some ⟨oc,od,.func (WY x x (fi st) (cb st) (aq st) .none kV dc pm an cd ct),sl⟩->aak K cd x=true->Yc K (.ref f)=true->l5 K x st
theorem cO (q:l5 K x st)(X:K.In h)(G:h.Ns V0 mg):Df K mg x st:=by
 obtain⟨a,l,c,k⟩:=q;exact⟨_,_,PySem.W.mg_of X G a,DV (st:=st) l c k⟩
theorem all_mk {fa:Vr}(X:K.In h)(G:h.Ns V0 mg)(Up:mg "law"=some (.ref fa))(q0:l5 K "exchanged" fT)(q1:l5 K "arrangements" bG)(q2:l5 K "pile_mix" iG)(q3:l5 K "pair_at" kT)(q4:l5 K "turned" kW)(q5:l5 K "whole_end" fU)(q6:l5 K "mixed_and_seen" dC)(q7:l5 K "choosing" g7)(q8:l5 K "anded" om)(q9:l5 K "_law_cell_at" fV)(Uq:l5 K "_law_state" g8)(Ur:l5 K "_law_take" jo)(Us:l5 K "_law_divisor" eX)(Ut:l5 K "_law_ratio" g9)(Uu:l5 K "_law_laid" iH)(Uv:l5 K "_law_paths" fW)(Uw:l5 K "_law_walked" cH)(Ux:l5 K "_law_total" g_)(Uy:l5 K "_law_gone" iI)(Uz:l5 K "_law_sound" bD)(UA:l5 K "_law_pair" jq)(UB:l5 K "_law_with_pairs" cI)(UC:l5 K "_law_others" dR)(UD:l5 K "_law_numbers" dU)(UE:l5 K "_law_all_bits" c9)(UG:l5 K "_law_seen_chances" bN)(UH:l5 K "_law_results" dW)(UI:l5 K "_law_comes" ic)(UJ:l5 K "law" wu)(zkq:W3 K V0 "abs"=some none)(ziq:W3 K V0 "len"=some none)(zeq:W3 K V0 "list"=some none)(zfq:W3 K V0 "max"=some none)(zjq:W3 K V0 "min"=some none)(zcq:W3 K V0 "range"=some none)(zgq:W3 K V0 "set"=some none)(zbq:W3 K V0 "sorted"=some none)(zhq:W3 K V0 "sum"=some none)(zdq:W3 K V0 "tuple"=some none)(zlq:W3 K V0 "zip"=some none){gJ:Tok}(zaq:W3 K V0 "MOST_PILES_MIXED"=some (some (.int 4 gJ)))(hp:∀ns:List Int,ns.length<=63->yB [.scr (ns.map .int)]=.ok (.bl true))
  : ∃fd:ZF,(∀(s:Vo) (v:Va),BindsTo s fd ⟨[v],[]⟩ [("script",v)])/\∀base:XI,K.In base->base.Ns V0 mg->k7 PySem.Challenge.pw_hushcards_k53_all_of_two w K mg base xc 11 fa fd ["script"] (xu K):=by
 obtain @⟨f_,od_,an28,sl_,oc_,kV28,dc28,pm28,cd28,ct28,a28,l28,c28,k28⟩:=UJ;have e:=Up.symm.trans (PySem.W.mg_of X G a28);cases e;have T:l9 mg:=⟨Wd X G zkq,Wd X G ziq,Wd X G zeq,Wd X G zfq,Wd X G zjq,Wd X G zcq,Wd X G zgq,Wd X G zbq,Wd X G zhq,Wd X G zdq,Wd X G zlq,⟨_,PySem.W.mg_of X G zaq⟩⟩;have gm:=cO q0 X G;have c7:=cO q1 X G;have iK:=cO q2 X G;have jt:=cO q3 X G;have kH:=cO q4 X G;have gq:=cO q5 X G;have c8:=cO q6 X G;have iL:=cO q7 X G;have nj:=cO q8 X G;have dZ:=cO q9 X G;have fB:=cO Uq X G;have gr:=cO Ur X G;have d8:=cO Us X G;have fD:=cO Ut X G;have gu:=cO Uu X G;have eF:=cO Uv X G;have eO:=cO Uw X G;have fE:=cO Ux X G;have gw:=cO Uy X G;have eG:=cO Uz X G;have gx:=cO UA X G;have cE:=cO UB X G;have eP:=cO UC X G;have d_:=cO UD X G;have dA:=cO UE X G;have bR:=cO UG X G;have eh:=cO UH X G;have fG:=cO UI X G;have FL:=DV (st:=wu) l28 c28 k28;refine⟨WY "law" "law" (fi wu) (cb wu) (aq wu) .none kV28 dc28 pm28 an28 cd28 ct28,λs v=>.of_eq rfl,λbase _ _=>?_⟩;exact Mg (P:=PySem.Challenge.pw_hushcards_k53_all_of_two) (w:=w) (base:=base) T  FL gm c7 iK jt kH gq c8 iL nj dZ fB gr d8 fD gu eF eO fE gw eG gx cE eP d_ dA bR eh fG hp
end Hc
namespace Hc
open L2
noncomputable abbrev hS (s:String)(n:Nat):Va:=.str (Xf s) n
noncomputable abbrev hE (P:Params)(s:String)(n:Nat)(v:Va):DictEntry:=⟨PyData.keyHash P (Xf s),hS s n,v⟩
noncomputable abbrev hD (c:Va)(l:List DictEntry)(n:Nat):Obj:=⟨c,none,.dict l.toArray n,#[]⟩
noncomputable abbrev hX (c:Va)(l:List Va):Obj:=⟨c,none,.fields l.toArray,#[]⟩
noncomputable abbrev hC (n q:String)(a:Nat)(l k:Int)(r r1:Nat)(v1 v2:Va)(r2:Nat)(m:Int)(m':Nat):Obj:=hX (.type "code") [hS n a,hS q (a+1),hS "/claim/cut.py" (a+2),.int l 0,.int k 0,.int 0 0,.int 0 0,.int 3 0,.ref r,.bool true,.int 181 0,.ref r1,.none,v1,v2,.ref r2,.int m 0,.int l 0,hS "/claim/cut.py" m']
noncomputable abbrev hF (n q:String)(s:Zf)(kV nv pm:Va)(an:Option Vr)(cd ct:Va):Obj:=⟨.type "function",none,.func (WY n q (fi s) (cb s) (aq s) .none kV nv pm an cd ct),#[]⟩
noncomputable def Kf (P:Params):U7:=
 (nat_lit 2,hD .none [] 0) ::
 (nat_lit 3,hD (.type "dict") [hE P "__name__" 165 (hS "law_hushcards_k53_all_of_two" 307),hE P "__doc__" 166 .none,hE P "__package__" 167 .none,hE P "__loader__" 168 (.builtin "__main__.__loader__#opaque"),hE P "__spec__" 169 .none,hE P "__annotations__" 170 (.ref 6),hE P "__builtins__" 171 (.ref 4),hE P "__file__" 173 (hS "/claim/cut.py" 172),hE P "__cached__" 174 .none,hE P "CardError" 206 (.ref 24),hE P "TooMany" 222 (.ref 37),hE P "MOST_PILES_MIXED" 226 (.int 4 225),hE P "exchanged" 240 (.ref 46),hE P "arrangements" 246 (.ref 51),hE P "pile_mix" 252 (.ref 56),hE P "pair_at" 261 (.ref 63),hE P "turned" 268 (.ref 70),hE P "whole_end" 274 (.ref 75),hE P "mixed_and_seen" 283 (.ref 82),hE P "choosing" 292 (.ref 89),hE P "anded" 306 (.ref 96),hE P "_law_cell_at" 316 (.ref 103),hE P "_law_state" 325 (.ref 110),hE P "_law_take" 335 (.ref 117),hE P "_law_divisor" 343 (.ref 124),hE P "_law_ratio" 352 (.ref 131),hE P "_law_laid" 358 (.ref 136),hE P "_law_paths" 374 (.ref 143),hE P "_law_walked" 380 (.ref 148),hE P "_law_total" 390 (.ref 155),hE P "_law_gone" 396 (.ref 160),hE P "_law_sound" 402 (.ref 165),hE P "_law_pair" 409 (.ref 172),hE P "_law_with_pairs" 415 (.ref 177),hE P "_law_others" 421 (.ref 182),hE P "_law_numbers" 427 (.ref 187),hE P "_law_all_bits" 433 (.ref 192),hE P "_law_seen_chances" 439 (.ref 197),hE P "_law_results" 445 (.ref 202),hE P "_law_comes" 455 (.ref 209),hE P "law" 461 (.ref 214)] 41) ::
 (nat_lit 23,hD (.type "dict") [hE P "__module__" 196 (hS "hushcards.errors" 187),hE P "__firstlineno__" 200 (.int 2 199),hE P "__static_attributes__" 201 (.ref 22),hE P "__weakref__" 203 (.ref 25),hE P "__doc__" 204 .none] 3) ::
 (nat_lit 24,⟨.type "type",none,.cls {name:="CardError",bases:=[.type "ValueError"],mro:=[.ref 24,.type "ValueError",.type "Exception",.type "BaseException",.type "object"],ns:=23,qualname:="CardError",subclasses:=[.ref 37]},#[some (.ref 15),none,some (hS "CardError" 189),some (hS "CardError" 197),some (.builtin "ValueError.__new__"),some (.bool true)]⟩) ::
 (nat_lit 36,hD (.type "dict") [hE P "__module__" 214 (hS "hushcards.errors" 187),hE P "__firstlineno__" 218 (.int 4 217),hE P "__static_attributes__" 219 (.ref 35),hE P "__doc__" 220 .none] 2) ::
 (nat_lit 37,⟨.type "type",none,.cls {name:="TooMany",bases:=[.ref 24],mro:=[.ref 37,.ref 24,.type "ValueError",.type "Exception",.type "BaseException",.type "object"],ns:=36,qualname:="TooMany"},#[some (.ref 28),none,some (hS "TooMany" 207),some (hS "TooMany" 215),some (.builtin "ValueError.__new__"),some (.bool true)]⟩) ::
 (nat_lit 45,hC "exchanged" "exchanged" 227 8 3 40 41 (.ref 42) (.ref 43) 44 238 239) ::
 (nat_lit 46,hF "exchanged" "exchanged" (top 5) .none .none (hS "hushcards.shuffles" 223) none (.ref 45) .none) ::
 (nat_lit 50,hC "arrangements" "arrangements" 241 14 1 47 48 .none .none 49 244 245) ::
 (nat_lit 51,hF "arrangements" "arrangements" (top 6) .none .none (hS "hushcards.shuffles" 223) none (.ref 50) .none) ::
 (nat_lit 55,hC "pile_mix" "pile_mix" 247 22 2 52 53 .none .none 54 250 251) ::
 (nat_lit 56,hF "pile_mix" "pile_mix" (top 7) .none .none (hS "hushcards.shuffles" 223) none (.ref 55) .none) ::
 (nat_lit 62,hC "pair_at" "pair_at" 255 27 1 57 58 (.ref 59) (.ref 60) 61 259 260) ::
 (nat_lit 63,hF "pair_at" "pair_at" (top 9) .none .none (hS "hushcards.gates" 253) none (.ref 62) .none) ::
 (nat_lit 69,hC "turned" "turned" 262 29 1 64 65 (.ref 66) (.ref 67) 68 266 267) ::
 (nat_lit 70,hF "turned" "turned" (top 10) .none .none (hS "hushcards.gates" 253) none (.ref 69) .none) ::
 (nat_lit 74,hC "whole_end" "whole_end" 269 31 2 71 72 .none .none 73 272 273) ::
 (nat_lit 75,hF "whole_end" "whole_end" (top 11) .none .none (hS "hushcards.gates" 253) none (.ref 74) .none) ::
 (nat_lit 81,hC "mixed_and_seen" "mixed_and_seen" 275 36 3 76 77 (.ref 78) (.ref 79) 80 281 282) ::
 (nat_lit 82,hF "mixed_and_seen" "mixed_and_seen" (top 12) .none .none (hS "hushcards.gates" 253) none (.ref 81) .none) ::
 (nat_lit 88,hC "choosing" "choosing" 284 38 3 83 84 (.ref 85) (.ref 86) 87 290 291) ::
 (nat_lit 89,hF "choosing" "choosing" (top 13) .none .none (hS "hushcards.gates" 253) none (.ref 88) .none) ::
 (nat_lit 95,hC "anded" "anded" 293 40 4 90 91 (.ref 92) (.ref 93) 94 304 305) ::
 (nat_lit 96,hF "anded" "anded" (top 14) .none .none (hS "hushcards.gates" 253) none (.ref 95) .none) ::
 (nat_lit 102,hC "_law_cell_at" "_law_cell_at" 309 47 2 97 98 (.ref 99) (.ref 100) 101 314 315) ::
 (nat_lit 103,hF "_law_cell_at" "_law_cell_at" (top 16) .none .none (hS "law_hushcards_k53_all_of_two" 307) none (.ref 102) .none) ::
 (nat_lit 109,hC "_law_state" "_law_state" 317 51 2 104 105 (.ref 106) (.ref 107) 108 323 324) ::
 (nat_lit 110,hF "_law_state" "_law_state" (top 17) .none .none (hS "law_hushcards_k53_all_of_two" 307) none (.ref 109) .none) ::
 (nat_lit 116,hC "_law_take" "_law_take" 326 56 2 111 112 (.ref 113) (.ref 114) 115 333 334) ::
 (nat_lit 117,hF "_law_take" "_law_take" (top 18) .none .none (hS "law_hushcards_k53_all_of_two" 307) none (.ref 116) .none) ::
 (nat_lit 123,hC "_law_divisor" "_law_divisor" 336 65 2 118 119 (.ref 120) (.ref 121) 122 341 342) ::
 (nat_lit 124,hF "_law_divisor" "_law_divisor" (top 19) .none .none (hS "law_hushcards_k53_all_of_two" 307) none (.ref 123) .none) ::
 (nat_lit 130,hC "_law_ratio" "_law_ratio" 344 71 2 125 126 (.ref 127) (.ref 128) 129 350 351) ::
 (nat_lit 131,hF "_law_ratio" "_law_ratio" (top 20) .none .none (hS "law_hushcards_k53_all_of_two" 307) none (.ref 130) .none) ::
 (nat_lit 135,hC "_law_laid" "_law_laid" 353 74 2 132 133 .none .none 134 356 357) ::
 (nat_lit 136,hF "_law_laid" "_law_laid" (top 21) .none .none (hS "law_hushcards_k53_all_of_two" 307) none (.ref 135) .none) ::
 (nat_lit 142,hC "_law_paths" "_law_paths" 359 76 5 137 138 (.ref 139) (.ref 140) 141 372 373) ::
 (nat_lit 143,hF "_law_paths" "_law_paths" (top 22) .none .none (hS "law_hushcards_k53_all_of_two" 307) none (.ref 142) .none) ::
 (nat_lit 147,hC "_law_walked" "_law_walked" 375 93 1 144 145 .none .none 146 378 379) ::
 (nat_lit 148,hF "_law_walked" "_law_walked" (top 23) .none .none (hS "law_hushcards_k53_all_of_two" 307) none (.ref 147) .none) ::
 (nat_lit 154,hC "_law_total" "_law_total" 381 109 1 149 150 (.ref 151) (.ref 152) 153 388 389) ::
 (nat_lit 155,hF "_law_total" "_law_total" (top 24) .none .none (hS "law_hushcards_k53_all_of_two" 307) none (.ref 154) .none) ::
 (nat_lit 159,hC "_law_gone" "_law_gone" 391 114 2 156 157 .none .none 158 394 395) ::
 (nat_lit 160,hF "_law_gone" "_law_gone" (top 25) .none .none (hS "law_hushcards_k53_all_of_two" 307) none (.ref 159) .none) ::
 (nat_lit 164,hC "_law_sound" "_law_sound" 397 123 3 161 162 .none .none 163 400 401) ::
 (nat_lit 165,hF "_law_sound" "_law_sound" (top 26) .none .none (hS "law_hushcards_k53_all_of_two" 307) none (.ref 164) .none) ::
 (nat_lit 171,hC "_law_pair" "_law_pair" 403 143 1 166 167 (.ref 168) (.ref 169) 170 407 408) ::
 (nat_lit 172,hF "_law_pair" "_law_pair" (top 27) .none .none (hS "law_hushcards_k53_all_of_two" 307) none (.ref 171) .none) ::
 (nat_lit 176,hC "_law_with_pairs" "_law_with_pairs" 410 145 4 173 174 .none .none 175 413 414) ::
 (nat_lit 177,hF "_law_with_pairs" "_law_with_pairs" (top 28) .none .none (hS "law_hushcards_k53_all_of_two" 307) none (.ref 176) .none) ::
 (nat_lit 181,hC "_law_others" "_law_others" 416 151 2 178 179 .none .none 180 419 420) ::
 (nat_lit 182,hF "_law_others" "_law_others" (top 29) .none .none (hS "law_hushcards_k53_all_of_two" 307) none (.ref 181) .none) ::
 (nat_lit 186,hC "_law_numbers" "_law_numbers" 422 154 3 183 184 .none .none 185 425 426) ::
 (nat_lit 187,hF "_law_numbers" "_law_numbers" (top 30) .none .none (hS "law_hushcards_k53_all_of_two" 307) none (.ref 186) .none) ::
 (nat_lit 191,hC "_law_all_bits" "_law_all_bits" 428 157 1 188 189 .none .none 190 431 432) ::
 (nat_lit 192,hF "_law_all_bits" "_law_all_bits" (top 31) .none .none (hS "law_hushcards_k53_all_of_two" 307) none (.ref 191) .none) ::
 (nat_lit 196,hC "_law_seen_chances" "_law_seen_chances" 434 162 2 193 194 .none .none 195 437 438) ::
 (nat_lit 197,hF "_law_seen_chances" "_law_seen_chances" (top 32) .none .none (hS "law_hushcards_k53_all_of_two" 307) none (.ref 196) .none) ::
 (nat_lit 201,hC "_law_results" "_law_results" 440 167 2 198 199 .none .none 200 443 444) ::
 (nat_lit 202,hF "_law_results" "_law_results" (top 33) .none .none (hS "law_hushcards_k53_all_of_two" 307) none (.ref 201) .none) ::
 (nat_lit 208,hC "_law_comes" "_law_comes" 446 175 3 203 204 (.ref 205) (.ref 206) 207 453 454) ::
 (nat_lit 209,hF "_law_comes" "_law_comes" (top 34) .none .none (hS "law_hushcards_k53_all_of_two" 307) none (.ref 208) .none) ::
 (nat_lit 213,hC "law" "law" 456 180 1 210 211 .none .none 212 459 460) ::
 (nat_lit 214,hF "law" "law" (top 35) .none .none (hS "law_hushcards_k53_all_of_two" 307) none (.ref 213) .none)::[]
noncomputable def vw:XJ:={PySem.Challenge.pw_hushcards_k53_all_of_two with main:={PySem.Challenge.pw_hushcards_k53_all_of_two.main with body:=([1,2,4,5,6,7,9,10,11,12,13,14,16,17,18,19,20,21,22,23,24,25,26,27,28,29,30,31,32,33,34,35]:List Nat).map top}}
noncomputable def hk:PySem.W.Hook:=PySem.W.kHook Kf [2,3,23,24,36,37,45,46,50,51,55,56,62,63,69,70,74,75,81,82,88,89,95,96,102,103,109,110,116,117,123,124,130,131,135,136,142,143,147,148,154,155,159,160,164,165,171,172,176,177,181,182,186,187,191,192,196,197,201,202,208,209,213,214] (λ_=>by kernel_rfl)
noncomputable abbrev SA:=PySem.Challenge.rw_hushcards_k53_all_of_two.row
theorem left:PySem.W.LeftO SA.prog vw [] (λs=>PySem.W.xlAt vw [] s&&PySem.W.recOk (PySem.W.RowW.records SA.toRowW) s) hk.obs hk.val 2696:=λw=>by kernel_rfl
end Hc
namespace Hc
open L2
theorem Ka {f:Bool->Bool}{u w:U}:Q4 f u w=(OE u w).bind λb=>.ok (.bl (f b)):=nr rfl
theorem BP {a b:Int}:OE (.int a) (.int b)=.ok (a==b):=nr rfl
theorem Ga {a b:Bool}:OE (.bl a) (.bl b)=.ok (a==b):=nr rfl
theorem BQ {a b:Str}:OE (.str a) (.str b)=.ok (a==b):=nr rfl
theorem qg:type_of% @Vp.{0,0}/\type_of% @Xg.{0,0}/\type_of% @Vi.{0}/\type_of% @Xt.{0}/\type_of% @XA.{0}/\type_of% @WS.{0}/\type_of% @WM.{0}/\type_of% @YV.{0}/\type_of% @List.getElem?_cons_zero.{0}/\type_of% @Wg.{0}/\type_of% @WW.{0}/\type_of% @XH.{0}/\type_of% @Yb.{0}/\type_of% @YJ.{0}/\type_of% @if_true.{1}/\type_of% @if_false.{1}/\type_of% @VG/\type_of% @Jn/\type_of% @Yy/\type_of% @aam/\type_of% @Ka/\type_of% @BP/\type_of% @Ga/\type_of% @BQ:=
 ⟨@Vp.{0,0},@Xg.{0,0},@Vi.{0},@Xt.{0},@XA.{0},@WS.{0},@WM.{0},@YV.{0},@List.getElem?_cons_zero.{0},@Wg.{0},@WW.{0},@XH.{0},@Yb.{0},@YJ.{0},@if_true.{1},@if_false.{1},@VG,@Jn,@Yy,@aam,@Ka,@BP,@Ga,@BQ⟩
end Hc
namespace Hc
open L2
theorem NS:(0:Nat)<=Vf/\(1:Nat)<=Vf/\(2:Nat)<=Vf/\(3:Nat)<=Vf/\(4:Nat)<=Vf/\(5:Nat)<=Vf/\(6:Nat)<=Vf/\(10:Nat)<=Vf/\(16:Nat)<=Vf/\(18:Nat)<=Vf/\(22:Nat)<=Vf:=by decide
theorem Pzz:type_of% @dF∧type_of% @qg∧type_of% @NS:=⟨@dF,@qg,@NS⟩
def Ap (s:U):Prop:=∃v b,s=.lst [.int v,.bl b]/\0<=v/\(b=false->v<2147483647)
theorem wM {s:U}{m:Int}(h:Ap s)(h0:0<m)(h1:m<18446744073709551616):∃r s',bf [s,.int m]=.ok (.int r,s')/\0<=r/\r<m/\Ap s':=by
 obtain⟨v,b,rfl,hv,hb⟩:=h;cases b with
 |true=>
  refine⟨v % m,.lst [.int (v / m),.bl true],?_,Ym _ (by lia),XD _ h0,v / m,true,rfl,Int.ediv_nonneg hv (by lia),λh=>nomatch h⟩;simp only[Pzz,jL,Nat.reduceAdd,Nat.reduceSub,bf,iZ,hG h0,vH h0 h1,Bp]
 |false=>
  have g1:0<=(v*48271+29) % 2147483647:=Ym _ (by decide);have g2:(v*48271+29) % 2147483647<2147483647:=XD _ (by decide);have c1:pJ v 48271=true:=LG (by decide) (by decide);have d1:decide ((0:Int)<2147483647)=true:=by decide
  have d2:decide ((0:Int)<2147483629)=true:=by decide
  have d3:decide ((0:Int)<2147483587)=true:=by decide
  have e8:zz (((((v*48271+29) % 2147483647)*((v*48271+29) % 2147483647)+39373*((v*48271+29) % 2147483647)+7) % 2147483629*((((v*48271+29) % 2147483647)*((v*48271+29) % 2147483647)+39373*((v*48271+29) % 2147483647)+7) % 2147483629)+16807*((((v*48271+29) % 2147483647)*((v*48271+29) % 2147483647)+39373*((v*48271+29) % 2147483647)+7) % 2147483629)) % 2147483587) 8=true:=vH (by decide) (by decide);have c2:pJ ((v*48271+29) % 2147483647) ((v*48271+29) % 2147483647)=true:=vI g1 (by lia);have c3:pJ 39373 ((v*48271+29) % 2147483647)=true:=vI (by decide) (by decide);generalize hs:(v*48271+29) % 2147483647=s1 at *;have g3:0<=(s1*s1+39373*s1+7) % 2147483629:=Ym _ (by decide);have g4:(s1*s1+39373*s1+7) % 2147483629<2147483629:=XD _ (by decide);have c4:pJ ((s1*s1+39373*s1+7) % 2147483629) ((s1*s1+39373*s1+7) % 2147483629)=true:=vI g3 (by lia);have c5:pJ 16807 ((s1*s1+39373*s1+7) % 2147483629)=true:=vI (by decide) (by decide);refine⟨((s1*s1+39373*s1+7) % 2147483629*((s1*s1+39373*s1+7) % 2147483629)+16807*((s1*s1+39373*s1+7) % 2147483629)) % 2147483587 / 8 % m,.lst [.int s1,.bl false],?_,Ym _ (by lia),XD _ h0,s1,false,rfl,g1,λ_=>g2⟩
  ·simp only[Pzz,jL,Nat.reduceAdd,Nat.reduceSub,bf,iZ,hG h0,c1,d1,d2,d3,hs,c2,c3,c4,c5,e8,Bp]
theorem Gb {us:List U}{k:Int}(hu:u=.scr (ns.map .int)\/u=.lst (ns.map .int))(h0:0<=k):∃s,di [u,.int k]=.ok s/\Ap s:=by
 obtain⟨k,rfl⟩:∃n:Nat,k=n:=⟨k.toNat,by lia⟩;have vd:∃c:Int,cW [u,.int k]=.ok (.int c):=by
  by_cases hk:k<ns.length
  ·refine⟨ns[k],?_⟩;have d:decide ((k:Int)<((ns.map U.int).length:Nat))=true:=by rw[Vd];exact hG (by lia)
   have e:nA (ns.map U.int) (k:Int)=some (.int ns[k]):=by rw[Bo,VL,U4 hk];rfl
   rcases hu with rfl|rfl<;>simp only[Pzz,jL,Nat.reduceAdd,Nat.reduceSub,cW,fy,d,e]
  ·refine⟨0,?_⟩;have d:decide ((k:Int)<((ns.map U.int).length:Nat))=false:=by rw[Vd];exact hJ (by lia)
   rcases hu with rfl|rfl<;>simp only[Pzz,jL,Nat.reduceAdd,Nat.reduceSub,cW,fy,d]
 obtain⟨c,hc⟩:=vd;have Tb:Hw 10 18=true:=by decide
 have Tc:(10:Int) ^ (18:Int).toNat=1000000000000000000:=by decide
 have l2:(2:Nat)<=Vf:=by decide
 have dm:decide ((0:Int)<2147483647)=true:=by decide
 by_cases h:1000000000000000000<=c
 ·refine⟨.lst [.int (c-1000000000000000000),.bl true],?_,_,true,rfl,by lia,λh=>nomatch h⟩;simp only[Pzz,jL,Nat.reduceAdd,Nat.reduceSub,di,gO,hc,Tb,Tc,hG h,l2,hV]
 ·refine⟨.lst [.int (c % 2147483647),.bl false],?_,_,false,rfl,Ym _ (by decide),λ_=>XD _ (by decide)⟩;simp only[Pzz,jL,Nat.reduceAdd,Nat.reduceSub,di,gO,hc,Tb,Tc,hJ h,l2,dm,hV]
open Hc.Ts
noncomputable def BR:R U->Bool
 | .ok _=>true
 |_=>false
noncomputable def SD:R U->U
 | .ok u=>u
 |_=>.non
theorem Gd {r:R U}(h:BR r=true):r=.ok (SD r):=by
 cases r<;>first|rfl|cases h
noncomputable def IA (r:R U)(u:U):Bool:=match r with
 | .ok x=>uv x u
 |_=>false
theorem wN {r:R U}(h:IA r u=true):r=.ok u:=by
 cases r with
 |ok x=>rw[zh h]
 |exc=>cases h
 |stk=>cases h
theorem du {α β:Type}{f g:α->β}:∀{l:List α},l.map f=l.map g->∀x∈l,f x=g x
 | [],_,x,h=>by cases h
 |y::l,e,x,h=>by
  rw[Vp,Vp] at e;injection e with e1 e2
  rcases Vk.mp h with rfl|h
  ·exact e1
  ·exact du e2 x h
noncomputable abbrev IB:=Nat×Nat×Nat
noncomputable def iQ (n:Nat):List IB:=((VN n).flatMap λa=>(VN n).flatMap λb=>(VN n).map λc=>(a,b,c)).filter λt=>t.1 != t.2.1&&t.1 != t.2.2&&t.2.1 != t.2.2
theorem IC {a b c:Nat}(ha:a<n)(hb:b<n)(hc:c<n)(h1:a≠b)(h2:a≠c)(h3:b≠c):(a,b,c)∈iQ n:=by
 unfold iQ;rw[List.mem_filter];refine⟨List.mem_flatMap.mpr ⟨a,VJ.mpr ha,List.mem_flatMap.mpr ⟨b,VJ.mpr hb,V3.mpr ⟨c,VJ.mpr hc,rfl⟩⟩⟩,?_⟩;simp[h1,h2,h3]
noncomputable def i_ (t:IB):U:=.lst [.int t.1,.int t.2.1,.int t.2.2]
theorem yI (h:d≠[]):FT (aJ d)=some d:=by
 unfold FT aJ;dsimp only;rw[Eu];cases d with
 |nil=>exact absurd rfl h
 |cons=>rfl
theorem C8 (h:d≠[]):gf [.lst [aJ d,aJ d]]=.ok (.lst [aJ d]):=by
 have e:jN [aJ d,aJ d]=some [d,d]:=by
  unfold jN jN jN;rw[yI h]
 have o:jO [d,d]=[d]:=by
  have a1:v8 [] d=[d]:=hU W2;have a2:v8 [d] d=[d]:=hV U8;show v8 (v8 [] d) d=[d];rw[a1,a2]
 unfold gf;dsimp only;rw[e];dsimp only;rw[o];rfl
theorem ID (r:List Int):mF (aJ r)=some (.tup (r.map .int)):=by unfold aJ mF;rw[nU];rfl
theorem sU {α:Type}:∀(l:List α) (i:Nat) (h:i<l.length),(l[i]::l.eraseIdx i).Perm l
 |x::l,0,_=>Wz _
 |x::l,i+1,h=>by
  have h':i<l.length:=by simpa using h
  show (l[i]::x::l.eraseIdx i).Perm (x::l);exact (List.Perm.swap _ _ _).trans (List.Perm.cons x (sU l i h'))
theorem ng {α β:Type}(f:α->β):∀(l:List α) (i:Nat),(l.map f).eraseIdx i=(l.eraseIdx i).map f
 | [],_=>rfl
 |_::_,0=>rfl
 |x::l,i+1=>by
  show f x::(l.map f).eraseIdx i=f x::(l.eraseIdx i).map f;rw[ng f l i]
theorem Mh {k:Int}{y:U}(h1:aat k us.length=some j)(h2:us[j]? = some y)(h3:0<=k)(h4:k<1000000000):nN (.lst us) [.int k]=.ok (y,.lst (us.eraseIdx j)):=by
 unfold nN;dsimp only;rw[hV (by lia),h1];dsimp only;rw[h2]
open Hc.Ts
theorem IE {s:U}{c:Nat}(h:Ap s)(hn:(m:Int) / 2=n)(h1:n<=1000)(hc:c<=n)(hm:m<=100):∃(os:List Int) (s':U),cY [s,.int m,.int c]=.ok (.lst (os.map .int),s')/\os.length=c/\os.Nodup/\(∀x∈os,0<=x/\x<n)/\Ap s':=by
 obtain⟨ys,⟨left,s'⟩,e,l,os,hr,hp,hs'⟩:=rj (G:=iD) (js:=[none,some 3,some 0]) (sg:=bJ 0) (ge:=gM "list" 1 nN (af (zu 2 2 bf (af (gz gK (af (ag 1) ar)) ar)) ar))
  (λx:List Int×U=>[some x.2,some (.int m),some (.int c),some (.lst (x.1.map .int))]) c (λys x=>∃os:List Int,ys=os.map .int/\(os++x.1).Perm (ir n)/\Ap x.2)
  (λdone u x hd h00=>by
   obtain⟨os,hr,hp,hs⟩:=h00;obtain⟨left,s⟩:=x;have hl:0<left.length:=by
    have:=hp.length_eq;rw[Ve,rk] at this;have h2:done.length=os.length:=by rw[hr,Vd]
    dsimp only at this;lia
   have Mx:left.length<=n:=by
    have:=hp.length_eq;rw[Ve,rk] at this;dsimp only at this;lia
   obtain⟨r,s',b1,b2,b3,b4⟩:=wM (m:=left.length) hs (by lia) (by lia);obtain⟨k,rfl⟩:∃n:Nat,r=n:=⟨r.toNat,by lia⟩;have hk:k<left.length:=by lia
   refine⟨[some u,some (.lst (left.map .int)),some s],.int left[k],[some u,some (.lst ((left.eraseIdx k).map .int)),some s'],(left.eraseIdx k,s'),rfl,?_,rfl,os++[left[k]],by rw[hr,WI];rfl,?_,b4⟩
   ·have hx:aat (k:Int) (left.map U.int).length=some k:=by
     unfold aat;rw[Vd];simp;lia
    have hy:(left.map U.int)[k]? = some (.int left[k]):=by rw[VL,U4 hk];rfl
    have pp:=Mh hx hy (by lia) (by lia);rw[ng] at pp;simp only[Pzz,jL,Nat.reduceAdd,Nat.reduceSub,Vd,b1,pp]
   ·rw[VC];refine List.Perm.trans (Wv os ?_) hp;exact sU left k hk) (b_ 0 c) [] (ir n,s) (by rw[fP];simp) ⟨[],rfl,Wz _,h⟩
 rw[fP] at l;have ln:os.length=c:=by
  have:=congrArg List.length hr;rw[WS,Vd] at this;lia
 rw[WS] at hr;dsimp only at e;have nd:(ir n).Nodup:=by
  unfold ir;exact List.Pairwise.map _ (λa b h e=>h (Int.ofNat.inj e)) YN
 have R_:(os++left).Nodup:=hp.symm.nodup nd;refine⟨os,s',?_,ln,(Xc.mp R_).1,λx hx=>?_,hs'⟩
 ·have d2:decide ((0:Int)<2)=true:=by decide
  have c2:zz (m:Int) 2=true:=vH (by decide) (by decide);rw[hr] at e;simp only[Pzz,jL,Nat.reduceAdd,Nat.reduceSub,cY,iE,d2,c2,hn,zT c (by lia),HP n (by lia),xM] at e ⊢;simp only[Pzz,jL,Nat.reduceAdd,Nat.reduceSub,e]
 ·have:=hp.mem_iff.mp (VF _ hx)
  rwa [zV] at this
theorem Ge {s:U}{y2:Option U}(h:Ap s)(h1:m<=1000):∃(xs:List Int) (s':U),nI cy [none,some 0] (bJ 0) fO (zu 2 1 bf (af (gC (.int 10)) ar)) (b_ 0 m) [some s,some (.int m),y2,y3,none,y5,y6]=.ok (xs.map .int,[some s',some (.int m),y2,y3,none,y5,y6])/\xs.length=m/\Ap s':=by
 obtain⟨ys,s',e,l,row,hr,hs'⟩:=rj (G:=cy) (js:=[none,some 0]) (sg:=bJ 0) (ge:=zu 2 1 bf (af (gC (.int 10)) ar)) (λs:U=>[some s,some (.int m),y2,y3,none,y5,y6]) m (λys s=>∃row:List Int,ys=row.map .int/\Ap s)
  (λdone u s _ h00=>by
   obtain⟨row,hr,hs⟩:=h00;obtain⟨r,s',b1,b2,b3,b4⟩:=wM (m:=10) hs (by decide) (by decide);refine⟨[some u,some s],.int r,[some u,some s'],s',rfl,?_,rfl,row++[r],by rw[hr,WI];rfl,b4⟩;simp only[Pzz,jL,Nat.reduceAdd,Nat.reduceSub,b1]) (b_ 0 m) [] s (by rw[fP];simp) ⟨[],rfl,h⟩
 rw[fP] at l;refine⟨row,s',by rw[e,←hr];rfl,?_,hs'⟩;have:=congrArg List.length hr;simp at this;lia
noncomputable def IF:Ev->SR:=aF (iR (CJ (af (ag 2) (af (ag 3) ar))) (cU 2 (aE (bJ 5) (aE (bJ 6) cT))) iC) (bo (gz ij (af (ag 4) ar)))
theorem ON:fz=aF (aZ 4 (zx cy (lq (af (ag 1) ar)) [none,some 0] (bJ 0) fO (zu 2 1 bf (af (gC (.int 10)) ar)))) IF:=rfl
theorem Gf {s nu bi:U}(h:Ap s)(h1:m<=1000){R:List Int->U}(hw:∀xs:List Int,xs.length=m->∀s,rg (IF [some s,some (.int m),some nu,some bi,some (.lst (xs.map .int)),none,none])=.ok (R xs,s)) :
  ∃(xs:List Int) (s':U),cz [s,.int m,nu,bi]=.ok (R xs,s')/\xs.length=m/\Ap s':=by
 obtain⟨xs,s',e,l,hs⟩:=Ge (y2:=some nu) (y3:=some bi) (y5:=none) (y6:=none) h h1;refine⟨xs,s',?_,l,hs⟩;unfold cz;rw[ON];simp only[Pzz,jL,Nat.reduceAdd,Nat.reduceSub,zT m (by lia),e];exact hw xs l s'
theorem va:∀d:List Int,vE (d.map .int)=true
 | []=>by unfold vE;rfl
 |x::d=>by rw[Vp];unfold vE tN;exact va d
theorem vb:∀d:List Int,qG (d.map .int)=0
 | []=>by unfold qG;rfl
 |x::d=>by rw[Vp];unfold qG xo;rw[vb d];rfl
theorem Gg (d:List Int):Ct (aJ d)=true:=by
 show (vE (d.map .int)&&decide (qG (d.map .int)<=6))=true;rw[va,vb];rfl
theorem IG {l:U}:jU (.dct [aJ d] [l]) (aJ d)=.ok l:=by
 have f:zH [aJ d] (aJ d)=true:=by unfold zH;rw[Gg];exact Bool.or_true _
 unfold jU;dsimp only;rw[hV f];unfold e_;rw[hV rfl]
theorem Gh {l:U}(h:d≠[]):o_ [.dct [aJ d] [l]]=.ok (.lst [aJ d]):=by
 have e:jN [aJ d]=some [d]:=by
  unfold jN jN;rw[yI h]
 unfold o_;show r_ [.dct [aJ d] [l]]=_;unfold r_;dsimp only;rw[hV (show Ot [aJ d]=true from rfl)];unfold kl;rw[e];rfl
noncomputable def ou:U:=.tup [.int 1,.int 1]
noncomputable def vc:U:=.tup [.int 1,.int 2]
noncomputable def Q8:Ev->R (U×Ev):=(dO (bZ (gz o_ (af (aG jU (ag 2) (ag 3)) ar))) [none,some 2,some 3] (bJ 0) fO (aL (af (ag 0) (af (eQ 1 bx (af (aG jU (aG jU (ag 1) (ag 2)) (ag 0)) ar)) ar))))
noncomputable def P4:Ev->SR:=(aF (aZ 9 (eQ 1 bx (af (dO (bZ (ag 8)) [none,none] (cU 2 (aE (bJ 0) (aE (bJ 1) cT))) fO (ag 1)) ar)))
 (aF (aZ 10 (dO (bZ (ag 8)) [none,none,some 9] (cU 2 (aE (bJ 0) (aE (bJ 1) cT))) fO (aL (af (ag 0) (af (eQ 2 bF (af (aG dP (aG bS (ag 1) (gC (.int 0))) (aG bS (ag 2) (gC (.int 1)))) (af (aG dP (aG bS (ag 1) (gC (.int 1))) (aG bS (ag 2) (gC (.int 0)))) ar))) ar)))))
 (lj (gM "list" 7 iW (af (aL (af (ag 3) (af (eQ 2 bF (af (aG dP (aG bS (ag 9) (gC (.int 0))) (aG bS (ag 6) (gC (.int 1)))) (af (aG dP (aG bS (ag 9) (gC (.int 1))) (aG bS (ag 6) (gC (.int 0)))) ar))) (af (ag 10) ar)))) ar)))))
theorem OO:cX=aF (aZ 8 Q8) P4:=rfl
theorem Kb {tr:U}(hd:d≠[]){y1 y7 y8 y9 y10:Option U}{b:Int}(ht:bx [.lst [.tup [.int 1,.int b]]]=.ok (.tup [.int 1,.int b]))(hD:jU (.dct ks us) tr=.ok (.dct [aJ d] [.lst [.tup [.int 1,.int b]]])) :
  cX [y0,y1,some (.dct ks us),some tr,y4,y5,y6,y7,y8,y9,y10]=P4 [y0,y1,some (.dct ks us),some tr,y4,y5,y6,y7,some (.lst [.tup [aJ d,.tup [.int 1,.int b]]]),y9,y10]:=by
 rw[OO];have e:Q8 [y0,y1,some (.dct ks us),some tr,y4,y5,y6,y7,y8,y9,y10]=.ok (.lst [.tup [aJ d,.tup [.int 1,.int b]]],[y0,y1,some (.dct ks us),some tr,y4,y5,y6,y7,y8,y9,y10]):=by
  unfold Q8;simp only[Pzz,jL,Nat.reduceAdd,Nat.reduceSub,hD,Gh hd];have q:MN [none,some 2,some 3] (bJ 0) fO (aL (af (ag 0) (af (eQ 1 bx (af (aG jU (aG jU (ag 1) (ag 2)) (ag 0)) ar)) ar))) [y0,y1,some (.dct ks us),some tr,y4,y5,y6,y7,y8,y9,y10] (aJ d)=.ok (some (.tup [aJ d,.tup [.int 1,.int b]])):=by
   simp only[Pzz,jL,Nat.reduceAdd,Nat.reduceSub,hD,IG,ht]
  unfold MM;rw[q];rfl
 simp only[uH,E8,e,rh,nR,XH,WW]
noncomputable def Q9 (X:Ev->SR):Ev->SR:=(aF (aZ 1 (eQ 1 bx (af (dO (bZ (ag 0)) [none,none,none] (cU 3 (aE (bJ 0) (aE (bJ 1) (aE (bJ 2) cT)))) (gB (aG (j7 id) (ag 1) (gC .non))) (aL (af (gC (.int 1)) (af (ag 2) ar)))) ar)))
 (aF (aZ 2 PF)
 (aF (BH 2 (F4 2 (bZ (ag 0)) (cU 3 (aE (bJ 3) (aE (bJ 4) (aE (bJ 5) cT))))
 (L_ 2 (gB (aG (j7 not) (ag 4) (gC .non))) (Mc 2 (u6 2 (Ag 0) (u6 2 (Ag 1) (BI 2) (ag 3)) (ag 4)) (aL (af (gC (.int 1)) (af (ag 5) ar)))) bu))) X)))
noncomputable def SE (X:Ev->SR):Ev->SR:=(aF (aZ 6 (eQ 2 bF (af (aG xw (aG bS (ag 1) (gC (.int 1))) (aG bS (ag 1) (gC (.int 0)))) (af (aG bS (ag 1) (gC (.int 1))) ar))))
 (aF (jT (gB (aG (iS id) (aG bS (ag 6) (gC (.int 0))) (gC (.int 0)))) (bo (aL (af (ag 1) (af (gC .non) ar)))) bu)
 (aF (aZ 7 (bX ar)) X)))
noncomputable def Q_:Ev->SR:=tP 7 (bo (aL (af (ag 1) (af (ag 7) ar))))
theorem OP:i9=Q9 (tP 2 (SE (aF (iR (bZ (gz n_ (af (ag 2) ar))) (bJ 3) cX) Q_))):=rfl
noncomputable def qh:U:=.tup [.tup [.int 0]]
noncomputable def pW:U:=.tup [.tup [.int 1]]
noncomputable def gg (tr:U)(d:List Int):U:=.tup [tr,vc,.lst [.tup [aJ d,ou]]]
noncomputable def eE (d:List Int):U:=.dct [aJ d] [.lst [vc]]
theorem Mi {A B C D:U}{e c f:List Int}(hc:c≠[])(hf:f≠[])(h1:jU (.dct [A,B] [eE d,eE e]) C=.ok (eE c))(h2:jU (.dct [A,B] [eE d,eE e]) D=.ok (eE f)) :
  ∃ρ,fJ (bJ 3) cX [C,D] [y0,some (.tup [.int 0,.int 1]),some (.dct [A,B] [eE d,eE e]),y3,y4,y5,some ou,some (.lst []),none,none,none]=.nx ρ/\ρ[1]? = some (some (.tup [.int 0,.int 1]))/\ρ[7]? = some (some (.lst [gg C c,gg D f])):=by
 have t:bx [.lst [.tup [.int 1,.int 2]]]=.ok (.tup [.int 1,.int 2]):=by kernel_rfl
 have q1:∀y9 y10,P4 [y0,some (.tup [.int 0,.int 1]),some (.dct [A,B] [eE d,eE e]),some C,y4,y5,some ou,some (.lst []),some (.lst [.tup [aJ c,.tup [.int 1,.int 2]]]),y9,y10]=.nx [y0,some (.tup [.int 0,.int 1]),some (.dct [A,B] [eE d,eE e]),some C,y4,y5,some ou,some (.lst [gg C c]),some (.lst [.tup [aJ c,.tup [.int 1,.int 2]]]),some vc,some (.lst [.tup [aJ c,ou]])]:=by intros;kernel_rfl
 have q2:∀y9 y10,P4 [y0,some (.tup [.int 0,.int 1]),some (.dct [A,B] [eE d,eE e]),some D,y4,y5,some ou,some (.lst [gg C c]),some (.lst [.tup [aJ f,.tup [.int 1,.int 2]]]),y9,y10]=.nx [y0,some (.tup [.int 0,.int 1]),some (.dct [A,B] [eE d,eE e]),some D,y4,y5,some ou,some (.lst [gg C c,gg D f]),some (.lst [.tup [aJ f,.tup [.int 1,.int 2]]]),some vc,some (.lst [.tup [aJ f,ou]])]:=by intros;kernel_rfl
 refine⟨[y0,some (.tup [.int 0,.int 1]),some (.dct [A,B] [eE d,eE e]),some D,y4,y5,some ou,some (.lst [gg C c,gg D f]),some (.lst [.tup [aJ f,.tup [.int 1,.int 2]]]),some vc,some (.lst [.tup [aJ f,ou]])],?_,rfl,rfl⟩;unfold fJ;show SR.of (R.ok _) _=_;simp only[rh,XH,WW];rw[Kb hc t h1,q1];dsimp only;unfold fJ;show SR.of (R.ok _) _=_;simp only[rh,XH,WW];rw[Kb hf t h2,q2];rfl
theorem ie {A B C D:U}{e c f:List Int}{P:U}(hc:c≠[])(hf:f≠[])(h1:jU (.dct [A,B] [eE d,eE e]) C=.ok (eE c))(h2:jU (.dct [A,B] [eE d,eE e]) D=.ok (eE f))(hA:∀X,Q9 X [some P,none,none,none,none,none,none,none,none,none,none]=X [some P,some (.tup [.int 0,.int 1]),some (.dct [A,B] [eE d,eE e]),y3,y4,y5,none,none,none,none,none])(hs:n_ [.dct [A,B] [eE d,eE e]]=.ok (.lst [C,D])):cG [P]=.ok (.tup [.tup [.int 0,.int 1],.lst [gg C c,gg D f]]):=by
 obtain⟨ρ,e1,e2,e3⟩:=Mi (y0:=some P) (y3:=y3) (y4:=y4) (y5:=y5) hc hf h1 h2;have hB:∀X,SE X [some P,some (.tup [.int 0,.int 1]),some (.dct [A,B] [eE d,eE e]),y3,y4,y5,none,none,none,none,none]=X [some P,some (.tup [.int 0,.int 1]),some (.dct [A,B] [eE d,eE e]),y3,y4,y5,some ou,some (.lst []),none,none,none]:=by intros;kernel_rfl
 have hE:∃ρ',Q_ ρ=.rt (.tup [.tup [.int 0,.int 1],.lst [gg C c,gg D f]]) ρ':=by
  refine⟨ρ.set 7 none,?_⟩;unfold Q_ tP bo aL af ar ag;rw[e2];dsimp only[R.bind];rw[e3];rfl
 obtain⟨ρ',hE⟩:=hE;have hF:iR (bZ (gz n_ (af (ag 2) ar))) (bJ 3) cX [some P,some (.tup [.int 0,.int 1]),some (.dct [A,B] [eE d,eE e]),y3,y4,y5,some ou,some (.lst []),none,none,none]=.nx ρ:=by
  simp only[Pzz,jL,Nat.reduceAdd,Nat.reduceSub,hs];exact e1
 unfold cG;rw[OP];unfold dE;show (match Q9 _ [some P,none,none,none,none,none,none,none,none,none,none] with|.rt u _=>_|.nx _=>_|.exc c u=>_|_=>_)=_;rw[hA];unfold tP;rw[hB];unfold aF;rw[hF];dsimp only;rw[hE]
noncomputable def Ra:Ev->SR:=(aF (aZ 4 (aG bS (eQ 1 cG (af (ag 2) ar)) (gC (.int 1))))
 (aF (jT (gB (aG (j7 id) (ag 4) (gC .non))) (bo (aL (af (gC (.str "end")) (af (bX ar) ar)))) bu)
 (bo (aL (af (gC (.str "walked")) (af (ag 4) ar))))))
noncomputable def SF:Ev->SR:=(aF (aZ 3 (dO (bZ (ag 2)) [none,none,none] (cU 3 (aE (bJ 0) (aE (bJ 1) (aE (bJ 2) cT)))) (nH (gB (aG (j7 not) (ag 1) (gC .non))) (gB (aG (iS id) (GH Cm (ag 1) oD (ji (gC (.int 1)))) (aL (af (gC (.str "no way")) ar))))) (aG bS (ag 1) (gC (.int 1)))))
 (aF (jT (gB (aG (iS not) (ag 3) (bX ar))) (bo (aL (af (gC (.str "way")) (af (ag 3) ar)))) bu) Ra))
theorem OQ:ku=aF (aZ 2 (eQ 5 (aP 6) (af (ag 0) (af (ag 1) (af (ag 1) (af (gC (.int 1)) (af (aL ar) ar))))))) SF:=rfl
theorem kX {P Q w:U}{l:List U}(hp:aP 6 [P,row,row,.int 1,.tup []]=.ok Q)(hM:∀y0 y1,SF [y0,y1,some Q,none,none]=Ra [y0,y1,some Q,some (.lst []),none])(hw:cG [Q]=.ok (.tup [w,.lst l])):aY [P,row]=.ok (.tup [.str "walked",.lst l]):=by
 unfold aY;rw[OQ];simp only[Pzz,jL,Nat.reduceAdd,Nat.reduceSub,hp];rw[hM];unfold Ra;simp only[Pzz,jL,Nat.reduceAdd,Nat.reduceSub,hw];rfl
noncomputable def pth (s:Bool)(d e:List Int):U:=.lst [.tup [if s then pW else qh,aJ d,.int 2],.tup [if s then qh else pW,aJ e,.int 2]]
noncomputable def lG (d e:List Int):U:=.tup [.str "walked",.lst [gg qh d,gg pW e]]
theorem Rb {P:U}(hp:aP 6 [P,row,row,.int 1,.tup []]=.ok (pth false [d0,d1,d2,d3,d4,d5] [e0,e1,e2,e3,e4,e5])):aY [P,row]=.ok (lG [d0,d1,d2,d3,d4,d5] [e0,e1,e2,e3,e4,e5]):=
 kX hp (by intros;kernel_rfl) (ie (A:=qh) (B:=pW) (C:=qh) (D:=pW) (d:=[d0,d1,d2,d3,d4,d5]) (e:=[e0,e1,e2,e3,e4,e5]) (c:=[d0,d1,d2,d3,d4,d5]) (f:=[e0,e1,e2,e3,e4,e5]) (by simp) (by simp) (by kernel_rfl) (by kernel_rfl) (y3:=some pW) (y4:=some (aJ [e0,e1,e2,e3,e4,e5])) (y5:=some (.int 2)) (by intros;kernel_rfl) (by kernel_rfl))
theorem Rc {P:U}(hp:aP 6 [P,row,row,.int 1,.tup []]=.ok (pth true [d0,d1,d2,d3,d4,d5] [e0,e1,e2,e3,e4,e5])):aY [P,row]=.ok (lG [e0,e1,e2,e3,e4,e5] [d0,d1,d2,d3,d4,d5]):=
 kX hp (by intros;kernel_rfl) (ie (A:=pW) (B:=qh) (C:=qh) (D:=pW) (d:=[d0,d1,d2,d3,d4,d5]) (e:=[e0,e1,e2,e3,e4,e5]) (c:=[e0,e1,e2,e3,e4,e5]) (f:=[d0,d1,d2,d3,d4,d5]) (by simp) (by simp) (by kernel_rfl) (by kernel_rfl) (y3:=some qh) (y4:=some (aJ [e0,e1,e2,e3,e4,e5])) (y5:=some (.int 2)) (by intros;kernel_rfl) (by kernel_rfl))
theorem Rf {P:U}(hp:aP 6 [P,row,row,.int 1,.tup []]=.ok (pth false [d0,d1,d2,d3,d4,d5,d6] [e0,e1,e2,e3,e4,e5,e6])):aY [P,row]=.ok (lG [d0,d1,d2,d3,d4,d5,d6] [e0,e1,e2,e3,e4,e5,e6]):=
 kX hp (by intros;kernel_rfl) (ie (A:=qh) (B:=pW) (C:=qh) (D:=pW) (d:=[d0,d1,d2,d3,d4,d5,d6]) (e:=[e0,e1,e2,e3,e4,e5,e6]) (c:=[d0,d1,d2,d3,d4,d5,d6]) (f:=[e0,e1,e2,e3,e4,e5,e6]) (by simp) (by simp) (by kernel_rfl) (by kernel_rfl) (y3:=some pW) (y4:=some (aJ [e0,e1,e2,e3,e4,e5,e6])) (y5:=some (.int 2)) (by intros;kernel_rfl) (by kernel_rfl))
theorem Rg {P:U}(hp:aP 6 [P,row,row,.int 1,.tup []]=.ok (pth true [d0,d1,d2,d3,d4,d5,d6] [e0,e1,e2,e3,e4,e5,e6])):aY [P,row]=.ok (lG [e0,e1,e2,e3,e4,e5,e6] [d0,d1,d2,d3,d4,d5,d6]):=
 kX hp (by intros;kernel_rfl) (ie (A:=pW) (B:=qh) (C:=qh) (D:=pW) (d:=[d0,d1,d2,d3,d4,d5,d6]) (e:=[e0,e1,e2,e3,e4,e5,e6]) (c:=[e0,e1,e2,e3,e4,e5,e6]) (f:=[d0,d1,d2,d3,d4,d5,d6]) (by simp) (by simp) (by kernel_rfl) (by kernel_rfl) (y3:=some qh) (y4:=some (aJ [e0,e1,e2,e3,e4,e5,e6])) (y5:=some (.int 2)) (by intros;kernel_rfl) (by kernel_rfl))
theorem Rh {P:U}{d7 e7:Int}(hp:aP 6 [P,row,row,.int 1,.tup []]=.ok (pth false [d0,d1,d2,d3,d4,d5,d6,d7] [e0,e1,e2,e3,e4,e5,e6,e7])):aY [P,row]=.ok (lG [d0,d1,d2,d3,d4,d5,d6,d7] [e0,e1,e2,e3,e4,e5,e6,e7]):=
 kX hp (by intros;kernel_rfl) (ie (A:=qh) (B:=pW) (C:=qh) (D:=pW) (d:=[d0,d1,d2,d3,d4,d5,d6,d7]) (e:=[e0,e1,e2,e3,e4,e5,e6,e7]) (c:=[d0,d1,d2,d3,d4,d5,d6,d7]) (f:=[e0,e1,e2,e3,e4,e5,e6,e7]) (by simp) (by simp) (by kernel_rfl) (by kernel_rfl) (y3:=some pW) (y4:=some (aJ [e0,e1,e2,e3,e4,e5,e6,e7])) (y5:=some (.int 2)) (by intros;kernel_rfl) (by kernel_rfl))
theorem Ri {P:U}{d7 e7:Int}(hp:aP 6 [P,row,row,.int 1,.tup []]=.ok (pth true [d0,d1,d2,d3,d4,d5,d6,d7] [e0,e1,e2,e3,e4,e5,e6,e7])):aY [P,row]=.ok (lG [e0,e1,e2,e3,e4,e5,e6,e7] [d0,d1,d2,d3,d4,d5,d6,d7]):=
 kX hp (by intros;kernel_rfl) (ie (A:=pW) (B:=qh) (C:=qh) (D:=pW) (d:=[d0,d1,d2,d3,d4,d5,d6,d7]) (e:=[e0,e1,e2,e3,e4,e5,e6,e7]) (c:=[e0,e1,e2,e3,e4,e5,e6,e7]) (f:=[d0,d1,d2,d3,d4,d5,d6,d7]) (by simp) (by simp) (by kernel_rfl) (by kernel_rfl) (y3:=some qh) (y4:=some (aJ [e0,e1,e2,e3,e4,e5,e6,e7])) (y5:=some (.int 2)) (by intros;kernel_rfl) (by kernel_rfl))
noncomputable abbrev Gi:=Nat×Nat
noncomputable def jr:List Gi:=[(0,0),(1,0),(0,1),(1,1)]
noncomputable def bU (q:Gi):U:=.tup [.int q.1,.int q.2]
noncomputable def bV (q:Gi):U:=.tup [.int q.1,.int q.2,.int 0]
noncomputable def PL (m:Nat)(t:IB):U:=SD (iY [.int m,.int t.1,.int t.2.1,.int t.2.2])
noncomputable def Mj (xs:List Int)(k:Nat)(b:Int):List Int:=(xs.set (2*k) b).set (2*k+1) (1-b)
noncomputable def fc (t:IB)(q:Gi)(xs:List Int):U:=aJ (Mj (Mj (Mj xs t.1 q.1) t.2.1 q.2) t.2.2 0)
noncomputable def nh (m:Nat)(t:IB)(xs:List Int):List Int:=((VN m).filter λp=>p / 2 != t.1&&p / 2 != t.2.1&&p / 2 != t.2.2).map λp=>xs.getD p 0
noncomputable def qi (q:Gi):List Int:=if q.1=1/\q.2=1 then [1,0,0,1] else [0,1,0,1]
noncomputable def GI (q:Gi):List Int:=if q.1=0/\q.2=1 then [1,0] else [0,1]
noncomputable def ja (m:Nat)(t:IB)(q:Gi)(xs:List Int):List Int:=qi q++GI q++nh m t xs
noncomputable def ud:U:=.lst [.tup [.tup [.tup [.int 0]],.tup [.int 1,.int 2]],.tup [.tup [.tup [.int 1]],.tup [.int 1,.int 2]]]
noncomputable def Gj:Ev->R (U×Ev):=(aG fu (eQ 1 ky (af (gz BN (af (ag 8) ar)) ar)) (aL (af (gC (.int 0)) (af (gC (.int 1)) ar))))
structure uD (m n:Nat):Prop where
 cop:∀t∈iQ n,iY [.int m,.int t.1,.int t.2.1,.int t.2.2]=.ok (PL m t)
 snd:∀t∈iQ n,dk 6 [PL m t,.int m,.bl true]=.ok (.tup [.int 4,.int 3])
 row:∀t∈iQ n,∀b∈jr,∀xs:List Int,xs.length=m->∀s,rg (IF [some s,some (.int m),some (i_ t),some (bV b),some (.lst (xs.map .int)),none,none])=.ok (fc t b xs,s)
 oth:∀t∈iQ n,∀b∈jr,∀xs:List Int,xs.length=m->bw [fc t b xs,i_ t]=.ok (aJ (nh m t xs))
 path:∀t∈iQ n,∀b∈jr,∀xs:List Int,xs.length=m->aP 6 [PL m t,fc t b xs,fc t b xs,.int 1,.tup []]=.ok (pth (b.1==1) (ja m t b xs) (ja m t b xs))
 len:∀t∈iQ n,∀xs,(nh m t xs).length+6=m
 gn:∀(d e:List Int) (s:Bool) (P row:U),d.length=m->e.length=m->aP 6 [P,row,row,.int 1,.tup []]=.ok (pth s d e)->aY [P,row]=.ok (if s=true then lG e d else lG d e)
theorem BS {t:IB}{b:Gi}{xs:List Int}:(ja m t b xs).length=(nh m t xs).length+6:=by
 unfold ja qi GI;rw[Ve,Ve];split<;>split<;>simp<;>lia
open Hc.Ts
theorem Ml {P:U}{e:List Int}(hd:d≠[])(he:d=e)(hg:aY [P,row]=.ok (lG d e)):dQ [P,row]=.ok (.lst [aJ d]):=by
 subst he;have q:∀y0 y1,iR (bZ (ag 3)) (cU 3 (aE (bJ 5) (aE (bJ 6) (aE (bJ 7) cT)))) gF [y0,y1,some (.str "walked"),some (.lst [gg qh d,gg pW d]),some (.lst []),none,none,none]=.nx [y0,y1,some (.str "walked"),some (.lst [gg qh d,gg pW d]),some (.lst [aJ d,aJ d]),some pW,some vc,some (.lst [.tup [aJ d,ou]])]:=by intros;kernel_rfl
 have a:∀y0 y1 X,aF (jT (gB (aG (iS not) (ag 2) (gC (.str "walked")))) (bo (gC .non)) bu) (aF (aZ 4 (bX ar)) X) [y0,y1,some (.str "walked"),some (.lst [gg qh d,gg pW d]),none,none,none,none]=X [y0,y1,some (.str "walked"),some (.lst [gg qh d,gg pW d]),some (.lst []),none,none,none]:=by intros;kernel_rfl
 have b:Ci (cU 2 (aE (bJ 2) (aE (bJ 3) cT))) (eQ 2 aY (af (ag 0) (af (ag 1) ar))) [some P,some row,none,none,none,none,none,none]=.nx [some P,some row,some (.str "walked"),some (.lst [gg qh d,gg pW d]),none,none,none,none]:=by
  simp only[Pzz,jL,Nat.reduceAdd,Nat.reduceSub,hg];rfl
 unfold dQ iF;rw[vG];simp only[jL,uH,Vp,Xg,Vi,Xt,Nat.reduceAdd,Nat.reduceSub,WM,YV,XA,WS];rw[b,nR];have a':=a (some P) (some row) (aF (iR (bZ (ag 3)) (cU 3 (aE (bJ 5) (aE (bJ 6) (aE (bJ 7) cT)))) gF) (bo (gz gf (af (ag 4) ar))));rw[a',uH,q,nR];simp only[Pzz,jL,Nat.reduceAdd,Nat.reduceSub,C8 hd]
theorem Mm {P:U}{e:List Int}(hg:aY [P,row]=.ok (lG d e)):bQ [P,row]=.ok ud:=by
 have b:Ci (cU 2 (aE (bJ 2) (aE (bJ 3) cT))) (eQ 2 aY (af (ag 0) (af (ag 1) ar))) [some P,some row,none,none]=.nx [some P,some row,some (.str "walked"),some (.lst [gg qh d,gg pW e])]:=by
  simp only[Pzz,jL,Nat.reduceAdd,Nat.reduceSub,hg];rfl
 unfold bQ eL;rw[vG];simp only[jL,uH,Vp,Xg,Vi,Xt,Nat.reduceAdd,Nat.reduceSub,WM,YV,XA,WS];rw[b,nR]
 kernel_rfl
theorem Rj:∀t∈iQ 3,∀b∈jr,∀xs:List Int,xs.length=6->∀s,rg (IF [some s,some (.int (6:Nat)),some (i_ t),some (bV b),some (.lst (xs.map .int)),none,none])=.ok (fc t b xs,s):=by
 have A:∀(x0 x1 x2 x3 x4 x5:Int) (s:U),(iQ 3).map (λt=>jr.map λb=>rg (IF [some s,some (.int (6:Nat)),some (i_ t),some (bV b),some (.lst ([x0,x1,x2,x3,x4,x5].map .int)),none,none]))=(iQ 3).map (λt=>jr.map λb=>.ok (fc t b [x0,x1,x2,x3,x4,x5],s)):=by intros;kernel_rfl
 intro t ht b hb xs hl s
 match xs,hl with
 | [x0,x1,x2,x3,x4,x5],_=>exact du (du (A x0 x1 x2 x3 x4 x5 s) t ht) b hb
theorem Rk:∀t∈iQ 3,∀b∈jr,∀xs:List Int,xs.length=6->bw [fc t b xs,i_ t]=.ok (aJ (nh 6 t xs)):=by
 have A:∀(x0 x1 x2 x3 x4 x5:Int),(iQ 3).map (λt=>jr.map λb=>bw [fc t b [x0,x1,x2,x3,x4,x5],i_ t])=(iQ 3).map (λt=>jr.map λb=>.ok (aJ (nh 6 t [x0,x1,x2,x3,x4,x5]))):=by intros;kernel_rfl
 intro t ht b hb xs hl
 match xs,hl with
 | [x0,x1,x2,x3,x4,x5],_=>exact du (du (A x0 x1 x2 x3 x4 x5) t ht) b hb
theorem OR:∀t∈iQ 3,∀b∈jr,∀xs:List Int,xs.length=6->aP 6 [PL 6 t,fc t b xs,fc t b xs,.int 1,.tup []]=.ok (pth (b.1==1) (ja 6 t b xs) (ja 6 t b xs)):=by
 have A:∀(x0 x1 x2 x3 x4 x5:Int),(iQ 3).map (λt=>jr.map λb=>aP 6 [PL 6 t,fc t b [x0,x1,x2,x3,x4,x5],fc t b [x0,x1,x2,x3,x4,x5],.int 1,.tup []])=(iQ 3).map (λt=>jr.map λb=>.ok (pth (b.1==1) (ja 6 t b [x0,x1,x2,x3,x4,x5]) (ja 6 t b [x0,x1,x2,x3,x4,x5]))):=by intros;kernel_rfl
 intro t ht b hb xs hl
 match xs,hl with
 | [x0,x1,x2,x3,x4,x5],_=>exact du (du (A x0 x1 x2 x3 x4 x5) t ht) b hb
theorem Rl:uD 6 3:=by
 have a1:(iQ 3).all (λt=>BR (iY [.int (6:Nat),.int t.1,.int t.2.1,.int t.2.2]))=true:=by kernel_rfl
 have a2:(iQ 3).all (λt=>IA (dk 6 [PL 6 t,.int (6:Nat),.bl true]) (.tup [.int 4,.int 3]))=true:=by kernel_rfl
 have a3:∀t∈iQ 3,((VN 6).filter λp=>p / 2 != t.1&&p / 2 != t.2.1&&p / 2 != t.2.2).length=0:=by decide
 refine⟨λt ht=>Gd (VZ.mp a1 t ht),λt ht=>wN (VZ.mp a2 t ht),Rj,Rk,OR,λt ht xs=>?_,λd e s P row hd he hp=>?_⟩
 ·unfold nh;rw[Vd,a3 t ht]
 ·match d,e,hd,he with
  | [d0,d1,d2,d3,d4,d5],[e0,e1,e2,e3,e4,e5],_,_=>
   cases s with
   |false=>exact Rb hp
   |true=>exact Rc hp
theorem Rm:∀t∈iQ 3,∀b∈jr,∀xs:List Int,xs.length=7->∀s,rg (IF [some s,some (.int (7:Nat)),some (i_ t),some (bV b),some (.lst (xs.map .int)),none,none])=.ok (fc t b xs,s):=by
 have A:∀(x0 x1 x2 x3 x4 x5 x6:Int) (s:U),(iQ 3).map (λt=>jr.map λb=>rg (IF [some s,some (.int (7:Nat)),some (i_ t),some (bV b),some (.lst ([x0,x1,x2,x3,x4,x5,x6].map .int)),none,none]))=(iQ 3).map (λt=>jr.map λb=>.ok (fc t b [x0,x1,x2,x3,x4,x5,x6],s)):=by intros;kernel_rfl
 intro t ht b hb xs hl s
 match xs,hl with
 | [x0,x1,x2,x3,x4,x5,x6],_=>exact du (du (A x0 x1 x2 x3 x4 x5 x6 s) t ht) b hb
theorem Rn:∀t∈iQ 3,∀b∈jr,∀xs:List Int,xs.length=7->bw [fc t b xs,i_ t]=.ok (aJ (nh 7 t xs)):=by
 have A:∀(x0 x1 x2 x3 x4 x5 x6:Int),(iQ 3).map (λt=>jr.map λb=>bw [fc t b [x0,x1,x2,x3,x4,x5,x6],i_ t])=(iQ 3).map (λt=>jr.map λb=>.ok (aJ (nh 7 t [x0,x1,x2,x3,x4,x5,x6]))):=by intros;kernel_rfl
 intro t ht b hb xs hl
 match xs,hl with
 | [x0,x1,x2,x3,x4,x5,x6],_=>exact du (du (A x0 x1 x2 x3 x4 x5 x6) t ht) b hb
theorem OS:∀t∈iQ 3,∀b∈jr,∀xs:List Int,xs.length=7->aP 6 [PL 7 t,fc t b xs,fc t b xs,.int 1,.tup []]=.ok (pth (b.1==1) (ja 7 t b xs) (ja 7 t b xs)):=by
 have A:∀(x0 x1 x2 x3 x4 x5 x6:Int),(iQ 3).map (λt=>jr.map λb=>aP 6 [PL 7 t,fc t b [x0,x1,x2,x3,x4,x5,x6],fc t b [x0,x1,x2,x3,x4,x5,x6],.int 1,.tup []])=(iQ 3).map (λt=>jr.map λb=>.ok (pth (b.1==1) (ja 7 t b [x0,x1,x2,x3,x4,x5,x6]) (ja 7 t b [x0,x1,x2,x3,x4,x5,x6]))):=by intros;kernel_rfl
 intro t ht b hb xs hl
 match xs,hl with
 | [x0,x1,x2,x3,x4,x5,x6],_=>exact du (du (A x0 x1 x2 x3 x4 x5 x6) t ht) b hb
theorem Ro:uD 7 3:=by
 have a1:(iQ 3).all (λt=>BR (iY [.int (7:Nat),.int t.1,.int t.2.1,.int t.2.2]))=true:=by kernel_rfl
 have a2:(iQ 3).all (λt=>IA (dk 6 [PL 7 t,.int (7:Nat),.bl true]) (.tup [.int 4,.int 3]))=true:=by kernel_rfl
 have a3:∀t∈iQ 3,((VN 7).filter λp=>p / 2 != t.1&&p / 2 != t.2.1&&p / 2 != t.2.2).length=1:=by decide
 refine⟨λt ht=>Gd (VZ.mp a1 t ht),λt ht=>wN (VZ.mp a2 t ht),Rm,Rn,OS,λt ht xs=>?_,λd e s P row hd he hp=>?_⟩
 ·unfold nh;rw[Vd,a3 t ht]
 ·match d,e,hd,he with
  | [d0,d1,d2,d3,d4,d5,d6],[e0,e1,e2,e3,e4,e5,e6],_,_=>
   cases s with
   |false=>exact Rf hp
   |true=>exact Rg hp
theorem Rq:∀t∈iQ 4,∀b∈jr,∀xs:List Int,xs.length=8->∀s,rg (IF [some s,some (.int (8:Nat)),some (i_ t),some (bV b),some (.lst (xs.map .int)),none,none])=.ok (fc t b xs,s):=by
 have A:∀(x0 x1 x2 x3 x4 x5 x6 x7:Int) (s:U),(iQ 4).map (λt=>jr.map λb=>rg (IF [some s,some (.int (8:Nat)),some (i_ t),some (bV b),some (.lst ([x0,x1,x2,x3,x4,x5,x6,x7].map .int)),none,none]))=(iQ 4).map (λt=>jr.map λb=>.ok (fc t b [x0,x1,x2,x3,x4,x5,x6,x7],s)):=by intros;kernel_rfl
 intro t ht b hb xs hl s
 match xs,hl with
 | [x0,x1,x2,x3,x4,x5,x6,x7],_=>exact du (du (A x0 x1 x2 x3 x4 x5 x6 x7 s) t ht) b hb
theorem Rr:∀t∈iQ 4,∀b∈jr,∀xs:List Int,xs.length=8->bw [fc t b xs,i_ t]=.ok (aJ (nh 8 t xs)):=by
 have A:∀(x0 x1 x2 x3 x4 x5 x6 x7:Int),(iQ 4).map (λt=>jr.map λb=>bw [fc t b [x0,x1,x2,x3,x4,x5,x6,x7],i_ t])=(iQ 4).map (λt=>jr.map λb=>.ok (aJ (nh 8 t [x0,x1,x2,x3,x4,x5,x6,x7]))):=by intros;kernel_rfl
 intro t ht b hb xs hl
 match xs,hl with
 | [x0,x1,x2,x3,x4,x5,x6,x7],_=>exact du (du (A x0 x1 x2 x3 x4 x5 x6 x7) t ht) b hb
theorem OT:∀t∈iQ 4,∀b∈jr,∀xs:List Int,xs.length=8->aP 6 [PL 8 t,fc t b xs,fc t b xs,.int 1,.tup []]=.ok (pth (b.1==1) (ja 8 t b xs) (ja 8 t b xs)):=by
 have A:∀(x0 x1 x2 x3 x4 x5 x6 x7:Int),(iQ 4).map (λt=>jr.map λb=>aP 6 [PL 8 t,fc t b [x0,x1,x2,x3,x4,x5,x6,x7],fc t b [x0,x1,x2,x3,x4,x5,x6,x7],.int 1,.tup []])=(iQ 4).map (λt=>jr.map λb=>.ok (pth (b.1==1) (ja 8 t b [x0,x1,x2,x3,x4,x5,x6,x7]) (ja 8 t b [x0,x1,x2,x3,x4,x5,x6,x7]))):=by intros;kernel_rfl
 intro t ht b hb xs hl
 match xs,hl with
 | [x0,x1,x2,x3,x4,x5,x6,x7],_=>exact du (du (A x0 x1 x2 x3 x4 x5 x6 x7) t ht) b hb
theorem Rt:uD 8 4:=by
 have a1:(iQ 4).all (λt=>BR (iY [.int (8:Nat),.int t.1,.int t.2.1,.int t.2.2]))=true:=by kernel_rfl
 have a2:(iQ 4).all (λt=>IA (dk 6 [PL 8 t,.int (8:Nat),.bl true]) (.tup [.int 4,.int 3]))=true:=by kernel_rfl
 have a3:∀t∈iQ 4,((VN 8).filter λp=>p / 2 != t.1&&p / 2 != t.2.1&&p / 2 != t.2.2).length=2:=by decide
 refine⟨λt ht=>Gd (VZ.mp a1 t ht),λt ht=>wN (VZ.mp a2 t ht),Rq,Rr,OT,λt ht xs=>?_,λd e s P row hd he hp=>?_⟩
 ·unfold nh;rw[Vd,a3 t ht]
 ·match d,e,hd,he with
  | [d0,d1,d2,d3,d4,d5,d6,d7],[e0,e1,e2,e3,e4,e5,e6,e7],_,_=>
   cases s with
   |false=>exact Rh hp
   |true=>exact Ri hp
noncomputable def cA:Ev->R (Bool×Ev):=(gB (aG (iS not) (GH Cm (ag 3) oD (ji (gC (.int 4)))) (ag 1)))
noncomputable def cB:Ev->R (Bool×Ev):=(gB (aG (L9 not) (GH Cm (ag 3) (ji (gC (.int 4))) (ji (gC (.int 6)))) (aL (af (aL (af (gC (.int 0)) (af (gC (.int 1)) ar))) (af (aL (af (gC (.int 1)) (af (gC (.int 0)) ar))) ar)))))
noncomputable def cC:Ev->R (U×Ev):=(GH Cm (ag 3) (ji (gC (.int 6))) oD)
theorem OU:f7=jT (yQ cA (yQ cB (gB (aG (iS not) cC (ag 2))))) (bo (gC (.bl false))) bu:=rfl
theorem Gk {q:Gi}(hq:q∈jr){oth:List Int}(hl:oth.length<=2):eB [.lst [aJ (qi q++GI q++oth)],aJ (qi q),aJ oth]=.ok (.bl true):=by
 obtain⟨d,hd⟩:∃d,d=qi q++GI q++oth:=⟨_,rfl⟩;have Td:∀y0,cA [y0,some (aJ (qi q)),some (aJ oth),some (aJ (qi q++GI q++oth))]=.ok (false,[y0,some (aJ (qi q)),some (aJ oth),some (aJ (qi q++GI q++oth))])/\
   cB [y0,some (aJ (qi q)),some (aJ oth),some (aJ (qi q++GI q++oth))]=.ok (false,[y0,some (aJ (qi q)),some (aJ oth),some (aJ (qi q++GI q++oth))])/\
   cC [y0,some (aJ (qi q)),some (aJ oth),some (aJ (qi q++GI q++oth))]=.ok (aJ oth,[y0,some (aJ (qi q)),some (aJ oth),some (aJ (qi q++GI q++oth))]):=by
  intro y0;unfold jr at hq;simp only[Vk,W2,or_false] at hq
  match oth,hl with
  | [],_=>rcases hq with rfl|rfl|rfl|rfl<;>exact⟨by kernel_rfl,by kernel_rfl,by kernel_rfl⟩
  | [x],_=>rcases hq with rfl|rfl|rfl|rfl<;>exact⟨by kernel_rfl,by kernel_rfl,by kernel_rfl⟩
  | [x,y],_=>rcases hq with rfl|rfl|rfl|rfl<;>exact⟨by kernel_rfl,by kernel_rfl,by kernel_rfl⟩
 rw[←hd] at Td ⊢;have eo:tM (aJ oth) (aJ oth)=.ok true:=by
  have:=FF oth oth;rw[hG rfl] at this;exact this
 have st:∀y0,f7 [y0,some (aJ (qi q)),some (aJ oth),some (aJ d)]=.nx [y0,some (aJ (qi q)),some (aJ oth),some (aJ d)]:=λy0=>by
  obtain⟨a,b,c⟩:=Td y0;rw[OU];simp only[Pzz,jL,Nat.reduceAdd,Nat.reduceSub,a,b,c,eo]
 have en:tM (.lst [aJ d]) (.lst [])=.ok false:=by
  have e1:mF (.lst [aJ d])=some (.lst [.tup (d.map .int)]):=by
   unfold mF j6 j6;rw[ID];rfl
  have e2:mF (.lst [])=some (.lst []):=by unfold mF j6;rfl
  have e3:dJ (.lst [.tup (d.map .int)])<=30:=by
   have:=lR d;unfold dJ jK jK dJ;rw[this];decide
  unfold tM;rw[e1,e2];dsimp only;rw[hV e3];unfold i5 jw;rfl
 have fg:∀y0,fJ (bJ 3) f7 [aJ d] [y0,some (aJ (qi q)),some (aJ oth),none]=.nx [y0,some (aJ (qi q)),some (aJ oth),some (aJ d)]:=λy0=>by
  unfold fJ;show SR.of (R.ok _) _=_;simp only[rh,XH,WW,st];rfl
 unfold eB jF;simp only[Pzz,jL,Nat.reduceAdd,Nat.reduceSub,fg,en]
theorem OV:oj=(aF (aZ 9 (zu 4 2 cz (af (ag 3) (af (ag 4) (af (aG fu (ag 8) (aL (af (gC (.int 0)) ar))) ar)))))
 (aF (aZ 10 (eQ 2 dQ (af (ag 5) (af (ag 9) ar))))
 (aF (aZ 11 Gj)
 (aF (jT (yQ (gB (aG (j7 id) (ag 10) (gC .non))) (Ef (gB (eQ 3 eB (af (ag 10) (af (ag 11) (af (eQ 2 bw (af (ag 9) (af (ag 4) ar))) ar))))))) (bo (gC (.bl false))) bu)
 (lj (gM "list" 7 iW (af (eQ 2 bQ (af (ag 5) (af (ag 9) ar))) ar))))))):=rfl
theorem Mn {t:IB}{b:Gi}{xs:List Int}:ja m t b xs≠[]:=λe=>by
 have:=BS (m:=m) (t:=t) (b:=b) (xs:=xs);rw[e] at this;simp at this
theorem Mo (T:uD m n)(hm:m<=8){t:IB}(ht:t∈iQ n){b:Gi}(hb:b∈jr){s:U}(h:Ap s){sn:List U}(hl:sn.length<1000){y1 y9 y10 y11:Option U} :
  ∃s' z9 z10 z11,oj [y0,y1,some s,some (.int m),some (i_ t),some (PL m t),y6,some (.lst sn),some (bU b),y9,y10,y11]=.nx [y0,y1,some s',some (.int m),some (i_ t),some (PL m t),y6,some (.lst (sn++[ud])),some (bU b),z9,z10,z11]/\Ap s':=by
 obtain⟨xs,s',e1,hx,hs⟩:=Gf (nu:=i_ t) (bi:=bV b) (R:=fc t b) h (by lia) λxs hx s=>T.row t ht b hb xs hx s;have lo:=T.len t ht xs;have ld:(ja m t b xs).length=m:=by rw[BS];exact lo
 have e2:=T.oth t ht b hb xs hx;have hg:=T.gn _ _ _ _ _ ld ld (T.path t ht b hb xs hx);rw[ite_self] at hg;have e3:=Ml Mn rfl hg;have e4:=Mm hg;have ap:iW (.lst sn) [ud]=.ok (.non,.lst (sn++[ud])):=by
  unfold iW;dsimp only;exact hV (by rw[W8];lia)
 have ah:∀y0 y1 y2 y3 y4 y5 y6 y7 y9 y10 y11,Gj [y0,y1,y2,y3,y4,y5,y6,y7,some (bU b),y9,y10,y11]=.ok (aJ (qi b),[y0,y1,y2,y3,y4,y5,y6,y7,some (bU b),y9,y10,y11]):=by
  unfold jr at hb;simp only[Vk,W2,or_false] at hb;rcases hb with rfl|rfl|rfl|rfl<;>(intros;kernel_rfl)
 have cm:eB [.lst [aJ (ja m t b xs)],aJ (qi b),aJ (nh m t xs)]=.ok (.bl true):=Gk hb (by lia);have iN:xx (.lst [aJ (ja m t b xs)])=false:=rfl;have pa:fu (bU b) (.tup [.int 0])=.ok (bV b):=by unfold bU;rw[zU];rfl
 refine⟨s',some (fc t b xs),some (.lst [aJ (ja m t b xs)]),some (aJ (qi b)),?_,hs⟩;rw[OV];simp only[Pzz,jL,Nat.reduceAdd,Nat.reduceSub,pa,e1,e2,e3,ah,iN,id,cm,e4,ap]
noncomputable def SG:Ev->SR:=(jT (gB (aG (iS not) (dO (bZ (ag 7)) [none,some 7] (bJ 0) (gB (aG (iS not) (ag 0) (aG bS (ag 1) (gC (.int 0))))) (ag 0)) (bX ar))) (bo (gC (.bl false))) bu)
noncomputable def SH:Ev->R (List U×Ev):=(bZ (aG BF (eQ 1 gE (af (gC (.int 2)) ar)) (gC (.int 2))))
theorem OW:sP=(aF (aZ 2 (eQ 2 di (af (ag 0) (af (ag 1) ar))))
 (aF (aZ 3 (aG fu (gC (.int 6)) (zu 2 2 bf (af (gC (.int 3)) ar))))
 (aF (aZ 4 (zu 3 2 cY (af (ag 3) (af (gC (.int 3)) ar))))
 (aF (aZ 5 (eQ 4 iY (af (ag 3) (af (aG bS (ag 4) (gC (.int 0))) (af (aG bS (ag 4) (gC (.int 1))) (af (aG bS (ag 4) (gC (.int 2))) ar))))))
 (aF (aZ 6 (eQ 3 (dk 6) (af (ag 5) (af (ag 3) (af (gC (.bl true)) ar)))))
 (aF (jT (yQ (gB (aG (j7 id) (ag 6) (gC .non))) (yQ (gB (aG Hy (aG bS (ag 6) (gC (.int 0))) (gC (.int 5)))) (gB (aG Hy (aG bS (ag 6) (gC (.int 1))) (gC (.int 3)))))) (bo (gC (.bl false))) bu)
 (aF (aZ 7 (bX ar))
 (aF (iR SH (bJ 8) oj) SG)))))))):=rfl
theorem OX {os:List Int}(h:os.length=3):∃a b c,os=[a,b,c]:=by
 match os,h with
 | [a,b,c],_=>exact⟨a,b,c,rfl⟩
theorem sV (T:uD m n)(hn:(m:Int) / 2=n)(h3:3<=n)(hm:m<=8)(Kk:n<=1000){u0 s:U}{i r:Int}(h:Ap s){s0:U}(UK:di [u0,.int i]=.ok s0)(UL:bf [s0,.int 3]=.ok (.int r,s))(hr:6+r=m){x2 x3 x4 x5 x6 x7 x8 x9 x10 x11:Option U} :
  ∃a2 a3 a4 a5 a6 a7 a8 a9 a10 a11:Option U,sP [some u0,some (.int i),x2,x3,x4,x5,x6,x7,x8,x9,x10,x11]=.nx [some u0,some (.int i),a2,a3,a4,a5,a6,a7,a8,a9,a10,a11]:=by
 obtain⟨os,s1,e1,ho,nd,hb,hs1⟩:=IE (c:=3) h hn Kk h3 (by lia);obtain⟨a,b,c,rfl⟩:=OX ho;obtain⟨a,rfl⟩:∃k:Nat,a=k:=⟨a.toNat,by have:=(hb a (by simp)).1;lia⟩;obtain⟨b,rfl⟩:∃k:Nat,b=k:=⟨b.toNat,by have:=(hb b (by simp)).1;lia⟩;obtain⟨c,rfl⟩:∃k:Nat,c=k:=⟨c.toNat,by have:=(hb c (by simp)).1;lia⟩;have ht:(a,b,c)∈iQ n:=by
  have:=(hb a (by simp)).2;have:=(hb b (by simp)).2;have:=(hb c (by simp)).2;simp only[Wj,Vk,W2,or_false,not_or] at nd;obtain⟨⟨n1,n2⟩,n3,_⟩:=nd;exact IC (by lia) (by lia) (by lia) (λe=>n1 (by rw[e])) (λe=>n2 (by rw[e])) (λe=>n3 (by rw[e]))
 replace e1:cY [s,.int m,.int 3]=.ok (.lst [.int a,.int b,.int c],s1):=e1
 have e2:=T.cop _ ht;have e3:=T.snd _ ht;have hB:∀ρ,SH ρ=.ok ((jr++jr).map bU,ρ):=by intro ρ;kernel_rfl
 obtain⟨ρ,e4,s2,y8,y9,y10,y11,rfl,cK⟩:=uK (us:=(jr++jr).map bU) (sg:=bJ 8) (s:=oj) (λj ρ=>∃s y8 y9 y10 y11,ρ=[some u0,some (.int i),some s,some (.int m),some (i_ (a,b,c)),some (PL m (a,b,c)),some (.tup [.int 4,.int 3]),some (.lst (V2 j ud)),y8,y9,y10,y11]/\Ap s)
  (λj u ρ hu h00=>by
   obtain⟨s,y8,y9,y10,y11,hr,hs⟩:=h00;subst hr;have hi:j<8:=(Vg.mp hu).1;obtain⟨b',s9,rfl⟩:=V3.mp (Wc hu);have s9:b'∈jr:=(Vv.mp s9).elim id id;obtain⟨s',z9,z10,z11,q,hs'⟩:=Mo T hm ht s9 hs (sn:=V2 j ud) (by rw[Yh];lia) (y0:=some u0) (y1:=some (.int i)) (y6:=some (.tup [.int 4,.int 3])) (y9:=y9) (y10:=y10) (y11:=y11);rw[←List.replicate_succ'] at q;exact⟨_,_,rfl,.inl q,_,_,_,_,_,rfl,hs'⟩)
  (ρ:=[some u0,some (.int i),some s1,some (.int m),some (i_ (a,b,c)),some (PL m (a,b,c)),some (.tup [.int 4,.int 3]),some (.lst []),x8,x9,x10,x11]) ⟨_,_,_,_,_,rfl,hs1⟩
 have hE:∀y0 y1 y2 y3 y4 y5 y6 y8 y9 y10 y11,SG [y0,y1,y2,y3,y4,y5,y6,some (.lst (V2 8 ud)),y8,y9,y10,y11]=.nx [y0,y1,y2,y3,y4,y5,y6,some (.lst (V2 8 ud)),y8,y9,y10,y11]:=by intros;kernel_rfl
 have UM:fJ (bJ 8) oj ((jr++jr).map bU) [some u0,some (.int i),some s1,some (.int m),some (.lst [.int a,.int b,.int c]),some (PL m (a,b,c)),some (.tup [.int 4,.int 3]),some (.lst []),x8,x9,x10,x11]=.nx [some u0,some (.int i),some s2,some (.int m),some (i_ (a,b,c)),some (PL m (a,b,c)),some (.tup [.int 4,.int 3]),some (.lst (V2 8 ud)),y8,y9,y10,y11]:=e4;have g4:decide ((4:Int)>5)=false:=by decide
 have g3:decide ((3:Int)>3)=false:=by decide
 have iN:xx (.tup [.int 4,.int 3])=false:=rfl;refine⟨some s2,some (.int m),some (i_ (a,b,c)),some (PL m (a,b,c)),some (.tup [.int 4,.int 3]),some (.lst (V2 8 ud)),y8,y9,y10,y11,?_⟩;rw[OW];simp only[Pzz,jL,Nat.reduceAdd,Nat.reduceSub,UK,UL,hr,e1,e2,e3,iN,id,g4,g3,hB,UM];exact hE _ _ _ _ _ _ _ _ _ _ _
theorem OY {x2 x3 x4 x5 x6 x7 x8 x9 x10 x11:Option U}:∃a2 a3 a4 a5 a6 a7 a8 a9 a10 a11:Option U,sP [some (.scr (ns.map .int)),some (.int i),x2,x3,x4,x5,x6,x7,x8,x9,x10,x11]=.nx [some (.scr (ns.map .int)),some (.int i),a2,a3,a4,a5,a6,a7,a8,a9,a10,a11]:=by
 obtain⟨s0,e0,h0⟩:=Gb (us:=[]) (u:=.scr (ns.map .int)) (ns:=ns) (k:=i) (.inl rfl) (by lia);obtain⟨r,s1,e1,r0,r1,h1⟩:=wM (m:=3) h0 (by decide) (by decide);obtain⟨k,rfl⟩:∃k:Nat,r=k:=⟨r.toNat,by lia⟩
 match k,r1,e1 with
 |0,_,e1=>exact sV Rl (by decide) (by decide) (by decide) (by decide) h1 e0 e1 (by decide)
 |1,_,e1=>exact sV Ro (by decide) (by decide) (by decide) (by decide) h1 e0 e1 (by decide)
 |2,_,e1=>exact sV Rt (by decide) (by decide) (by decide) (by decide) h1 e0 e1 (by decide)
 |k+3,h,_=>lia
theorem pure_law (ns:List Int)(hl:ns.length<=63):yB [.scr (ns.map .int)]=.ok (.bl true):=by
 obtain⟨z,hz⟩:∃z:Nat,(if (if (3:Int)<(((ns.map U.int).length:Nat):Int) then 3 else (((ns.map U.int).length:Nat):Int))>1 then (if (3:Int)<(((ns.map U.int).length:Nat):Int) then 3 else (((ns.map U.int).length:Nat):Int)) else 1)=z:=⟨(if (if (3:Int)<(((ns.map U.int).length:Nat):Int) then 3 else (((ns.map U.int).length:Nat):Int))>1 then (if (3:Int)<(((ns.map U.int).length:Nat):Int) then 3 else (((ns.map U.int).length:Nat):Int)) else 1).toNat,by split<;>(try split)<;>lia⟩;have zb:z<=1000:=by split at hz<;>(try split at hz)<;>lia
 obtain⟨ρ',e,a1,a2,a3,a4,a5,a6,a7,a8,a9,a10,a11,rfl⟩:=uK (us:=b_ 0 z) (sg:=bJ 1) (s:=sP) (λ_ ρ=>∃a1 a2 a3 a4 a5 a6 a7 a8 a9 a10 a11:Option U,ρ=[some (.scr (ns.map .int)),a1,a2,a3,a4,a5,a6,a7,a8,a9,a10,a11])
  (λi u ρ hu h00=>by
   obtain⟨a1,a2,a3,a4,a5,a6,a7,a8,a9,a10,a11,hr⟩:=h00;subst hr;have hi:i<z:=by
    rcases Yl i z with y|y
    ·exact y
    ·rw[WH.mpr (by rw[fP];exact y)] at hu;cases hu
   obtain rfl:u=.int i:=by
    rw[xM] at hu;unfold ir at hu;rw[W0,VL,YT hi] at hu;cases hu;rfl
   obtain⟨b2,b3,b4,b5,b6,b7,b8,b9,b10,b11,q⟩:=OY (ns:=ns) (i:=i) (x2:=a2) (x3:=a3) (x4:=a4) (x5:=a5) (x6:=a6) (x7:=a7) (x8:=a8) (x9:=a9) (x10:=a10) (x11:=a11);exact⟨_,_,rfl,.inl q,_,_,_,_,_,_,_,_,_,_,_,rfl⟩)
  (ρ:=[some (.scr (ns.map .int)),none,none,none,none,none,none,none,none,none,none,none]) ⟨_,_,_,_,_,_,_,_,_,_,_,rfl⟩
 unfold yB F8;simp only[Pzz,jL,Nat.reduceAdd,Nat.reduceSub,hz,zT z (by lia),e]
theorem walk {q:XJ}{d:DefRec}{K:Params->U7}(O3:d.params.defaults=[])(hY:∀(w:Ya) (h:XI),YP w h->(K w.params).In h)(F:∀(w:Ya) (mg:Str->Option Va) (fa:Vr) (h:XI),(K w.params).In h->h.Ns V0 mg->mg d.name=some (.ref fa)->
   ∃fd:ZF,(∀(s:Vo) (u:Va),BindsTo s fd ⟨[u],[]⟩ [("script",u)])/\∀base:XI,(K w.params).In base->base.Ns V0 mg->k7 PySem.Challenge.rw_hushcards_k53_all_of_two.prog w (K w.params) mg base xc 11 fa fd ["script"] (xu (K w.params))) :
  PySem.W.WalkO q loose XP YP PySem.Challenge.rw_hushcards_k53_all_of_two.row.toRowW d [] (λf vs=>PySem.call f vs):=
 L2.walk_of (l:=PySem.Challenge.rw_hushcards_k53_all_of_two) (n:=63) (k:=11) (x:="script") (CX:=λ_=>xc) (sp:=λw=>xu (K w.params)) rfl (by decide) O3 ⟨rfl,by decide,by decide⟩ hY F (λ_ _ a ns hl hO hS=>⟨a,ns,rfl,Lp hO hS,hl,λ_=>rfl⟩) λ_ _ _ _ _ z=>z
end Hc
open PySem PySem.W PyProof.Rows
set_option maxRecDepth 100000 in
set_option maxHeartbeats 0 in
theorem PySem.Challenge.cw_hushcards_k53_all_of_two_holds : PySem.Challenge.rw_hushcards_k53_all_of_two.Holds := by
 w_on
 refine PySem.W.holds_law (by decide+kernel) λSa=>?_;refine' PySem.W.holds_open Hc.left (PySem.W.Hook.of _) (PySem.W.Hook.keeps _) (XP:=PySem.W.XL Hc.vw [])
  (λs e=>PySem.W.xl_of s (Bool.and_eq_true_iff.mp e).1) PySem.W.XL.keeps ?d ?t ?k
  (λs e=>PySem.W.recFacts_of (Bool.and_eq_true_iff.mp e).2) ?w Sa ?g ⟨rfl,rfl,rfl,rfl,rfl,by decide+kernel⟩ ?hw ?hc
 case d=>rfl
 case t=>rfl
 case k=>rfl
 case w=>rfl
 case g=>decide+kernel
 case hw=>w_witness2
 show PySem.W.WalkO Hc.vw [] (PySem.W.XL Hc.vw []) (PySem.W.InK Hc.Kf) _ _ _ _
 k_fill
 refine Hc.walk rfl (λw h Y=>Y) ?F
 case F=>
  intro w mg fa h KX G O4;refine' Hc.all_mk KX G O4 ?_ ?_ ?_ ?_ ?_ ?_ ?_ ?_ ?_ ?_ ?_ ?_ ?_ ?_ ?_ ?_ ?_ ?_ ?_ ?_ ?_ ?_ ?_ ?_ ?_ ?_ ?_ ?_ ?_ ?_ ?_ ?_ ?_ ?_ ?_ ?_ ?_ ?_ ?_ ?_ ?_ Hc.pure_law
  all_goals first|k_is|exact .mk (by k_is) (by k_is) (by k_is) (by k_is)|skip