import PyProof.Rows.All
import Wide.All
import OpenK.AllK
import Wide.FinOn
import Lean
import PyProof.EqAt
import PyProof.EqKinds
import PyProof.TupleCall
import PyProof.NeKinds
import PyProof.TupleKey
import PyProof.DictRoadsH
import PySem.SetTable
import PyProof.SetRoads
import PyProof.DictKeyH
import PyProof.IsRules
import PyProof.Rows.SetFrom
import PyProof.WalksMore
import PyProof.ListMulRoad
import PyProof.FactsAll.subtypes_4
import PyProof.Rows.ListMulArg
import PyProof.ZipIter
import PyProof.DictItems
import PyProof.DictValues
import PyProof.DictWalks
import PyProof.FactsAll.dict_itemiterator
import PyProof.Rows.SortRuns
import PyProof.Rows.SortKey
import PyProof.Rows.SortShell
import PyProof.Rows.SortWalk
import KE.KSortTup
import KE.KDictList
import PyProof.AutoListH
import PyProof.SumWalk
import PyProof.WalkInts
import PySem.Challenge.RW_hushcards_k52_turned_and_one_of_two
abbrev hG:=@decide_eq_true
abbrev hJ:=@decide_eq_false
abbrev hU.{u}:=@if_neg.{u}
abbrev hV.{u}:=@if_pos.{u}
set_option Elab.async false
set_option linter.all false
set_option maxRecDepth 100000
set_option maxHeartbeats 4000000
open PySem renaming wpAny_bind->Wq,wpAny_pure->Wt,Value->WB,sizeLine->WE,Shared->WN,Addr->WT,wpAny->WU,starEach->WY,model->W7,Around->Xh,wpAny_newObj_type->Xk,wpAny_call_entry->Xl,mainGlobals->Xn,wpAny_callSpecial?_slot->Xo,Program->XF,bootBuiltins->XG,mem_of_lookup->XH,wpAny_mono->XQ,wpAny_setState_of->XT,wpAny_holding->X4,foldedSetIterable->X5,compareOp->Yf,wpAny_field->Yj,Expr->Yv,sizeLine_eq->Yx,cLine->Yy,wpAny_askSetting->YF,wpAny_typeNameOfWhole_keyiter->YG,wpAny_seqItems->YL,sysModules->YN,wpAny_truthy_bool->YO,wpAny_rule->YQ,wpAny_setField_rec->Y5,Heap->Y8,backTo->Zc,assignEach->Zf,wpAny_passesOwn->Zg,wpAny_typeNameOf_keyiter->Zm,wpAny_attempt->Zs,World->Zu,wpAny_setField->Zx,wpAny_specialOf->ZE,codeAny_builtin->ZJ,behindInMarks->ZO,binaryOp->ZQ,wpAny_collect_seq->ZT,IsPair->ZX,eval->Z0,firstArgMember->Z2,SetTable->Z4,wpAny_isInstance->Z6,start->aaj,Stmt->aak,attributeBase->aan,HeapKind->aar,sliceBounds->aaC,unsupported->aaG,wpAny_of_eq->aaH,wpAny_dictEntries->aaJ,swapsWith->aaP,Keyword->aaR,wpAny_forIn_list->aaS,pyNext->aaV,wpAny_updateSeq_pair->aaW,FuncData->aaX,swapsWithSole->aaY,swappedStores->aaZ,wpAny_execs_nil->aa6,letOwnedTupleGo->aa7,getItem->aa8,keywordEach->aa9,wpAny_setEntries_of->abd,Paired->abk,rawInt->abm,wpAny_pyIter_tuple->abn,codeAny_mono->abq,wpAny_Call_Name_kw->abr,wpAny_typeOf->abv,Scope->abC,intKind->abD,wpAny_fieldsOf->abH,wpAny_pyIter_list->abL,seqIndex?->abN,call_meets->abO,atKey->abP,wpAny_pyIter_slot->abU,NameKind->abV,PassesOwn->abX,pickOrder->abY
open List renaming getElem?_eq_getElem->Wr,range->Wu,length_cons->Ww,size_toArray->Wy,mem_cons_self->Wz,length_map->WC,mem_cons_of_mem->WD,length_append->WG,getElem?_eq_some_iff->WH,mem_cons->WK,mem_append_right->WL,map_cons->WQ,all_eq_true->WR,mem_append->WW,mem_singleton->WZ,append_assoc->W4,mem_append_left->W8,getElem?_set_ne->W_,mem_range->Xb,getElem?_map->Xc,flatten_cons->Xf,append_nil->Xj,getElem_mem->Xm,mem_map->Xp,length_take->Xr,pairwise_cons->Xs,replicate->Xv,mem_of_getElem?->Xw,getElem?_append_right->Xx,length_set->XA,pairwise_singleton->XB,getElem?_cons_succ->XI,replicate_succ->XM,nodup_cons->XO,getElem?_append_left->XR,drop_eq_getElem_cons->XS,nil_append->XX,take_append_drop->XZ,length_drop->X1,length_range->X6,find?_cons->X8,getElem?_eq_none_iff->X_,map_append->Ya,eq_nil_of_length_eq_zero->Yd,map_nil->Yg,length_nil->Yi,set_cons_zero->Yn,mem_of_mem_take->Yo,lookup_cons->Yq,cons_append->Yr,map_map->Ys,take_succ_eq_append_getElem->Yu,pairwise_map->YA,nodup_append->YB,mem_iff_getElem->YH,mem_of_mem_drop->YI,flatten_append->YU,mem_map_of_mem->YV,replicate_zero->YW,getElem?_set_self->YX,take_of_length_le->YY,zipWith_cons_cons->YZ,not_mem_nil->Y1,set_cons_succ->Y7,pairwise_iff_getElem->Za,extract_eq_take_drop->Zb,ext_getElem?->Zk,map_congr_left->Zt,drop_eq_nil_of_le->Zy,length_replicate->ZC,length_singleton->ZD,perm_append_comm->ZM,getElem?_eq_none->ZN,getD_eq_getElem?_getD->ZY,drop_length->Z7,nodup_range->Z8,mem_nil_iff->Z9,take_length->aab,getElem?_range->aac,reverse_append->aad,zipWith->aaf,zip_cons_cons->aal,forIn_cons->aap,all_cons->aaq,getD->aas,getElem?_drop->aau,find?_eq_none->aav,getElem?_take->aax,getElem_take->aaK,nodup_nil->aaN,drop_zero->aaO,filterMap_cons->aa5,length_zipWith->abc,mem_filterMap->abo,getElem?_take_of_lt->abM,filterMap_cons_some->abS
open PySem.Heap renaming get?_push_of_some->Ws,get?_push_size->WJ,lt_size->WO,size_push->X2,get?_update_self->Yh,SameBut->YD
open PySem.W renaming Frag->Wv,mg_none_of->XD,fnOf->Yp,nsIn->Yt,keepIn->Zw,findIn->aaL,codeIn->abE,methodObj->abK
open Array renaming length_toList->Wx,getElem?_toList->WS,getElem?_eq_getElem->W5,toList_append->Xt,getElem?_eq_some_iff->Xy,toList_push->YT,toList_extract->Zd,toList_reverse->ZZ,getElem?_eq_none->aaA,getD->aaE,toList_setIfInBounds->abi,perm_iff_toList_perm->abj,forIn_toList->aby
open Bool renaming false_ne_true->WA,and_eq_true->WX,false_eq_true->W9,or_eq_false_iff->XC,eq_iff_iff->ZF,eq_false_iff->ZS,not_true->ZU,or_eq_true->aat,and_false->aaM,not_false->abG
open Nat renaming le_refl->WI,ne_of_lt->W6,lt_of_lt_of_le->Xe,le_trans->Xz,zero_le->XU,le_add_right->Yc,mul_assoc->Yk,add_sub_cancel_left->Ym,lt_irrefl->YC,mul_comm->YM,lt_succ_of_lt->YR,le_of_lt_succ->YS,zero_add->Y2,pow_succ->Y3,add_assoc->Zr,ne_of_gt->Zz,succ_pos->ZG,lt_or_ge->ZH,min_eq_left->ZL,mod_lt->ZV,lt_of_le_of_lt->aao,mul_left_comm->aaD,lt_trichotomy->aaF,lt_succ_self->aaT,sub_self->abz,add_zero->abA
open PyProof.Rows renaming wpS_bind->WM,wpS_pure->WV,SortSt->W2,Keyed->W3,pendingOf->Xd,arrOf->Xg,kindOf->XW,wpS_forRange->X0,slot_tuple_getitem->Yz,IntsAre->YJ,wpS_mono->Y6,callWith_type1->ZA,SortKind->Z_,failedOf->aaa,wpS_modify->aag,reverseSlice'->aa3,assignInOrder_cons->abl,envOfC->abt,seqObj->abx,gallopOf->abB,elem'->abI,wpS_get->abJ,KeyOrd->abW
open Option.some renaming inj->W0
open PyProof.Rows.KeyOrd renaming kle_trans->Xa,kle_of_klt->Xq,kle_refl->Yb
open PySem.Builtin.SmallTypes renaming nextOf->Xi,ownedTupleIsFree->Ye,ownedTupleHandOut->Z3
open PySem.PassesOwn renaming never->Xu
open PySem.Heap.SameBut renaming update->XJ
open PySem.F renaming plainAttrs_list->XN,slot_dict_keyiterator_next->YK,slot_tuple_iterator_next->Y0,slot_list_extend->Zn,type_list_extend->Zo,args_tuple_add_2->aae,slot_list_append->aah,type_list_append->aai,entry_tuple_add->aam,slot_tuple_add->aaz,args_dict_keyiterator_next_1->aaQ,entry_dict_keyiterator_next->aaU,args_tuple_iterator_next_1->aa1,slot_dict_setdefault->aa4,entry_tuple_iterator_next->aba,slot_zip_next->abb
open List.Perm renaming append_left->XY,refl->X3,append_right->Yw
open Int renaming toNat_natCast->X7,emod_lt_of_pos->Y4,emod_nonneg->ZI
open PySem.Builtin.Tuple renaming tupleHashOf->X9,tupleExact->Zi,tupleItemsOf->ZW,tupleIsExact->abh
open PySem.Obj renaming data_mapFields->Yl,isFreed_of_fields->ZK,mapSeq->ZR,cls_mapFields->aaI,putSet->abT
open PySem.Str renaming ofString->YE
open PySem.Builtin.Slice renaming slicePlaces->Y9,sliceAdjust->Z1,sliceApplied->abg
open Classical renaming byContradiction->Y_
open PySem.Around renaming under_plainId->Ze
open PySem.SeqAt renaming EqAt->Zh
open PySem.Builtin.List renaming listTooLong->Zj,listLengthHint->abe
open List.Pairwise renaming imp_of_mem->Zl
open List.Nodup renaming length_le_of_subset->Zq
open Option renaming getD_some->Zv,getD_none->Z5,map_eq_none_iff->aaB
open False renaming elim->ZP
open PyProof.Rows.F renaming plain_set_update_loop->aaw
open Nat.Coprime renaming dvd_of_dvd_mul_right->aay
open PySem.Builtin.Frozenset renaming updateFrom->aa0
open PySem.Builtin.Dict_items renaming ownsTuple->aa2
open PySem.SeqAt.EqAt renaming same->aa_,int_int->abu,of_refs->abw
open PySem.Calls renaming Name_function_global->abf,spliced_cons->abp,call_function_entry->abF
open PySem.SeqAt.RcAt renaming tuples->abQ,lists_lengths->abR
open PySem PySem.Spec PyProof.Rows
variable {a b it f p z i1 i2 a1 a2:WT}{o l T ra rb S:List W3}{w:Zu}{h h':Y8}{t' i j k n g base m mask ep bc:Nat}{ch fp L L':List WT}{x qual:Str}{N ps loose:List Str}{M:Model}{A:WT->Prop}{E Q:WB->WN->Prop}{t:Z4}{s:WN}{pins:List (WT×Obj)}{pos:Pos}{op:CmpOp}{c tg iter elt:Yv}{K:Wv}{st:aak}{body:List aak}{hi:Option Int}{C:Nat->Option (Int×WB)}{its:List WB}{mg:Str->Option WB}{fd:aaX}{scope:abC}{items ys:Array WB}{ns d:List Int}{q:WB}{XP:(Str->Option WB)->Y8->Prop}{YP:Zu->Y8->Prop}{prog:XF}{env:Env}{js:List (Option Nat)}{pZ:List Yv}{l1 l2:Bool}{ds:Array DictEntry}{arr:Array W3}{c8:List (List Int)}{d0 d1 d2 d3 e0 e1 e2 e3 d4 e4 d5 e5 d6 e6:Int}
namespace L2
noncomputable abbrev j2:=Sum Int Str
noncomputable def uG:j2->WB->Bool
 | .inl k,v=>Value.isInt k v
 | .inr x,v=>Value.isStrOf x v
noncomputable def Q4 (w:Zu):j2->Int
 | .inl k=>hashInt k
 | .inr x=>hashStr w x
theorem cI:∀{k:j2} {v:WB},uG k v=true->(∃i t,k=Sum.inl i/\v=Value.int i t)\/(∃x t,k=Sum.inr x/\v=Value.str x t)
 | .inl i,v,h=>by
  obtain⟨t,e⟩:=Value.isInt_shape (k:=i) (v:=v) h;exact .inl ⟨i,t,rfl,e⟩
 | .inr x,v,h=>by
  obtain⟨t,e⟩:=Value.isStrOf_shape (x:=x) (v:=v) h;exact .inr ⟨x,t,rfl,e⟩
theorem Cm (i:Int)(t:Tok):uG (.inl i) (.int i t)=true:=by simp[uG,Value.isInt]
theorem Co (x:Str)(t:Tok):uG (.inr x) (.str x t)=true:=by simp[uG,Value.isStrOf]
theorem KR (a b:Int):decide ((Sum.inl a:j2)=Sum.inl b)=(a==b):=by
 by_cases e:a=b
 ·subst e;simp
 ·have h:¬(Sum.inl a:j2)=Sum.inl b:=λq=>e (Sum.inl.inj q);rw[hJ h];exact (beq_eq_false_iff_ne.mpr e).symm
theorem KS (a b:Str):decide ((Sum.inr a:j2)=Sum.inr b)=decide (a=b):=by
 by_cases e:a=b
 ·subst e;simp
 ·have h:¬(Sum.inr a:j2)=Sum.inr b:=λq=>e (Sum.inr.inj q);rw[hJ h,hJ e]
theorem KU (a:Int)(b:Str):decide ((Sum.inl a:j2)=Sum.inr b)=false:=hJ (λq=>nomatch q)
theorem KW (a:Str)(b:Int):decide ((Sum.inr a:j2)=Sum.inl b)=false:=hJ (λq=>nomatch q)
noncomputable def fA (prog:XF)(w:Zu):PySem.KeyKind prog w j2 where
 is:=uG
 hash:=Q4 w
 inj:=λv a b ha hb=>by
  rcases cI ha with⟨i,t,rfl,rfl⟩|⟨x,t,rfl,rfl⟩
  ·rcases cI hb with⟨j,u,rfl,e⟩|⟨y,u,rfl,e⟩
   ·injection e with e1 _;rw[e1]
   ·exact nomatch e
  ·rcases cI hb with⟨j,u,rfl,e⟩|⟨y,u,rfl,e⟩
   ·exact nomatch e
   ·injection e with e1 _;rw[e1]
 byValue:=λk v h=>by
  rcases cI h with⟨i,t,rfl,rfl⟩|⟨x,t,rfl,rfl⟩<;>rfl
 pyHash:=λhv h=>by
  rcases cI hv with⟨i,t,rfl,rfl⟩|⟨x,t,rfl,rfl⟩
  ·exact wpAny_pyHash_int h
  ·exact wpAny_pyHash_str h
 eqBool:=λhu hv h=>by
  rcases cI hu with⟨i,t,rfl,rfl⟩|⟨x,t,rfl,rfl⟩
  ·rcases cI hv with⟨j,u,rfl,rfl⟩|⟨y,u,rfl,rfl⟩
   ·rw[KR] at h;exact wpAny_eqBool_int h
   ·rw[KU] at h;exact SeqAt.EqAt.int_str i t y u _ _ _ _ h
  ·rcases cI hv with⟨j,u,rfl,rfl⟩|⟨y,u,rfl,rfl⟩
   ·rw[KW] at h;exact SeqAt.EqAt.str_int x t j u _ _ _ _ h
   ·rw[KS] at h;exact wpAny_eqBool_str h
 «strs»:=λk x t v h=>by
  rcases cI h with⟨i,u,rfl,e⟩|⟨y,u,rfl,e⟩
  ·exact nomatch e
  ·injection e with e1 _
   subst e1;cases v<;>rfl
theorem xp (prog:XF)(w:Zu)(i:Int)(t:Tok):(fA prog w).is (.inl i) (.int i t)=true:=Cm i t
theorem xq (prog:XF)(w:Zu)(x:Str)(t:Tok):(fA prog w).is (.inr x) (.str x t)=true:=Co x t
end L2
namespace L2
inductive V where
 |non|bl (b:Bool)|int (i:Int)|str (x:Str)|byt (b:Array UInt8)|flt (b:UInt64)|ref (a:WT)|ty (n:String)
 deriving DecidableEq
def bu:V->WB->Prop
 | .non,u=>u=Value.none
 | .bl b,u=>u=Value.bool b
 | .int i,u=>∃t,u=Value.int i t
 | .str x,u=>∃t,u=Value.str x t
 | .byt b,u=>∃t,u=Value.bytes b t
 | .flt b,u=>∃t,u=Value.float b t
 | .ref a,u=>u=Value.ref a
 | .ty n,u=>u=Value.type n
abbrev a9:List V->List WB->Prop:=abk bu
theorem a9.length {xs:List V}{us:List WB}(r:a9 xs us):xs.length=us.length:=Paired.length r
theorem a9.get:∀{xs:List V} {us:List WB} {i:Nat} {x:V},a9 xs us->xs[i]? = some x->∃u,us[i]? = some u/\bu x u
 |_,_,_,_,.nil,e=>by simp at e
 |_,_,0,_,.cons r _,e=>by simp at e;subst e;exact⟨_,rfl,r⟩
 |_,_,i+1,x,.cons _ t,e=>by
  obtain⟨u,h1,h2⟩:=a9.get (i:=i) (x:=x) t (by simpa using e);exact⟨u,by simpa using h1,h2⟩
theorem a9.set {x:V}{u:WB}(r:bu x u):∀{xs:List V} {us:List WB} (i:Nat),a9 xs us->a9 (xs.set i x) (us.set i u)
 |_,_,_,.nil=>.nil
 |_,_,0,.cons _ t=>.cons r t
 |_,_,i+1,.cons q t=>.cons q (a9.set r i t)
theorem a9.append:∀{xs ys:List V} {us ws:List WB},a9 xs us->a9 ys ws->a9 (xs++ys) (us++ws)
 |_,_,_,_,.nil,s=>s
 |_,_,_,_,.cons r t,s=>.cons r (a9.append t s)
theorem a9.take:∀{xs:List V} {us:List WB} (n:Nat),a9 xs us->a9 (xs.take n) (us.take n)
 |_,_,0,_=>.nil
 |_,_,_+1,.nil=>.nil
 |_,_,n+1,.cons r t=>.cons r (a9.take n t)
theorem a9.drop:∀{xs:List V} {us:List WB} (n:Nat),a9 xs us->a9 (xs.drop n) (us.drop n)
 |_,_,0,r=>r
 |_,_,_+1,.nil=>.nil
 |_,_,n+1,.cons _ t=>a9.drop n t
def p0:Option V->Option WB->Prop
 |some v,some u=>bu v u
 |none,none=>True
 |_,_=>False
def KV {κ:Type}:List (κ×V)->List (κ×WB)->Prop:=abk λ(p:κ×V) (q:κ×WB)=>p.1=q.1/\bu p.2 q.2
noncomputable def kV:j2->V
 | .inl i=>.int i
 | .inr x=>.str x
inductive HO where
 |lst (xs:List V)
 |tup (xs:List V)
 |dK (cC:List (j2×V))|dT (cC:List (List j2×V))
 |set (S:Int->Bool) (n:Nat)
 |ins (C dx:WT) (fs:List (Str×V))
 |own (x:WT)
 |xd (fs:List (Str×V))
 |met (f x:WT)
 |rng (lo hi:Int)
 |frz (o:Obj) (u:HO)
 |tbl (ps:Array WB)
 |ext (φ:Y8->Prop)
noncomputable abbrev Hp:=WT->Option HO
noncomputable def cY (H:Hp)(a:WT)(o:HO):Hp:=λb=>if b=a then some o else H b
theorem bT {H:Hp}{o:HO}:cY H a o a=some o:=by unfold cY;rw[hV rfl]
theorem bo {H:Hp}{o:HO}(h:b≠a):cY H a o b=H b:=by unfold cY;rw[hU h]
theorem b9 {H:Hp}{o:HO}(h:H a=some o)(h':H b=none):a≠b:=by
 intro e;subst e;rw[h] at h';cases h'
section
variable (P:XF)(w:Zu)
def dU (H:Hp)(h:Y8)(a:WT):HO->Prop
 | .lst xs=>xs.length<=WE/\∃(its:List WB) (n:Nat),a9 xs its/\h.get? a=some {cls:=.type "list",data:=.seq its.toArray n}
 | .tup xs=>xs.length<=WE/\∃its:List WB,a9 xs its/\IsTup h a its.toArray/\∃n,h.get? a=some {cls:=.type "tuple",data:=.seq its.toArray n}
 | .dK cC=>cC.length<=WE/\(a==YN)=false/\∃vs,KV cC vs/\h.DictOf (fA P w) a vs
 | .dT cC=>cC.length<=WE/\(a==YN)=false/\∃xs:List (List j2×WT×WB),
   abk (λ(p:List j2×V) (q:List j2×WT×WB)=>p.1=q.1/\H q.2.1=some (.tup (p.1.map kV))/\bu p.2 q.2.2) cC xs/\
   ∃o es ep,h.get? a=some o/\o.ExactDict/\o.data=.dict es ep/\es.toList=xs.map (entryOfKey (tupleKind (fA P w)))/\(xs.map (·.1)).Nodup
 | .set S n=>h.SetOf (abD P w) a S n
 | .ins C dx fs=>H dx=some (.own a)/\fs.length<=1000/\dx≠a/\h.get? a=some (PySem.W.instObj C dx)/\
   ∃mA,h.Ns1 dx mA/\(∀f,p0 (fs.lookup f) (mA f))/\PySem.Within mA (fs.map (·.1))
 | .own _=>∃o,h.get? a=some o
 | .xd fs=>∃mA,h.Ns1 a mA/\∀f,p0 (fs.lookup f) (mA f)
 | .rng lo hi=>∃t u v,h.get? a=some {cls:=.type "range",data:=.fields #[.int lo t,.int hi u,.int 1 v]}
 | .frz o u=>h.get? a=some o/\dU H h a u
 | .tbl ps=>h.get? a=some {cls:=.none,data:=.fields ps}
 | .met f x=>h.get? a=some (abK (.ref f) (.ref x))
 | .ext φ=>φ h/\(∃o,h.get? a=some o)/\∀h1 h2:Y8,φ h1->(∀o,h1.get? a=some o->h2.get? a=some o)->φ h2
def lH (H:Hp)(h:Y8):Prop:=∀a o,H a=some o->dU P w H h a o
end
section
variable {P:XF}{H H':Hp}{o:HO}
theorem dU.lt (x:dU P w H h a o):a<h.objs.size:=by
 cases o with
 |lst xs=>obtain⟨_,_,_,_,e⟩:=x;exact WO e
 |tup xs=>obtain⟨_,_,_,p,_⟩:=x;exact p.lt
 |dK cC=>obtain⟨_,_,_,_,o,_,_,e,_⟩:=x;exact WO e
 |dT cC=>obtain⟨_,_,_,_,o,_,_,e,_⟩:=x;exact WO e
 |set S n=>obtain⟨o,_,_,_,e,_⟩:=x;exact WO e
 |ins C dx fs=>obtain⟨_,_,_,e,_⟩:=x;exact WO e
 |own y=>obtain⟨_,e⟩:=x;exact WO e
 |xd fs=>obtain⟨_,⟨_,_,_,e,_⟩,_⟩:=x;exact WO e
 |rng lo hi=>obtain⟨_,_,_,e⟩:=x;exact WO e
 |frz ob u=>obtain⟨e,_⟩:=x;exact WO e
 |tbl ps=>exact WO (show h.get? a=some _ from x)
 |met f y=>exact WO (show h.get? a=some _ from x)
 |ext φ=>obtain⟨_,⟨_,e⟩,_⟩:=x;exact WO e
theorem Paired.mapP {α β:Type}{F G:α->β->Prop}:∀{l₁:List α} {l₂:List β},abk F l₁ l₂->(∀a b,F a b->G a b)->abk G l₁ l₂
 |_,_,.nil,_=>.nil
 |_,_,.cons r t,f=>.cons (f _ _ r) (Paired.mapP t f)
theorem dU.stay (x:dU P w H h a o)(k:∀b u,(b=a\/H b=some (.own a))->h.get? b=some u->h'.get? b=some u)
  (ho:∀b,H b=some (.own a)->H' b=some (.own a)) (ht:∀b xs,H b=some (.tup xs)->H' b=some (.tup xs)):dU P w H' h' a o:=by
 induction o with
 |lst xs=>obtain⟨z,its,n,r,e⟩:=x;exact⟨z,its,n,r,k _ _ (.inl rfl) e⟩
 |tup xs=>obtain⟨z,its,r,⟨ob,e,c⟩,n2,e2⟩:=x;exact⟨z,its,r,⟨ob,k _ _ (.inl rfl) e,c⟩,n2,k _ _ (.inl rfl) e2⟩
 |dK cC=>obtain⟨z,y,vs,r,ob,es,ep,e,c⟩:=x;exact⟨z,y,vs,r,ob,es,ep,k _ _ (.inl rfl) e,c⟩
 |dT cC=>
  obtain⟨z,y,xs,r,ob,es,ep,e,c⟩:=x;exact⟨z,y,xs,Paired.mapP r λp q z=>⟨z.1,ht _ _ z.2.1,z.2.2⟩,ob,es,ep,k _ _ (.inl rfl) e,c⟩
 |set S n=>obtain⟨ob,es,ep,t,e,c⟩:=x;exact⟨ob,es,ep,t,k _ _ (.inl rfl) e,c⟩
 |ins C dx fs=>
  obtain⟨d,z,ne,e,mA,⟨od,es,ep,e2,c⟩,r⟩:=x;exact⟨ho _ d,z,ne,k _ _ (.inl rfl) e,mA,⟨od,es,ep,k _ _ (.inr d) e2,c⟩,r⟩
 |own y=>obtain⟨ob,e⟩:=x;exact⟨ob,k _ _ (.inl rfl) e⟩
 |xd fs=>obtain⟨mA,⟨od,es,ep,e,c⟩,r⟩:=x;exact⟨mA,⟨od,es,ep,k _ _ (.inl rfl) e,c⟩,r⟩
 |rng lo hi=>obtain⟨t,u,v,e⟩:=x;exact⟨t,u,v,k _ _ (.inl rfl) e⟩
 |frz ob u ih=>obtain⟨e,q⟩:=x;exact⟨k _ _ (.inl rfl) e,ih q⟩
 |tbl ps=>
  have e:h.get? a=some {cls:=.none,data:=.fields ps}:=x;show h'.get? a=some {cls:=.none,data:=.fields ps};exact k a _ (.inl rfl) e
 |met f y=>
  have e:h.get? a=some (abK (.ref f) (.ref y)):=x;show h'.get? a=some (abK (.ref f) (.ref y));exact k a _ (.inl rfl) e
 |ext φ=>obtain⟨p,⟨o,e⟩,st⟩:=x;exact⟨st _ _ p λo q=>k _ _ (.inl rfl) q,⟨o,k _ _ (.inl rfl) e⟩,st⟩
theorem lH.lt (x:lH P w H h)(e:H a=some o):a<h.objs.size:=(x a o e).lt
theorem lH.fresh (x:lH P w H h)(e:h.objs.size<=a):H a=none:=by
 cases q:H a with
 |none=>rfl
 |some u=>exact absurd (Xe (x.lt q) e) (YC _)
theorem lH.kept (x:lH P w H h)(k:∀b u,h.get? b=some u->h'.get? b=some u):lH P w H h':=λa o e=>
 (x a o e).stay (λb u _ q=>k b u q) (λ_ q=>q) λ_ _ q=>q
theorem lH.laid (x:lH P w H h)(k:∀b u,h.get? b=some u->h'.get? b=some u)(hp:h.objs.size<=a)(new:dU P w (cY H a o) h' a o):lH P w (cY H a o) h':=λb u e=>by
 have hn:=x.fresh hp;by_cases hb:b=a
 ·subst hb;rw[bT] at e;cases e;exact new
 ·rw[bo hb] at e;exact (x b u e).stay (λc v _ q=>k c v q) (λc q=>by rw[bo (b9 q hn)];exact q) λc xs q=>by rw[bo (b9 q hn)];exact q
end
def Rd (H:Hp)(a:WT)(u:HO):Prop:=H a=some u\/∃o,H a=some (.frz o u)
theorem Rd.ok {P:XF}{H:Hp}{u:HO}(r:Rd H a u)(x:lH P w H h):dU P w H h a u:=by
 rcases r with r|⟨o,r⟩
 ·exact x a u r
 ·obtain⟨_,q⟩:=x a _ r;exact q
def Nb:Option HO->Prop
 |some (.lst _)=>True
 |some (.dK _)=>True
 |some (.dT _)=>True
 |some (.set _ _)=>True
 |some (.ins _ _ _)=>True
 |some (.ext _)=>True
 |_=>False
section
variable {P:XF}{H:Hp}{x e:WT}{o':HO}
theorem lH.write (ok:lH P w H h)(mu:Nb (H x))(he:e=x\/H e=some (.own x))(k:∀b u,b≠e->h.get? b=some u->h'.get? b=some u)(Nm:∃u,h'.get? e=some u)
  (new:dU P w (cY H x o') h' x o'):lH P w (cY H x o') h':=λb u q=>by
 have P_:∀c y,H c=some (.own y)->c≠x:=λc y r z=>by subst z;rw[r] at mu;exact mu
 have SV:∀c xs,H c=some (.tup xs)->c≠x:=λc xs r z=>by subst z;rw[r] at mu;exact mu
 by_cases hb:b=x
 ·subst hb;rw[bT] at q;cases q;exact new
 ·rw[bo hb] at q;by_cases hbe:b=e
  ·have q':H b=some (.own x):=by
    rcases he with z|z
    ·exact absurd (hbe.trans z) hb
    ·rw[hbe];exact z
   rw[q] at q';cases q';obtain⟨v,hv⟩:=Nm;exact⟨v,by rw[hbe];exact hv⟩
  ·refine (ok b u q).stay (λc v hc r=>k c v ?_ r) (λc r=>by rw[bo (P_ c b r)];exact r) λc xs r=>by rw[bo (SV c xs r)];exact r
   rcases hc with rfl|hc
   ·exact hbe
   ·rintro rfl;rcases he with z|z
    ·exact P_ c b hc z
    ·rw[hc] at z;cases z;exact hb rfl
end
structure Un (fs ex:List WT)(H H':Hp)(h h':Y8):Prop where
 keep:∀b o,h.get? b=some o->H b=none->b∉fs->b∉ex->h'.get? b=some o
 slot:∀b o,h.get? b=some o->H b=none->b∈fs->b∉ex->∃sl,h'.get? b=some {o with slots:=sl}
 free:∀b o,h.get? b=some o->H b=none->b∉ex->H' b=none
 there:∀b o,h.get? b=some o->b∉ex->∃o',h'.get? b=some o'
 tups:∀b xs,H b=some (.tup xs)->H' b=some (.tup xs)
 frzs:∀b o u,H b=some (.frz o u)->H' b=some (.frz o u)
 tbls:∀b ps,H b=some (.tbl ps)->∃more,H' b=some (.tbl (ps++more))
section
variable {fs fs' ex ex':List WT}{H H1 H2:Hp}{h1 h2:Y8}{x e:WT}{o:HO}
theorem Un.any (u:Un fs ex H H1 h h1){ob:Obj}(q:h.get? b=some ob)(n:H b=none)(hx:b∉ex):∃sl,h1.get? b=some {ob with slots:=sl}:=by
 by_cases hb:b∈fs
 ·exact u.slot b ob q n hb hx
 ·exact⟨ob.slots,u.keep b ob q n hb hx⟩
theorem Un.kept (k:∀b u,h.get? b=some u->h'.get? b=some u):Un fs ex H H h h' :=
 ⟨λb ob q _ _ _=>k b ob q,λb ob q _ _ _=>⟨ob.slots,k b ob q⟩,λ_ _ _ n _=>n,λb ob q _=>⟨ob,k b ob q⟩,λ_ _ q=>q,λ_ _ _ q=>q,λ_ ps q=>⟨#[],by rw[q];simp⟩⟩
theorem Un.refl:Un fs ex H H h h:=Un.kept λ_ _ q=>q
theorem Un.laid (k:∀b u,h.get? b=some u->h'.get? b=some u)(hp:h.objs.size<=a)(hn:H a=none):Un fs ex H (cY H a o) h h' where
 keep:=λb u q _ _ _=>k b u q
 slot:=λb u q _ _ _=>⟨u.slots,k b u q⟩
 free:=λb u q n _=>by rw[bo (W6 (Xe (WO q) hp))];exact n
 there:=λb u q _=>⟨u,k b u q⟩
 tups:=λb xs q=>by rw[bo (b9 q hn)];exact q
 frzs:=λb u xs q=>by rw[bo (b9 q hn)];exact q
 tbls:=λb ps q=>⟨#[],by rw[bo (b9 q hn),q];simp⟩
theorem Un.write (mu:Nb (H x))(he:e=x\/H e=some (.own x))(k:∀b u,b≠e->h.get? b=some u->h'.get? b=some u)(Nm:∃u,h'.get? e=some u):Un fs ex H (cY H x o) h h':=by
 have hx:∀b,H b=none->b≠x:=λb n z=>by subst z;rw[n] at mu;exact mu
 have hb:∀b,H b=none->b≠e:=λb n z=>by
  subst z;rcases he with r|r
  ·exact hx b n r
  ·rw[n] at r;cases r
 have hm:∀b u,H b=some u->¬Nb (some u)->b≠x:=λb u q nm z=>by subst z;rw[q] at mu;exact nm mu
 refine⟨λb u q n _ _=>k b u (hb b n) q,λb u q n _ _=>⟨u.slots,k b u (hb b n) q⟩,λb u q n _=>by rw[bo (hx b n)];exact n,λb u q _=>?_,
  λb xs q=>by rw[bo (hm b _ q λz=>z)];exact q,λb u xs q=>by rw[bo (hm b _ q λz=>z)];exact q,λb ps q=>⟨#[],by rw[bo (hm b _ q λz=>z),q];simp⟩⟩
 by_cases hbe:b=e
 ·subst hbe;exact Nm
 ·exact⟨u,k b u hbe q⟩
end
noncomputable def QB (h:Y8)(H:Hp):List WT:=(Wu h.objs.size).filter λa=>(H a).isSome
noncomputable def vL (h:Y8)(H:Hp):Y8:=PySem.W.hideAll h (QB h H)
theorem Cp (h:Y8)(H:Hp):(vL h H).objs.size=h.objs.size:=PySem.W.hideAll_size _ _
theorem DM {H:Hp}{o:Obj}(e:h.get? b=some o)(n:H b=none):(vL h H).get? b=some o:=
 PySem.W.hideAll_get _ e λhm=>by
  have q:(H b).isSome=true:=(List.mem_filter.mp hm).2;rw[n] at q;simp at q
theorem G_ {H:Hp}{o:Obj}(e:(vL h H).get? b=some o):h.get? b=some o/\H b=none:=by
 have e':h.get? b=some o:=PySem.W.of_hideAll (QB h H) e;refine⟨e',?_⟩;cases q:H b with
 |none=>rfl
 |some x=>
  have hm:b∈QB h H:=List.mem_filter.mpr ⟨Xb.mpr (WO e'),by simp[q]⟩;have z:(vL h H).get? b=none:=PySem.W.hideAll_none (QB h H) hm;rw[z] at e;cases e
end L2
variable {xs vs:List L2.V}{H H' H1 H2:L2.Hp}{v y v':L2.V}
namespace L2
structure Mod (K:Wv)(mg:Str->Option WB)(base:Y8):Prop where
 kin:K.In base
 glob:base.Ns Xn mg
 blt:∃mb,base.Ns builtinsNs mb/\∀x:Str,x≠"__name__"->mb x=XG x
 nolimit:base.NoLimit
structure Cx where
 prog:XF
 w:Zu
 K:Wv
 mg:Str->Option WB
 base:Y8
 A:Xh
 N:List Str
 s₀:WN
 H₀:Hp
 env:Env
 outer:List Env
 stack:List Env
 ex:List WT
 fn:Str->Bool
 calm:Bool
 pn:List (WT×Obj)
 xe:WB->WN->Prop
noncomputable def AU (l:List Env):List WT:=l.filterMap (·.frame)
noncomputable abbrev Cx.fs (X:Cx):List WT:=AU X.outer
def Ha (sc:abC)(x:Str):Prop:=sc.names.lookup x=some .local\/sc.names.lookup x=some .cell\/sc.names.lookup x=some .free
def G1 (sc:abC)(x:Str):Prop:=sc.names.lookup x=some .local\/sc.names.lookup x=some .cell
def Q5 (env:Env)(h:Y8)(m:Str->Option WB)(x:Str)(u:WB):Prop:=
 (env.kindOf x=some .local/\m x=some u)\/((env.kindOf x=some .cell\/env.kindOf x=some .free)/\∃c,env.cells.lookup x=some c/\h.IsCell c (some u))
structure Cx.Ok (X:Cx):Prop where
 mod:Mod X.K X.mg X.base
 kind:X.env.scope.kind=.function
 glob:X.env.globals=Xn
 blt:X.env.builtins=builtinsNs
 above:X.s₀.heap.objs.size<=X.env.locals
 inj:∀x y c,X.env.cells.lookup x=some c->X.env.cells.lookup y=some c->x=y
 has:∀x,(X.env.kindOf x=some .cell\/X.env.kindOf x=some .free)->∃c,X.env.cells.lookup x=some c
 cab:∀x c,X.fn x=true->X.env.cells.lookup x=some c->X.s₀.heap.objs.size<=c
 hd:X.calm=true->X.A.handled=none
 frames:X.A.frames=some X.stack
 stk:X.stack=X.outer\/(X.stack=X.env::X.outer/\X.env.frame=some X.env.locals)
 exf:∀b∈X.ex,b≠X.env.locals/\∀x c,X.env.cells.lookup x=some c->c≠b
 bs:∀b o,X.base.get? b=some o->X.s₀.heap.get? b=some o/\X.H₀ b=none
 bsz:X.base.objs.size<=X.s₀.heap.objs.size
 noex:∀b o,X.base.get? b=some o->b∉X.ex
 exfs:∀b∈X.ex,b∉X.fs
 funs:X.s₀.heap.FunFrames X.base X.outer
 frf:∀b∈X.fs,X.H₀ b=none
structure aN (X:Cx)(pins:List (WT×Obj))(σ:List (Option V))(H:Hp)(s:WN):Prop where
 ok:X.Ok
 os:s.os=X.s₀.os
 bare:AllBare s.gens
 base:Un X.fs X.ex X.H₀ H X.s₀.heap s.heap
 loc:∃m,s.heap.Ns X.env.locals m/\∀(i:Nat) (x:Str) (v:V),X.N[i]? = some x->σ[i]? = some (some v)->Ha X.env.scope x->∃u,bu v u/\Q5 X.env s.heap m x u
 cell:∀x c,X.env.cells.lookup x=some c->∃v,s.heap.IsCell c v
 free:H X.env.locals=none
 freeC:∀x c,X.env.cells.lookup x=some c->H c=none
 pin:∀p∈X.pn++pins,s.heap.get? p.1=some p.2/\H p.1=none/\p.1≠X.env.locals/\p.1∉X.fs/\∀v,p.2.data≠.cell v
 hok:lH X.prog X.w H s.heap
 len:σ.length=X.N.length
section
variable {X:Cx}{σ:List (Option V)}
theorem Cx.Ok.nofr (ok:X.Ok){o:Obj}(e:X.base.get? b=some o):b∉X.fs:=λhb=>by
 have:=(ok.funs.mem hb).1;rw[e] at this;cases this
theorem aN.bs (I:aN X pins σ H s):∀b o,X.base.get? b=some o->s.heap.get? b=some o/\H b=none:=λb o e=>
 ⟨I.base.keep b o (I.ok.bs b o e).1 (I.ok.bs b o e).2 (I.ok.nofr e) (I.ok.noex b o e),I.base.free b o (I.ok.bs b o e).1 (I.ok.bs b o e).2 (I.ok.noex b o e)⟩
theorem aN.bk (I:aN X pins σ H s):∀b o,X.base.get? b=some o->s.heap.get? b=some o:=λb o e=>(I.bs b o e).1
theorem aN.mod (I:aN X pins σ H s):Mod X.K X.mg X.base:=I.ok.mod
theorem aN.kIn (I:aN X pins σ H s):X.K.In s.heap:=I.ok.mod.kin.keeps I.bk
theorem aN.lt (I:aN X pins σ H s):X.env.locals<s.heap.objs.size:=let ⟨_,hn,_⟩:=I.loc;hn.lt
theorem aN.sz (I:aN X pins σ H s):X.s₀.heap.objs.size<=s.heap.objs.size:=Xz I.ok.above (Nat.le_of_lt I.lt)
theorem aN.nofs (I:aN X pins σ H s)(h:s.heap.objs.size<=a):a∉X.fs:=λhb=>by
 obtain⟨_,o,ho,_⟩:=I.ok.funs.mem hb;exact absurd (Xe (WO ho) (Xz I.sz h)) (YC _)
theorem aN.cne (I:aN X pins σ H s):∀x c,X.env.cells.lookup x=some c->c≠X.env.locals:=λx c e z=>by
 obtain⟨v,o,ho,hd⟩:=I.cell x c e;obtain⟨m,⟨o',es,ep,GK,hd',_⟩,_⟩:=I.loc;rw[z,GK] at ho;cases ho;rw[hd'] at hd;cases hd
theorem aN.funs (I:aN X pins σ H s):s.heap.FunFrames X.base X.outer:=by
 have all:∀(l:List Env),(∀b∈AU l,b∈X.fs)->X.s₀.heap.FunFrames X.base l->s.heap.FunFrames X.base l:=by
  intro l
  induction l with
  |nil=>intro _ _;trivial
  |cons env r ih=>
   intro hs hl;obtain⟨hk,⟨L,o,hf,hn,ho,hd⟩,hr⟩:=hl;have hL:L∈X.fs:=hs L (by unfold AU;rw[aa5,hf];exact Wz);obtain⟨sl,e⟩:=I.base.slot L o ho (I.ok.frf L hL) hL λz=>I.ok.exfs L z hL;exact⟨hk,⟨L,_,hf,hn,e,hd⟩,ih (λb hb=>hs b (by unfold AU;rw[aa5,hf];exact WD _ hb)) hr⟩
 exact all X.outer (λ_ hb=>hb) I.ok.funs
theorem aN.stack (I:aN X pins σ H s):s.heap.FunFrames X.base X.stack:=by
 rcases I.ok.stk with e|⟨e,hf⟩
 ·rw[e];exact I.funs
 ·rw[e];obtain⟨m,hn,_⟩:=I.loc;refine .cons (by rw[I.ok.kind];decide) hf hn ?_ I.funs;exact Heap.get?_none_of_le (Xz I.ok.bsz I.ok.above)
theorem aN.stkSub (I:aN X pins σ H s):∀b∈AU X.stack,b∈X.env.locals::X.fs:=λb hb=>by
 rcases I.ok.stk with e|⟨e,hf⟩
 ·rw[e] at hb;exact WD _ hb
 ·rw[e] at hb;unfold AU at hb;rw[aa5,hf] at hb;exact hb
theorem aN.stkFree (I:aN X pins σ H s):∀b∈AU X.stack,H b=none:=λb hb=>by
 rcases WK.mp (I.stkSub b hb) with e|hb
 ·rw[e];exact I.free
 ·obtain⟨_,o,ho,_⟩:=I.ok.funs.mem hb;exact I.base.free b o ho (I.ok.frf b hb) λz=>I.ok.exfs b z hb
theorem aN.step {t':Nat}{g':Array GenState}{d':Drawn}(I:aN X pins σ H s)(G4:∀b∈ch,(b∈X.ex\/X.s₀.heap.objs.size<=b)/\b≠X.env.locals/\(∀x c,X.env.cells.lookup x=some c->c≠b)/\∀p∈X.pn++pins,p.1≠b)(keep:∀b o,b≠X.env.locals->b∉X.fs->b∉ch->s.heap.get? b=some o->H b=none->h'.get? b=some o)(slot:∀b o,b≠X.env.locals->b∈X.fs->b∉ch->s.heap.get? b=some o->H b=none->∃sl,h'.get? b=some {o with slots:=sl})(free:∀b o,b∉ch->s.heap.get? b=some o->H b=none->H' b=none)(there:∀b o,b∉ch->s.heap.get? b=some o->∃o',h'.get? b=some o')(tups:∀b xs,H b=some (.tup xs)->H' b=some (.tup xs))(frzs:∀b o u,H b=some (.frz o u)->H' b=some (.frz o u))(tbls:∀b ps,H b=some (.tbl ps)->∃more,H' b=some (.tbl (ps++more)))(ns:∀m,s.heap.Ns X.env.locals m->h'.Ns X.env.locals m)(hok:lH X.prog X.w H' h')(hg:AllBare g') :
  aN X pins σ H' {s with heap:=h',gens:=g',drawn:=d',toks:=t'}:=by
 have Ue:∀b o,X.s₀.heap.get? b=some o->b≠X.env.locals:=λb o e=>W6 (Xe (WO e) I.ok.above);have QV:∀b o,X.s₀.heap.get? b=some o->b∉X.ex->b∉ch:=λb o e hx hb=>by
  rcases (G4 b hb).1 with z|z
  ·exact hx z
  ·exact absurd (Xe (WO e) z) (YC _)
 have Kt:∀x c,X.env.cells.lookup x=some c->∀v,s.heap.IsCell c v->h'.IsCell c v:=λx c e v h00=>by
  obtain⟨o,ho,hd⟩:=h00;have Qa:c∉ch:=λz=>(G4 c z).2.2.1 x c e rfl;by_cases hc:c∈X.fs
  ·obtain⟨sl,q⟩:=slot c o (I.cne x c e) hc Qa ho (I.freeC x c e);exact⟨_,q,hd⟩
  ·exact⟨o,keep c o (I.cne x c e) hc Qa ho (I.freeC x c e),hd⟩
 refine⟨I.ok,I.os,hg,⟨λb o e n hb hx=>?_,λb o e n hb hx=>?_,λb o e n hx=>?_,λb o e hx=>?_,λb xs e=>tups b xs (I.base.tups b xs e),λb o xs e=>frzs b o xs (I.base.frzs b o xs e),λb ps e=>?_⟩,?_,λx c e=>?_,?_,λx c e=>?_,λp hp=>?_,hok,I.len⟩
 ·exact keep b o (Ue b o e) hb (QV b o e hx) (I.base.keep b o e n hb hx) (I.base.free b o e n hx)
 ·obtain⟨sl,e1⟩:=I.base.slot b o e n hb hx;obtain⟨sl',e2⟩:=slot b _ (Ue b o e) hb (QV b o e hx) e1 (I.base.free b o e n hx);exact⟨sl',e2⟩
 ·obtain⟨o',e1⟩:=I.base.there b o e hx;exact free b o' (QV b o e hx) e1 (I.base.free b o e n hx)
 ·obtain⟨o',e1⟩:=I.base.there b o e hx;exact there b o' (QV b o e hx) e1
 ·obtain⟨m1,e1⟩:=I.base.tbls b ps e;obtain⟨m2,e2⟩:=tbls b _ e1;exact⟨m1++m2,by rw[e2,Array.append_assoc]⟩
 ·obtain⟨m,hn,hl⟩:=I.loc;refine⟨m,ns m hn,λi x v e1 e2 e3=>?_⟩;obtain⟨u,r,l⟩:=hl i x v e1 e2 e3;refine⟨u,r,?_⟩;rcases l with l|⟨k,c,e,z⟩
  ·exact .inl l
  ·exact .inr ⟨k,c,e,Kt x c e _ z⟩
 ·obtain⟨v,z⟩:=I.cell x c e;exact⟨v,Kt x c e v z⟩
 ·obtain⟨m,⟨o,_,_,ho,_⟩,_⟩:=I.loc;exact free _ o (λz=>(G4 _ z).2.1 rfl) ho I.free
 ·obtain⟨v,o,ho,hd⟩:=I.cell x c e;exact free c o (λz=>(G4 c z).2.2.1 x c e rfl) ho (I.freeC x c e)
 ·obtain⟨e,n,ne,nf,d⟩:=I.pin p hp;have Qa:p.1∉ch:=λz=>(G4 p.1 z).2.2.2 p hp rfl;exact⟨keep p.1 p.2 ne nf Qa e n,free p.1 p.2 Qa e n,ne,nf,d⟩
theorem aN.un {t':Nat}(I:aN X pins σ H s)(u:Un X.fs [] H H' s.heap h')(hok:lH X.prog X.w H' h'):aN X pins σ H' {s with heap:=h',toks:=t'}:=by
 obtain⟨m,⟨o,es,ep,ho,r⟩,_⟩:=id I.loc;obtain⟨sl,hL⟩:=u.any ho I.free (by simp);exact I.step (g':=s.gens) (d':=s.drawn) (ch:=[]) (λ_ z=>nomatch z) (λb o _ hb _ e n=>u.keep b o e n hb (by simp)) (λb o _ hb _ e n=>u.slot b o e n hb (by simp)) (λb o _ e n=>u.free b o e n (by simp)) (λb o _ e=>u.there b o e (by simp)) u.tups u.frzs u.tbls (λm' hm=>by
  obtain⟨o',GW,ep',GK,r'⟩:=hm;rw[ho] at GK;cases GK;exact⟨_,GW,ep',hL,r'⟩) hok I.bare
theorem aN.call {t':Nat}{g':Array GenState}{d':Drawn}(I:aN X pins σ H s)(u:Un (AU X.stack) ch H H' s.heap h')(hok:lH X.prog X.w H' h')(hg:AllBare g')(G4:∀b∈ch,(b∈X.ex\/X.s₀.heap.objs.size<=b)/\b≠X.env.locals/\(∀x c,X.env.cells.lookup x=some c->c≠b)/\∀p∈X.pn++pins,p.1≠b) :
  aN X pins σ H' {s with heap:=h',gens:=g',drawn:=d',toks:=t'}:=by
 obtain⟨m,⟨o,es,ep,ho,r⟩,_⟩:=id I.loc;obtain⟨sl,hL⟩:=u.any ho I.free λz=>(G4 _ z).2.1 rfl;exact I.step (ch:=ch) G4 (λb o hL hb hc e n=>u.keep b o e n (λz=>(WK.mp (I.stkSub b z)).elim hL hb) hc) (λb o _ _ hc e n=>u.any e n hc) (λb o hc e n=>u.free b o e n hc) (λb o hc e=>u.there b o e hc) u.tups u.frzs u.tbls (λm' hm=>by
  obtain⟨o',GW,ep',GK,r'⟩:=hm;rw[ho] at GK;cases GK;exact⟨_,GW,ep',hL,r'⟩) hok hg
theorem aN.turned {t':Nat}(I:aN X pins σ H s)(k:∀b o,b≠it->s.heap.get? b=some o->h'.get? b=some o)(hn:H it=none)(hL:it≠X.env.locals)(h1:it∈X.ex\/X.s₀.heap.objs.size<=it)(h2:∀x c,X.env.cells.lookup x=some c->c≠it)(h3:∀p∈X.pn++pins,p.1≠it):aN X pins σ H {s with heap:=h',toks:=t'}:=by
 have Ug:∀b u,H b=some u->b≠it:=λb u e z=>by rw[z,hn] at e;cases e
 refine I.step (g':=s.gens) (d':=s.drawn) (ch:=[it]) (λb hb=>?_) (λb o _ _ hc e _=>k b o (λz=>hc (by simp[z])) e) (λb o _ _ hc e _=>⟨o.slots,k b o (λz=>hc (by simp[z])) e⟩) (λ_ _ _ _ n=>n)
  (λb o hc e=>⟨o,k b o (λz=>hc (by simp[z])) e⟩) (λ_ _ e=>e) (λ_ _ _ e=>e) (λb ps e=>⟨#[],by rw[e];simp⟩) (λm hm=>?_) (λb u e=>?_) I.bare
 ·have e:b=it:=by simpa using hb
  subst e;exact⟨h1,hL,h2,h3⟩
 ·obtain⟨o,es,ep,ho,r⟩:=hm;exact⟨o,es,ep,k _ o (Ne.symm hL) ho,r⟩
 ·refine (I.hok b u e).stay (λc v hc q=>k c v ?_ q) (λ_ q=>q) λ_ _ q=>q;rcases hc with z|z
  ·rw[z];exact Ug b u e
  ·exact Ug c _ z
theorem aN.tok (I:aN X pins σ H s)(t:Nat):aN X pins σ H {s with toks:=t}:=I.un (h':=s.heap) (t':=t) Un.refl I.hok
theorem aN.kept {t':Nat}(I:aN X pins σ H s)(k:∀b u,s.heap.get? b=some u->h'.get? b=some u):aN X pins σ H {s with heap:=h',toks:=t'}:=I.un (Un.kept k) (I.hok.kept k)
theorem aN.laid {t':Nat}{o:HO}(I:aN X pins σ H s)(k:∀b u,s.heap.get? b=some u->h'.get? b=some u)(hp:s.heap.objs.size<=a)(new:dU X.prog X.w (cY H a o) h' a o) :
  aN X pins σ (cY H a o) {s with heap:=h',toks:=t'}:=I.un (Un.laid k hp (I.hok.fresh hp)) (I.hok.laid k hp new)
theorem aN.write {t':Nat}{x e:WT}{o:HO}(I:aN X pins σ H s)(mu:Nb (H x))(he:e=x\/H e=some (.own x))(k:∀b u,b≠e->s.heap.get? b=some u->h'.get? b=some u)(Nm:∃u,h'.get? e=some u)(new:dU X.prog X.w (cY H x o) h' x o):aN X pins σ (cY H x o) {s with heap:=h',toks:=t'}:=I.un (Un.write mu he k Nm) (I.hok.write mu he k Nm new)
theorem aN.pins_of {Ku:List (WT×Obj)}(I:aN X pins σ H s)(h:∀p∈Ku,s.heap.get? p.1=some p.2/\H p.1=none/\p.1≠X.env.locals/\p.1∉X.fs/\∀v,p.2.data≠.cell v):aN X Ku σ H s:=
 ⟨I.ok,I.os,I.bare,I.base,I.loc,I.cell,I.free,I.freeC,λp hp=>(WW.mp hp).elim (λz=>I.pin p (W8 _ z)) (h p),I.hok,I.len⟩
theorem xr (hN:N.Nodup)(a:N[i]? = some x)(b:N[j]? = some x):i=j:=by
 obtain⟨h1,e1⟩:=WH.mp a;obtain⟨h2,e2⟩:=WH.mp b;exact (List.getElem_inj hN).mp (e1.trans e2.symm)
theorem uH {A:Xh}{u:WB}{Q:Unit->WN->Prop}(I:aN X pins σ H s)(hN:X.N.Nodup)(hi:X.N[i]? = some x)(hx:G1 X.env.scope x)(r:bu v u)(h:∀s',aN X pins (σ.set i (some v)) H s'->(∃a,YD a s.heap s'.heap/\(a=X.env.locals\/X.env.cells.lookup x=some a))->Q () s')(hf:X.fn x=true\/X.env.scope.names.lookup x=some .local:=by first|exact .inl rfl|exact .inr rfl|assumption):WU M A (storeName X.env x u) Q E s:=by
 obtain⟨m,hn,hl⟩:=id I.loc;have SW:(X.env.scope.kind==.class||(X.env.scope.kind==.module&&X.env.locals != X.env.globals))=false:=by rw[I.ok.kind];rfl
 have Uh:i<σ.length:=by rw[I.len];exact (WH.mp hi).1
 have cne:=I.cne;have Cd:∀{a:WT} {h':Y8},(∃o,s.heap.get? a=some o/\H a=none)->YD a s.heap h'->lH X.prog X.w H h':=λ{a h'} ha hs b ob e=>by
  obtain⟨_,_,tZ⟩:=ha;refine (I.hok b ob e).stay (λc w' hc q=>(hs.2 c ?_).trans q) (λ_ q=>q) λ_ _ q=>q;rintro rfl;rcases hc with rfl|hc
  ·rw[tZ] at e;cases e
  ·rw[tZ] at hc;cases hc
 rcases hx with hk|hk
 ·refine wpAny_storeName_local hk hn (λh' Nn hs=>?_) SW;obtain⟨oL,_,_,MX,_⟩:=id hn;refine h _ ⟨I.ok,I.os,I.bare,⟨λb o e n hb hx=>?_,λb o e n hb hx=>?_,I.base.free,λb o e hx=>?_,I.base.tups,I.base.frzs,I.base.tbls⟩,⟨_,Nn,λj y v' e1 e2 e3=>?_⟩,λy c e=>?_,I.free,I.freeC,λp hp=>?_,Cd ⟨oL,MX,I.free⟩ hs,by simpa using I.len⟩ ⟨_,hs,.inl rfl⟩
  ·exact (hs.2 b (W6 (Xe (WO e) I.ok.above))).trans (I.base.keep b o e n hb hx)
  ·obtain⟨sl,e1⟩:=I.base.slot b o e n hb hx;exact⟨sl,(hs.2 b (W6 (Xe (WO e) I.ok.above))).trans e1⟩
  ·obtain⟨o',e1⟩:=I.base.there b o e hx;exact⟨o',(hs.2 b (W6 (Xe (WO e) I.ok.above))).trans e1⟩
  ·by_cases hj:j=i
   ·subst hj;rw[hi] at e1;cases e1;rw[YX Uh] at e2;cases e2;exact⟨u,r,.inl ⟨hk,by simp⟩⟩
   ·rw[W_ (Ne.symm hj)] at e2;obtain⟨u',r',q⟩:=hl j y v' e1 e2 e3;refine⟨u',r',?_⟩;rcases q with⟨k,e⟩|⟨k,c,e,z⟩
    ·refine .inl ⟨k,?_⟩;have:y≠x:=λe=>hj (xr hN e1 (e▸hi));simp[this,e]
    ·exact .inr ⟨k,c,e,z.sameBut hs (cne y c e)⟩
  ·obtain⟨w',z⟩:=I.cell y c e;exact⟨w',z.sameBut hs (cne y c e)⟩
  ·obtain⟨e,n,ne,nf,d⟩:=I.pin p hp;exact⟨(hs.2 p.1 ne).trans e,n,ne,nf,d⟩
 ·have SX:X.fn x=true:=by
   rcases hf with z|z
   ·exact z
   ·rw[z] at hk;cases hk
  obtain⟨c,hc⟩:=I.ok.has x (.inl hk);obtain⟨w',z⟩:=I.cell x c hc;refine wpAny_storeName_cell I.ok.kind hk hc z (λh' Ui hs=>?_);obtain⟨oc,hoc,hocd⟩:=id z;refine h {s with heap:=h'} ⟨I.ok,I.os,I.bare,⟨λb o e n hb hx=>?_,λb o e n hb hx=>?_,I.base.free,λb o e hx=>?_,I.base.tups,I.base.frzs,I.base.tbls⟩,⟨m,hn.sameBut hs (Ne.symm (cne x c hc)),λj y v' e1 e2 e3=>?_⟩,λy c' e=>?_,I.free,I.freeC,λp hp=>?_,Cd ⟨oc,hoc,I.freeC x c hc⟩ hs,by simpa using I.len⟩ ⟨c,hs,.inr hc⟩
  ·exact (hs.2 b (W6 (Xe (WO e) (I.ok.cab x c SX hc)))).trans (I.base.keep b o e n hb hx)
  ·obtain⟨sl,e1⟩:=I.base.slot b o e n hb hx;exact⟨sl,(hs.2 b (W6 (Xe (WO e) (I.ok.cab x c SX hc)))).trans e1⟩
  ·obtain⟨o',e1⟩:=I.base.there b o e hx;exact⟨o',(hs.2 b (W6 (Xe (WO e) (I.ok.cab x c SX hc)))).trans e1⟩
  ·by_cases hj:j=i
   ·subst hj;rw[hi] at e1;cases e1;rw[YX Uh] at e2;cases e2;exact⟨u,r,.inr ⟨.inl hk,c,hc,Ui⟩⟩
   ·rw[W_ (Ne.symm hj)] at e2;obtain⟨u',r',q⟩:=hl j y v' e1 e2 e3;refine⟨u',r',?_⟩;rcases q with q|⟨k,c',e,z'⟩
    ·exact .inl q
    ·refine .inr ⟨k,c',e,z'.sameBut hs ?_⟩;rintro rfl;exact hj (xr hN e1 (I.ok.inj _ _ _ e hc▸hi))
  ·by_cases hcc:c'=c
   ·subst hcc;exact⟨_,Ui⟩
   ·obtain⟨w2,z2⟩:=I.cell y c' e;exact⟨w2,z2.sameBut hs hcc⟩
  ·obtain⟨e,n,ne,nf,d⟩:=I.pin p hp;refine⟨(hs.2 p.1 ?_).trans e,n,ne,nf,d⟩;intro q;rw[q,hoc] at e;have q':oc=p.2:=W0 e;exact d w' (by rw[←q'];exact hocd)
theorem mK {A:Xh}{u:WB}{Q:Unit->WN->Prop}(I:aN X pins σ H s)(hN:X.N.Nodup)(hi:X.N[i]? = some x)(hx:G1 X.env.scope x)(r:bu v u)(h:∀s',aN X pins (σ.set i (some v)) H s'->Q () s')(hf:X.fn x=true\/X.env.scope.names.lookup x=some .local:=by first|exact .inl rfl|exact .inr rfl|assumption):WU M A (storeName X.env x u) Q E s:=
 uH I hN hi hx r (λs' I' _=>h s' I') hf
theorem aN.call' {s':WN}(I:aN X pins σ H s)(ho:s'.os=s.os)(u:Un (AU X.stack) ch H H' s.heap s'.heap)(hok:lH X.prog X.w H' s'.heap)(hg:AllBare s'.gens)(G4:∀b∈ch,(b∈X.ex\/X.s₀.heap.objs.size<=b)/\b≠X.env.locals/\(∀x c,X.env.cells.lookup x=some c->c≠b)/\∀p∈X.pn++pins,p.1≠b):aN X pins σ H' s':=by
 obtain⟨h',g',d',t',o'⟩:=s';have e:o'=s.os:=ho;subst e;exact I.call (g':=g') (t':=t') (d':=d') u hok hg G4
end
abbrev XK:=WB->Option WT->Hp->Prop
noncomputable abbrev St:=List (Option V)
abbrev VK:=V->Hp->Prop
abbrev TE:=St->Hp->VK->Prop
abbrev TT:=St->Hp->(Bool->Hp->Prop)->Prop
abbrev TA:=St->Hp->(List V->Hp->Prop)->Prop
structure l_ where
 nx:St->Hp->Prop
 rt:VK
 bk:St->Hp->Prop:=λ_ _=>False
 ct:St->Hp->Prop:=λ_ _=>False
abbrev TS:=l_->St->Hp->Prop
def EP (X:Cx)(pins:List (WT×Obj))(σ:St)(Q:VK)(u:WB)(s':WN):Prop:=∃v H',aN X pins σ H' s'/\bu v u/\Q v H'
def TP (X:Cx)(pins:List (WT×Obj))(σ:St)(Q:Bool->Hp->Prop)(b:Bool)(s':WN):Prop:=∃H',aN X pins σ H' s'/\Q b H'
def AP (X:Cx)(pins:List (WT×Obj))(σ:St)(Q:List V->Hp->Prop)(us:List WB)(s':WN):Prop:=∃vs H',aN X pins σ H' s'/\a9 vs us/\Q vs H'
def SP (X:Cx)(pins:List (WT×Obj))(D:l_)(f:Flow)(s':WN):Prop:=
 match f with
 | .next=>∃σ' H',aN X pins σ' H' s'/\D.nx σ' H'
 | .brk=>∃σ' H',aN X pins σ' H' s'/\D.bk σ' H'
 | .cont=>∃σ' H',aN X pins σ' H' s'/\D.ct σ' H'
 | .ret u=>∃v σ' H',aN X pins σ' H' s'/\bu v u/\D.rt v H'
def PE (X:Cx)(e:Yv)(t:TE):Prop:=
 ∀(pins:List (WT×Obj)) (s:WN) (σ:St) (H:Hp) (Q:VK),aN X pins σ H s->t σ H Q->WU (W7 X.prog X.w) X.A (Z0 e X.env) (EP X pins σ Q) X.xe s
def PT (X:Cx)(e:Yv)(t:TT):Prop:=
 ∀(pins:List (WT×Obj)) (s:WN) (σ:St) (H:Hp) (Q:Bool->Hp->Prop),aN X pins σ H s->t σ H Q->WU (W7 X.prog X.w) X.A (isTrue e X.env (Z0 e X.env)) (TP X pins σ Q) X.xe s
def PW (X:Cx)(e:Yv)(t:TT):Prop:=
 ∀(whole:Sem WB) (pins:List (WT×Obj)) (s:WN) (σ:St) (H:Hp) (Q:Bool->Hp->Prop),aN X pins σ H s->t σ H Q->WU (W7 X.prog X.w) X.A (isTrue e X.env whole) (TP X pins σ Q) X.xe s
theorem PW.pt {X:Cx}{e:Yv}{t:TT}(h:PW X e t):PT X e t:=h _
def PA (X:Cx)(es:List Yv)(t:TA):Prop:=
 ∀(pos:Pos) (pins:List (WT×Obj)) (s:WN) (σ:St) (H:Hp) (Q:List V->Hp->Prop),aN X pins σ H s->t σ H Q->WU (W7 X.prog X.w) X.A (spliced (Zc pos (WY es X.env))) (AP X pins σ Q) X.xe s
def PS (X:Cx)(st:aak)(t:TS):Prop:=
 ∀(pins:List (WT×Obj)) (s:WN) (σ:St) (H:Hp) (D:l_),aN X pins σ H s->t D σ H->WU (W7 X.prog X.w) X.A (exec st X.env) (SP X pins D) X.xe s
def ud (X:Cx)(st:List aak)(t:TS):Prop:=
 ∀(pins:List (WT×Obj)) (s:WN) (σ:St) (H:Hp) (D:l_),aN X pins σ H s->t D σ H->WU (W7 X.prog X.w) X.A (execs st X.env) (SP X pins D) X.xe s
theorem eE {α:Type}{t:Sem α}{Q Q':α->WN->Prop}{A:Xh}(h:WU M A t Q E s)(hQ:∀a s,Q a s->Q' a s):WU M A t Q' E s:=XQ h hQ λ_ _ x=>x
end L2
variable {X:L2.Cx}{σ:L2.St}{te:L2.TE}
namespace L2
section
theorem V9 {a b:Yv}{ta tb:TE}(ha:PE X a ta)(hb:PE X b tb){R:V->V->Hp->Prop}(I:aN X pins σ H s)(h:ta σ H λx H1=>tb σ H1 λy H2=>R x y H2){α:Type}{Q:α->WN->Prop}{f:WB->WB->Sem α}(hf:∀v u s2 x y H2,aN X pins σ H2 s2->bu x v->bu y u->R x y H2->WU (W7 X.prog X.w) X.A (f v u) Q X.xe s2) :
  WU (W7 X.prog X.w) X.A (Z0 a X.env) (λv s₁=>WU (W7 X.prog X.w) X.A (Z0 b X.env) (λu s₂=>WU (W7 X.prog X.w) X.A (f v u) Q X.xe s₂) X.xe s₁) X.xe s:=by
 refine eE (ha pins s σ H _ I h) λv s1 ⟨x,H1,I1,r1,q1⟩=>?_;refine eE (hb pins s1 σ H1 _ I1 q1) λu s2 ⟨y,H2,I2,r2,q2⟩=>?_;exact hf v u s2 x y H2 I2 r1 r2 q2
def KY (i:Nat):TE:=λσ H Q=>∃v,σ[i]? = some (some v)/\Q v H
def tC (v:V):TE:=λ_ H Q=>Q v H
theorem ma (hN:X.N[i]? = some x)(hv:Ha X.env.scope x)(hd:(x==("__debug__":Str))=false:=by decide)(tW:(x==("__classdict__":Str))=false:=by decide):PE X (.Name x pos) (KY i):=by
 intro pins s σ H Q I h;obtain⟨v,e,h⟩:=h;obtain⟨m,hn,hl⟩:=I.loc;obtain⟨u,r,l⟩:=hl i x v hN e hv;have fin:EP X pins σ Q u s:=⟨v,H,I,r,h⟩;rcases l with⟨hk,hm⟩|⟨hk,c,hc,vI⟩
 ·exact wpAny_Name (wpAny_loadName_local I.ok.kind hk hn hm fin) hd
 ·rcases hk with hk|hk
  ·exact wpAny_Name (wpAny_loadName_cell I.ok.kind hk hc vI fin) hd
  ·exact wpAny_Name (wpAny_loadName_free I.ok.kind hk hc vI fin tW) hd
theorem KZ {i j pos}:PE X (.Constant (.int i) j pos) (tC (.int i)):=λ_ _ _ H _ I h=>wpAny_Constant_int ⟨.int i,H,I.tok _,⟨_,rfl⟩,h⟩
theorem Nt {b j pos}:PE X (.Constant (.bool b) j pos) (tC (.bl b)):=λ_ _ _ H _ I h=>Constant_bool ⟨.bl b,H,I,rfl,h⟩
theorem K0 {j pos}:PE X (.Constant .none j pos) (tC .non):=λ_ _ _ H _ I h=>Constant_none ⟨.non,H,I,rfl,h⟩
theorem K1 {x j pos}:PE X (.Constant (.str x) j pos) (tC (.str x)):=λ_ _ _ H _ I h=>Calls.Constant_str ⟨.str x,H,I.tok _,⟨_,rfl⟩,h⟩
def Gl (X:Cx)(x:Str):Prop:=X.env.kindOf x=some .globalImplicit
theorem AV {u:WB}(I:aN X pins σ H s)(hg:Gl X x)(hm:X.mg x=some u)(h:Q u s)(hd:(x==("__debug__":Str))=false:=by decide):WU (W7 X.prog X.w) X.A (Z0 (.Name x pos) X.env) Q E s:=
 abf I.ok.kind hg (Calls.loadGlobal_global (by rw[I.ok.glob];exact I.mod.glob.keeps I.bk) hm h) hd
theorem vM {u:WB}(I:aN X pins σ H s)(hg:Gl X x)(hm:X.mg x=none)(hv:XG x=some u)(h:Q u s)(hn:x≠"__name__":=by decide)(hd:(x==("__debug__":Str))=false:=by decide):WU (W7 X.prog X.w) X.A (Z0 (.Name x pos) X.env) Q E s:=by
 obtain⟨mb,h1,h2⟩:=I.mod.blt;exact abf I.ok.kind hg (Calls.loadGlobal_builtin (by rw[I.ok.glob];exact I.mod.glob.keeps I.bk) hm (by rw[I.ok.blt];exact h1.keeps I.bk) ((h2 x hn).trans hv) h) hd
theorem Hb {u:WB}(hg:Gl X x)(hm:X.mg x=some u)(r:bu v u)(hd:(x==("__debug__":Str))=false:=by decide):PE X (.Name x pos) (tC v):=
 λ_ _ _ H _ I h=>AV I hg hm ⟨v,H,I,r,h⟩ hd
variable {a b:Yv}{ta tb:TE}
def PC (X:Cx)(op:CmpOp)(a b:Yv)(t:TE):Prop:=
 ∀(pins:List (WT×Obj)) (s:WN) (σ:St) (H:Hp) (Q:VK),aN X pins σ H s->t σ H Q->
  WU (W7 X.prog X.w) X.A (Z0 a X.env) (λv s₁=>WU (W7 X.prog X.w) X.A (Z0 b X.env) (λu s₂=>WU (W7 X.prog X.w) X.A (Yf op v u) (EP X pins σ Q) X.xe s₂) X.xe s₁) X.xe s
def tB (t:TE):TT:=λσ H Q=>t σ H λx H1=>∃c,x=.bl c/\Q c H1
theorem Q7 {t:TE}(h:PC X op a b t)(h1:ZO op b=false:=by first|exact nobehind _ (by decide) (by decide)|rfl):PT X (.Compare a [op] [b] pos) (tB t):=by
 intro pins s σ H Q I hw;refine wpAny_isTrue_Compare1 (eE (h pins s σ H _ I hw) λv s1 h1=>eE h1 λu s2 h2=>eE h2 λc s3 ⟨x,H1,I1,r1,q1⟩=>?_) h1;obtain⟨d,rfl,q⟩:=q1;cases r1;exact YO ⟨H1,I1,q⟩
theorem K2 {e:Yv}{t:TE}(h:PE X e t)(he:∀whole,isTrue e X.env whole=(do let v ←whole;standAt e.pos;holding [v] (truthy v)):=by intro _;rfl):PT X e (tB t):=by
 intro pins s σ H Q I hw;refine isTrue_plain (eE (h pins s σ H _ I hw) λv s1 ⟨x,H1,I1,r1,q1⟩=>?_) (he _);obtain⟨d,rfl,q⟩:=q1;cases r1;exact YO ⟨H1,I1,q⟩
variable {tA tB':TT}{rest:List Yv}
def Nu (t u:TT):TT:=λσ H Q=>t σ H λc H1=>if c=true then u σ H1 Q else Q false H1
def TL (t u:TT):TT:=λσ H Q=>t σ H λc H1=>if c=true then Q true H1 else u σ H1 Q
def Q8 (t:TT):TT:=λσ H Q=>t σ H λc H1=>Q (!c) H1
theorem Hd (ha:PT X a tA):PW X (.BoolOp .And [a] pos) tA:=by
 intro wh pins s σ H Q I h;refine isTrue_and (eE (ha pins s σ H Q I h) λc s1 e=>?_);cases c with
 |true=>exact isTrue_and_nil e
 |false=>exact e
theorem K3 (ha:PT X a tA):PW X (.BoolOp .Or [a] pos) tA:=by
 intro wh pins s σ H Q I h;refine isTrue_or (eE (ha pins s σ H Q I h) λc s1 e=>?_);cases c with
 |false=>exact isTrue_or_nil e
 |true=>exact e
theorem K4 (ha:PT X a tA)(hb:PW X (.BoolOp .And (b::rest) pos) tB'):PW X (.BoolOp .And (a::b::rest) pos) (Nu tA tB'):=by
 intro wh pins s σ H Q I h;refine isTrue_and (eE (ha pins s σ H _ I h) λc s1 ⟨H1,I1,q1⟩=>?_);cases c with
 |true=>exact hb wh pins s1 σ H1 Q I1 q1
 |false=>exact⟨H1,I1,q1⟩
theorem Nv (ha:PT X a tA)(hb:PW X (.BoolOp .Or (b::rest) pos) tB'):PW X (.BoolOp .Or (a::b::rest) pos) (TL tA tB'):=by
 intro wh pins s σ H Q I h;refine isTrue_or (eE (ha pins s σ H _ I h) λc s1 ⟨H1,I1,q1⟩=>?_);cases c with
 |true=>exact⟨H1,I1,q1⟩
 |false=>exact hb wh pins s1 σ H1 Q I1 q1
theorem K5 (ha:PT X a tA):PT X (.UnaryOp .Not a pos) (Q8 tA):=by
 intro pins s σ H Q I h;exact isTrue_not (ha pins s σ H (λc H1=>Q (!c) H1) I h)
def Nw (ta tb:TE):TE:=λσ H Q=>ta σ H λx H1=>∃c,x=.bl c/\if c=true then tb σ H1 Q else Q (.bl false) H1
theorem K6 {op}{t:TE}(h:PE X a t):PE X (.BoolOp op [a] pos) t:=λpins s σ H Q I hw=>BoolOp_one (h pins s σ H Q I hw)
theorem K7 (ha:PE X a ta)(hb:PE X (.BoolOp .And (b::rest) pos) tb):PE X (.BoolOp .And (a::b::rest) pos) (Nw ta tb):=by
 intro pins s σ H Q I h;refine BoolOp_and (eE (ha pins s σ H _ I h) λv s1 ⟨x,H1,I1,r1,q1⟩=>?_);obtain⟨c,rfl,q1⟩:=q1;cases r1;refine YO ?_;cases c with
 |true=>exact hb pins s1 σ H1 Q I1 q1
 |false=>exact⟨.bl false,H1,I1,rfl,q1⟩
def UJ (t:TT)(ta tb:TE):TE:=λσ H Q=>t σ H λc H1=>if c=true then ta σ H1 Q else tb σ H1 Q
theorem DP (hc:PT X c tA)(ha:PE X a ta)(hb:PE X b tb):PE X (.IfExp c a b pos) (UJ tA ta tb):=by
 intro pins s σ H Q I h;refine wpAny_IfExp (eE (hc pins s σ H _ I h) λd s1 ⟨H1,I1,q1⟩=>?_);cases d with
 |true=>exact ha pins s1 σ H1 Q I1 q1
 |false=>exact hb pins s1 σ H1 Q I1 q1
end
end L2
namespace L2
def f7 (K:Wv)(H:Hp)(a:WT)(xs:List V):Prop:=
 Rd H a (.lst xs) \/
  ∃(o:Obj) (its:Array WB) (n:Nat),K.lookup a=some o/\o.cls=.type "list"/\o.dict=none/\o.data=.seq its n/\its.size<=WE/\a9 xs its.toList
def gK (K:Wv)(H:Hp)(a:WT)(xs:List V):Prop:=
 Rd H a (.tup xs) \/
  ∃(o:Obj) (its:Array WB) (n:Nat),K.lookup a=some o/\o.cls=.type "tuple"/\o.data=.seq its n/\its.size<=WE/\a9 xs its.toList
noncomputable def Q9:WB->Option V
 | .none=>some .non
 | .bool b=>some (.bl b)
 | .int i _=>some (.int i)
 | .str x _=>some (.str x)
 | .bytes b _=>some (.byt b)
 | .float b _=>some (.flt b)
 | .ref a=>some (.ref a)
 | .type n=>some (.ty n)
 |_=>none
theorem bu.abs {x:V}{u:WB}(r:bu x u):Q9 u=some x:=by
 cases x with
 |non=>cases r;rfl
 |bl _=>cases r;rfl
 |int _=>obtain⟨t,rfl⟩:=r;rfl
 |str _=>obtain⟨t,rfl⟩:=r;rfl
 |byt _=>obtain⟨t,rfl⟩:=r;rfl
 |flt _=>obtain⟨t,rfl⟩:=r;rfl
 |ref _=>cases r;rfl
 |ty _=>cases r;rfl
theorem bu.inj {x:V}{u:WB}(r:bu x u)(q:bu y u):x=y:=W0 (r.abs.symm.trans q.abs)
theorem a9.inj:∀{xs ys:List V} {us:List WB},a9 xs us->a9 ys us->xs=ys
 |_,_,_,.nil,.nil=>rfl
 |_,_,_,.cons r t,.cons r' t'=>by rw[r.inj r',a9.inj t t']
section
variable {ys:List V}
theorem f7.of (h:H a=some (.lst xs)):f7 K H a xs:=.inl (.inl h)
theorem gK.of (h:H a=some (.tup xs)):gK K H a xs:=.inl (.inl h)
theorem aN.list (I:aN X pins σ H s)(h:f7 X.K H a xs):∃its:List WB,a9 xs its/\PlainL s.heap a its.toArray/\xs.length<=WE:=by
 rcases h with h|⟨o,its,n,hk,hc,hd,hs,hz,r⟩
 ·obtain⟨z,its,n,r,e⟩:=h.ok I.hok;exact⟨its,r,⟨_,n,e,rfl,rfl,rfl⟩,z⟩
 ·refine⟨its.toList,r,⟨o,n,I.kIn a o hk,hc,hd,by simpa using hs⟩,?_⟩;have e:=r.length;simp only[Wx] at e;lia
theorem aN.tuple (I:aN X pins σ H s)(h:gK X.K H a xs):∃its:List WB,a9 xs its/\IsTup s.heap a its.toArray/\xs.length<=WE:=by
 rcases h with h|⟨o,its,n,hk,hc,hs,hz,r⟩
 ·obtain⟨z,its,r,p,_⟩:=h.ok I.hok;exact⟨its,r,p,z⟩
 ·refine⟨its.toList,r,⟨o,I.kIn a o hk,hc,n,by simpa using hs⟩,?_⟩;have e:=r.length;simp only[Wx] at e;lia
theorem aN.list_inj (I:aN X pins σ H s)(h:f7 X.K H a xs)(h':f7 X.K H a ys):xs=ys:=by
 obtain⟨its,r,⟨o,n,e,_,_,d⟩,_⟩:=I.list h;obtain⟨its',r',⟨o',n',e',_,_,d'⟩,_⟩:=I.list h';rw[e] at e';cases e';rw[d] at d';injection d' with d1 _
 have:its=its':=by simpa using congrArg Array.toList d1
 subst this;exact r.inj r'
theorem aN.tuple_inj (I:aN X pins σ H s)(h:gK X.K H a xs)(h':gK X.K H a ys):xs=ys:=by
 obtain⟨its,r,⟨o,e,_,n,d⟩,_⟩:=I.tuple h;obtain⟨its',r',⟨o',e',_,n',d'⟩,_⟩:=I.tuple h';rw[e] at e';cases e';rw[d] at d';injection d' with d1 _
 have:its=its':=by simpa using congrArg Array.toList d1
 subst this;exact r.inj r'
end
noncomputable abbrev Cx.wish (X:Cx)(E:WB->WN->Prop):Cx:={X with xe:=E}
noncomputable abbrev Cx.nox (X:Cx):Cx:=X.wish λ_ _=>False
theorem Cx.Ok.wish (ok:X.Ok)(E:WB->WN->Prop):(X.wish E).Ok:=
 ⟨ok.mod,ok.kind,ok.glob,ok.blt,ok.above,ok.inj,ok.has,ok.cab,ok.hd,ok.frames,ok.stk,ok.exf,ok.bs,ok.bsz,ok.noex,ok.exfs,ok.funs,ok.frf⟩
theorem Cx.Ok.unwish (ok:(X.wish E).Ok):X.Ok:=
 ⟨ok.mod,ok.kind,ok.glob,ok.blt,ok.above,ok.inj,ok.has,ok.cab,ok.hd,ok.frames,ok.stk,ok.exf,ok.bs,ok.bsz,ok.noex,ok.exfs,ok.funs,ok.frf⟩
theorem aN.wish (I:aN X pins σ H s)(E:WB->WN->Prop):aN (X.wish E) pins σ H s:=⟨I.ok.wish E,I.os,I.bare,I.base,I.loc,I.cell,I.free,I.freeC,I.pin,I.hok,I.len⟩
theorem aN.unwish (I:aN (X.wish E) pins σ H s):aN X pins σ H s:=⟨I.ok.unwish,I.os,I.bare,I.base,I.loc,I.cell,I.free,I.freeC,I.pin,I.hok,I.len⟩
theorem SP.unwish {D:l_}{f:Flow}{s':WN}(h:SP (X.wish E) pins D f s'):SP X pins D f s':=by
 cases f with
 |next=>obtain⟨σ',H',I,q⟩:=h;exact⟨σ',H',I.unwish,q⟩
 |brk=>obtain⟨σ',H',I,q⟩:=h;exact⟨σ',H',I.unwish,q⟩
 |cont=>obtain⟨σ',H',I,q⟩:=h;exact⟨σ',H',I.unwish,q⟩
 |ret u=>obtain⟨v,σ',H',I,r,q⟩:=h;exact⟨v,σ',H',I.unwish,r,q⟩
theorem ud.nox {st:List aak}{t:TS}(h:ud X.nox st t):ud X st t:=λpins s σ H D I hw=>
 XQ (h pins s σ H D (I.wish _) hw) (λ_ _ q=>q.unwish) λ_ _ z=>ZP z
section
variable {rest:List aak}{t u:TS}{e:Yv}
def Ny:TS:=λD σ H=>D.nx σ H
def Q_ (t u:TS):TS:=λD σ H=>t {D with nx:=u D} σ H
theorem AW:ud X [] Ny:=λ_ _ σ H _ I h=>aa6 ⟨σ,H,I,h⟩
theorem DQ (h1:PS X st t)(h2:ud X rest u):ud X (st::rest) (Q_ t u):=by
 intro pins s σ H D I h;refine wpAny_execs_cons (eE (h1 pins s σ H {D with nx:=u D} I h) λf s1 q=>?_);cases f with
 |next=>
  obtain⟨σ',H',I',q⟩:=q;exact h2 pins s1 σ' H' D I' q
 |ret v=>exact q
 |brk=>exact q
 |cont=>exact q
theorem AX (h1:PS X st t):ud X [st] t:=by
 intro pins s σ H D I h;refine wpAny_execs_cons (eE (h1 pins s σ H D I h) λf s1 q=>?_);cases f with
 |next=>exact aa6 q
 |ret v=>exact q
 |brk=>exact q
 |cont=>exact q
theorem aN.quiet (I:aN X pins σ H s):interactive X.env=false:=by simp[interactive,I.ok.kind]
def Nz (te:TE):TS:=λD σ H=>te σ H λ_ H1=>D.nx σ H1
theorem AY (he:PE X e te)(hs:aaP e none pos.line X.env=pure false:=by rfl):PS X (.Expr e pos) (Nz te):=by
 intro pins s σ H D I h;exact wpAny_Expr_any (eE (he pins s σ H _ I h) λv s1 ⟨x,H1,I1,r1,q1⟩=>⟨σ,H1,I1,q1⟩) I.quiet hs
def Ra (te:TE):TS:=λD σ H=>te σ H D.rt
theorem zj (he:PE X e te):PS X (.Return (some e) pos) (Ra te):=by
 intro pins s σ H D I h;exact wpAny_Return_some (eE (he pins s σ H _ I h) λv s1 ⟨x,H1,I1,r1,q1⟩=>⟨x,σ,H1,I1,r1,q1⟩)
def Rb (c:TT)(t u:TS):TS:=λD σ H=>c σ H λb H1=>if b=true then t D σ H1 else u D σ H1
theorem Je {a b:List aak}{tc:TT}(hc:PT X c tc)(ha:ud X a t)(hb:ud X b u):PS X (.If c a b pos) (Rb tc t u):=by
 intro pins s σ H D I h;refine wpAny_If (eE (hc pins s σ H _ I h) λd s1 ⟨H1,I1,q1⟩=>?_);cases d with
 |true=>exact ha pins s1 σ H1 D I1 q1
 |false=>exact hb pins s1 σ H1 D I1 q1
end
abbrev TG:=V->St->Hp->(St->Hp->Prop)->Prop
abbrev He:=List V->St->Hp->(St->Hp->Prop)->Prop
def PG (X:Cx)(oU:Yv)(t:TG):Prop:=
 ∀(pins:List (WT×Obj)) (s:WN) (σ:St) (H:Hp) (v:V) (u:WB) (Q:St->Hp->Prop),aN X pins σ H s->bu v u->t v σ H Q->
  WU (W7 X.prog X.w) X.A (assign oU X.env u) (λ_ s'=>∃σ' H',aN X pins σ' H' s'/\Q σ' H') X.xe s
def Jf (X:Cx)(ts:List Yv)(t:He):Prop:=
 ∀(pins:List (WT×Obj)) (s:WN) (σ:St) (H:Hp) (vs:List V) (us:List WB) (Q:St->Hp->Prop),aN X pins σ H s->a9 vs us->t vs σ H Q->
  WU (W7 X.prog X.w) X.A (assignInOrder ((Zf ts X.env).map (·.2)) us) (λ_ s'=>∃σ' H',aN X pins σ' H' s'/\Q σ' H') X.xe s
abbrev K8:=V->V->V->Hp->(Hp->Prop)->Prop
def NA (X:Cx)(t:K8):Prop:=
 ∀(pins:List (WT×Obj)) (s:WN) (σ:St) (H:Hp) (o i v:V) (ov iv u:WB) (Q:Hp->Prop),aN X pins σ H s->bu o ov->bu i iv->bu v u->t o i v H Q->
  WU (W7 X.prog X.w) X.A (setItem ov iv u) (λ_ s'=>∃H',aN X pins σ H' s'/\Q H') X.xe s
def xt (i:Nat):TG:=λv σ H Q=>Q (σ.set i (some v)) H
theorem Hg (hN:X.N.Nodup)(hi:X.N[i]? = some x)(hx:G1 X.env.scope x)(hf:X.fn x=true\/X.env.scope.names.lookup x=some .local:=by first|exact .inl rfl|exact .inr rfl|assumption):PG X (.Name x pos) (xt i):=by
 intro pins s σ H v u Q I r h;exact wpAny_assign_Name (mK I hN hi hx r (λs' I'=>⟨_,H,I',h⟩) hf)
def Rc:He:=λvs σ H Q=>vs=[]/\Q σ H
def NB (t:TG)(u:He):He:=λvs σ H Q=>∃v r,vs=v::r/\t v σ H λσ' H'=>u r σ' H' Q
theorem Hh:Jf X [] Rc:=by
 intro pins s σ H vs us Q I r h;obtain⟨e,h⟩:=h;subst e;cases r;exact assignInOrder_nil ⟨σ,H,I,h⟩
theorem DR {e:Yv}{es:List Yv}{t:TG}{u:He}(h1:PG X e t)(h2:Jf X es u)
  (hs:(Zf (e::es) X.env).map (·.2)=assign e X.env::(Zf es X.env).map (·.2):=by rfl):Jf X (e::es) (NB t u):=by
 intro pins s σ H vs us Q I r h;obtain⟨v,vr,e1,h⟩:=h;subst e1;cases r with
 |cons r rr=>
  rw[hs];refine abl (eE (h1 pins s σ H _ _ _ I r h) λ_ s1 ⟨σ1,H1,I1,q1⟩=>?_);exact h2 pins s1 σ1 H1 _ _ Q I1 rr q1
def Rf (K:Wv)(n:Nat)(t:He):TG:=λv σ H Q=>∃a xs,v=.ref a/\gK K H a xs/\xs.length=n/\t xs σ H Q
theorem K9 {es:List Yv}{t:He}(hc:X.calm=true)(h:Jf X es t)(hn:(Zf es X.env).length=n:=by rfl)(jl:(Zf es X.env).findIdx? (·.1)=none:=by rfl):PG X (.Tuple es k pos) (Rf X.K n t):=by
 intro pins s σ H v u Q I r hw;obtain⟨a,xs,e1,hq,hl,hw⟩:=hw;subst e1;cases r;obtain⟨its,rv,ht,hz⟩:=I.tuple hq;refine assign_Tuple_tuple (I.ok.hd hc) ht (by simp[hn,←hl,rv.length]) jl λh' hx=>?_;have I1:aN X pins σ H {s with heap:=h'}:=I.kept (t':=s.toks) λb o e=>hx b o (W6 (WO e)) e;exact h pins _ σ H xs _ Q I1 (by simpa using rv) hw
def Rg (to ti:TE)(t:K8):TG:=λv σ H Q=>to σ H λo H1=>ti σ H1 λi H2=>t o i v H2 λH3=>Q σ H3
theorem K_ {o i:Yv}{to ti:TE}{t:K8}(ho:PE X o to)(hi:PE X i ti)(hs:NA X t)
  (ha:∀v,assign (.Subscript o i pos) X.env v=(do
   let ov ←holding [v] (Z0 o X.env)
   let iv ←holding [v,ov] (Z0 i X.env)
   standAt pos
   holding [v,ov,iv] (setItem ov iv v)
   release [v,ov,iv] []):=by intro _;rfl):PG X (.Subscript o i pos) (Rg to ti t):=by
 intro pins s σ H v u Q I r h;rw[ha];refine Wq (X4 (eE (ho pins s σ H _ I h) λov s1 ⟨x,H1,I1,r1,q1⟩=>?_));refine Wq (X4 (eE (hi pins s1 σ H1 _ I1 q1) λiv s2 ⟨y,H2,I2,r2,q2⟩=>?_));refine Wq (wpAny_standAt (Wq (X4 (eE (hs pins s2 σ H2 x y v ov iv u _ I2 r1 r2 r q2) λ_ s3 ⟨H3,I3,q3⟩=>?_))));exact wpAny_release ⟨σ,H3,I3,q3⟩
def DU (te:TE)(g:TG):TS:=λD σ H=>te σ H λx H1=>g x σ H1 D.nx
theorem DV {e:Yv}{g:TG}(he:PE X e te)(hg:PG X tg g)(hs:aaY [tg] e pos.line X.env=pure false:=by rfl)(hw:aaZ [tg] e X.env=pure none:=by rfl)(h1:(Zf [tg] X.env).map (·.2)=[assign tg X.env]:=by rfl):PS X (.Assign [tg] e pos) (DU te g):=by
 intro pins s σ H D I h;refine wpAny_Assign_stores (eE (he pins s σ H _ I h) λv s1 ⟨x,H1,I1,r1,q1⟩=>?_) hs hw;rw[h1];exact eE (hg pins s1 σ H1 x v _ I1 r1 q1) λ_ s2 q=>q
theorem DX {e:Yv}{lT:Pos}(hN:X.N.Nodup)(hi:X.N[i]? = some x)(hx:G1 X.env.scope x)(he:PE X e te)(hs:aaP e (some (.Name x lT)) pos.line X.env=pure false:=by rfl)(hf:X.fn x=true\/X.env.scope.names.lookup x=some .local:=by first|exact .inl rfl|exact .inr rfl|assumption) :
  PS X (.Assign [.Name x lT] e pos) (DU te (xt i)):=by
 intro pins s σ H D I h;refine wpAny_Assign_Name (eE (he pins s σ H _ I h) λv s1 ⟨y,H1,I1,r1,q1⟩=>?_) hs;exact mK I1 hN hi hx r1 (λs2 I2=>⟨_,H1,I2,q1⟩) hf
def Rh (i j:Nat)(ta:TA):TS:=λD σ H=>ta σ H λvs H1=>∃v w,vs=[v,w]/\D.nx ((σ.set i (some v)).set j (some w)) H1
theorem La {y:Str}{a b:Yv}{ta:TA}{px py pt:Pos}{kt k2 pt2}(hc:X.calm=true)(hN:X.N.Nodup)(hi:X.N[i]? = some x)(hj:X.N[j]? = some y)(uE:i≠j)(hx:X.env.scope.names.lookup x=some .local)(hy:X.env.scope.names.lookup y=some .local)(ha:PA X [a,b] ta)(hw:aaZ [.Tuple [.Name x px,.Name y py] kt pt] (.Tuple [a,b] k2 pt2) X.env=pure (some [x,y]))(hs:aaY [.Tuple [.Name x px,.Name y py] kt pt] (.Tuple [a,b] k2 pt2) pos.line X.env=pure false:=by rfl) :
  PS X (.Assign [.Tuple [.Name x px,.Name y py] kt pt] (.Tuple [a,b] k2 pt2) pos) (Rh i j ta):=by
 intro pins s σ H D I h;rw[exec_Assign_arm];refine Wq (wpAny_standAt ?_);rw[hs];refine Wq (Wt ?_);rw[hU (by decide)];refine Wq (Tuple_ (eE (ha _ pins s σ H _ I h) λus s1 ⟨vs,H1,I1,r1,q1⟩=>?_));obtain⟨v,w,e1,q1⟩:=q1;subst e1;obtain⟨u1,u2,rfl,rv,AN⟩:∃u1 u2,us=[u1,u2]/\bu v u1/\bu w u2:=by
  cases r1 with
  |cons p q=>
   cases q with
   |cons p' q'=>
    cases q';exact⟨_,_,rfl,p,p'⟩
 refine Xk ?_ (by show 2<=WE;decide);have I2:aN X pins σ H1 {s1 with heap:=s1.heap.push {cls:=.type "tuple",data:=.seq [u1,u2].toArray}}:=I1.kept (t':=s1.toks) λb o e=>Ws _ e;rw[hw];refine Wq (Wt ?_);show WU (W7 X.prog X.w) X.A (do rule "assign.swapped-stores";let items ←unpackItems (.ref s1.heap.objs.size) 2 none;assignInOrder [λv=>bindName X.env y v,λv=>bindName X.env x v] items.reverse;pure Flow.next) _ _ _;refine Wq (YQ (Wq (unpackItems_tuple (items:=#[u1,u2]) (I.ok.hd hc) (IsTup.new s1.heap _) λh' t7=>?_)));have I3:=I2.kept (h':=h') (t':=s1.toks) λb o e=>t7 b o (W6 (WO e)) e;show WU _ _ (assignInOrder [λv=>bindName X.env y v,λv=>bindName X.env x v] [u2,u1] >>= λ_=>pure Flow.next) _ _ _;refine Wq (abl (wpAny_bindName (mK I3 hN hj (.inl hy) AN (λs2 I4=>?_) (.inr hy))));refine abl (wpAny_bindName (mK I4 hN hi (.inl hx) rv (λs3 I5=>assignInOrder_nil (Wt ?_)) (.inr hx)));rw[List.set_comm _ _ (Ne.symm uE)] at I5;exact⟨_,H1,I5,q1⟩
def Lb (c:TT)(tb:TS):TS:=λD σ H=>∃W:Nat->St->Hp->Prop,(∃m,W m σ H)/\∀m σ H,W m σ H->
 c σ H λb H1=>if b=true then ∃N:St->Hp->Prop,(∀σ' H',N σ' H'->∃m',m'<m/\W m' σ' H')/\tb {D with nx:=N,ct:=N,bk:=D.nx} σ H1 else D.nx σ H1
theorem DY {tc:TT}{tb:TS}(hp:abX (W7 X.prog X.w) X.A X.env X.xe)(hc:PT X c tc)(hb:ud X body tb):PS X (.While c body [] pos) (Lb tc tb):=by
 intro pins s σ H D I h;obtain⟨W,⟨m0,w0⟩,turn⟩:=h;refine wpAny_While (codeAny_whileLoop (λn s'=>∃σ' H',aN X pins σ' H' s'/\W n σ' H') ?_ m0 ⟨σ,H,I,w0⟩);rintro n s1 ⟨σ1,H1,I1,w1⟩;refine Zg hp (eE (hc pins s1 σ1 H1 _ I1 (turn n σ1 H1 w1)) λb s2 ⟨H2,I2,q2⟩=>?_);cases b with
 |true=>
  obtain⟨N,hN,q2⟩:=q2;rw[hV rfl];refine Zg hp (eE (hb pins s2 σ1 H2 _ I2 q2) λf s3 q3=>?_);cases f with
  |next=>
   obtain⟨σ3,H3,I3,n3⟩:=q3;obtain⟨m',hm,w3⟩:=hN σ3 H3 n3;exact⟨m',hm,σ3,H3,I3,w3⟩
  |cont=>
   obtain⟨σ3,H3,I3,n3⟩:=q3;obtain⟨m',hm,w3⟩:=hN σ3 H3 n3;exact⟨m',hm,σ3,H3,I3,w3⟩
  |brk=>exact q3
  |ret v=>exact q3
 |false=>
  rw[hU WA];exact aa6 ⟨σ1,H2,I2,q2⟩
structure It where
 go:Nat->Hp->Prop
 yld:Nat->Hp->V->Hp->Prop
 stop:Nat->Hp->Prop
def p6 (X:Cx)(pins:List (WT×Obj))(H:Hp)(b:WT):Prop:=
 H b=none/\b≠X.env.locals/\b∉X.fs/\(b∈X.ex\/X.s₀.heap.objs.size<=b)/\(∀x c,X.env.cells.lookup x=some c->c≠b)/\∀p∈X.pn++pins,p.1≠b
theorem aN.fpOk (I:aN X pins σ H s)(hb:s.heap.objs.size<=b)(hn:H' b=none):p6 X pins H' b:=by
 refine⟨hn,Zz (Xe I.lt hb),I.nofs hb,.inr (Xz I.sz hb),λx c e z=>?_,λp hp z=>?_⟩
 ·obtain⟨v,q⟩:=I.cell x c e;exact absurd (Xe q.lt (by rw[z];exact hb)) (YC _)
 ·exact absurd (Xe (WO (I.pin p hp).1) (by rw[z];exact hb)) (YC _)
structure Cq (P:XF)(w:Zu)(K:Wv)(tg:Yv)(J:It)(fp:List WT)(it:WT)(tn:Nat->Y8->Prop):Prop where
 mem:it∈fp
 obj:∀i h,tn i h->∀b∈fp,∃o,h.get? b=some o/\∀v,o.data≠.cell v
 keep:∀i h h',tn i h->(∀b∈fp,∀o,h.get? b=some o->h'.get? b=some o)->tn i h'
 item:∀(X:Cx),X.prog=P->X.w=w->X.K=K->X.calm=true->∀(i:Nat) (pins:List (WT×Obj)) (s:WN) (σ:St) (H:Hp) (E:WB->WN->Prop),aN X pins σ H s->(∀b∈fp,p6 X pins H b)->tn i s.heap->J.go i H->
  WU (W7 P w) X.A (aaV (.ref it)) (λr s1=>∃u,r=some u/\
   WU (W7 P w) X.A (aa7 tg (.ref it) u) (λ_ s2=>∃x H',aN X pins σ H' s2/\bu x u/\J.yld i H x H'/\tn (i+1) s2.heap/\∀b∈fp,H' b=none) E s1) E s
 done:∀(X:Cx),X.prog=P->X.w=w->X.K=K->X.calm=true->∀(i:Nat) (pins:List (WT×Obj)) (s:WN) (σ:St) (H:Hp) (E:WB->WN->Prop),aN X pins σ H s->(∀b∈fp,p6 X pins H b)->tn i s.heap->J.stop i H->
  WU (W7 P w) X.A (aaV (.ref it)) (λr s1=>r=none/\aN X pins σ H s1) E s
 self:∀(A:Xh) (i:Nat) (s:WN) (Q:WB->WN->Prop) (E:WB->WN->Prop),tn i s.heap->Q (.ref it) s->WU (W7 P w) A (pyIter (.ref it)) Q E s
abbrev TI:=St->Hp->(It->Hp->Prop)->Prop
def TM (X:Cx)(pins:List (WT×Obj))(σ:St)(tg:Yv)(R:It->Hp->Prop)(QW:WB)(s2:WN):Prop:=
 ∃(it:WT) (fp:List WT) (tn:Nat->Y8->Prop) (J:It) (H':Hp),QW=.ref it/\aN X pins σ H' s2/\Cq X.prog X.w X.K tg J fp it tn/\tn 0 s2.heap/\(∀b∈fp,p6 X pins H' b)/\R J H'
def PI (X:Cx)(tg iter:Yv)(wi:TI):Prop:=
 ∀(pins:List (WT×Obj)) (s:WN) (σ:St) (H:Hp) (R:It->Hp->Prop),aN X pins σ H s->wi σ H R->
  WU (W7 X.prog X.w) X.A (Z0 iter X.env) (λv s1=>WU (W7 X.prog X.w) X.A (pyIter v) (TM X pins σ tg R) X.xe s1) X.xe s
theorem DZ {A:Xh}{u:WB}{o:Obj}{n:String}{vs:Array WB}{Q:Unit->WN->Prop}(ho:s.heap.get? it=some o)(hc:o.cls=.type n)(hd:o.data=.fields vs)(hn:["enumerate","zip","dict_itemiterator","dict_reverseitemiterator","odict_iterator","itertools.zip_longest","itertools.pairwise"].contains n=false)(hQ:Q () s):WU M A (aa7 tg (.ref it) u) Q E s:=by
  unfold aa7;cases tg<;>first
    |exact Wt hQ
    | (cases u<;>first
        |exact Wt hQ
        | (refine Wq (wpAny_load ho ?_)
           rw[hc,hd];show WU M A (if (["enumerate","zip","dict_itemiterator","dict_reverseitemiterator","odict_iterator","itertools.zip_longest","itertools.pairwise"].contains n&&vs[0]? == some (abm _))=true then _ else _) Q E s;rw[hU (by intro h;rw[hn,Bool.false_and] at h;cases h)];exact Wt hQ))
noncomputable def QC (K:Wv)(a:WT):It:=
 ⟨λi H=>∃xs x,f7 K H a xs/\xs[i]? = some x,λi H x H'=>H'=H/\∀xs,f7 K H a xs->xs[i]? = some x,λi H=>∃xs,f7 K H a xs/\xs.length<=i⟩
noncomputable def Ri (K:Wv)(a:WT):It:=
 ⟨λi H=>∃xs x,gK K H a xs/\xs[i]? = some x,λi H x H'=>H'=H/\∀xs,gK K H a xs->xs[i]? = some x,λi H=>∃xs,gK K H a xs/\xs.length<=i⟩
noncomputable def QD (lo:Int)(n:Nat):It:=⟨λi _=>i<n,λi H x H'=>H'=H/\x=.int (lo+i),λi _=>n<=i⟩
theorem Cr {P:XF}(a it:WT):Cq P w K tg (QC K a) [it] it (λi h=>h.IsListIter it a i) where
 mem:=by simp
 obj:=λi h st b hb=>by
  have e:b=it:=by simpa using hb
  subst e;obtain⟨o,e,c,d⟩:=st;exact⟨o,e,λv z=>by rw[d] at z;cases z⟩
 keep:=λi h h' st k=>st.at λo e=>k it (by simp) o e
 item:=by
  intro X hP hw hK hc i pins s σ H E I hf st hg;subst hP hw hK;obtain⟨xs,x,hq,hx⟩:=hg;obtain⟨its,rv,p,hz⟩:=I.list hq;obtain⟨u,hu,ru⟩:=rv.get hx;obtain⟨f0,f1,f2,f3,f4,f5⟩:=hf it (by simp);refine wpAny_pyNext_list_item st p.isList (x:=u) (by simpa using hu) λh' aU sb=>?_;have I1:aN X pins σ H {s with heap:=h'}:=I.turned (t':=s.toks) (λb o hb e=>(sb.2 b hb).trans e) f0 f1 f3 f4 f5;obtain⟨o,e,c,d⟩:=id aU;exact⟨u,rfl,DZ (s:={s with heap:=h'}) e c d (by decide) ⟨x,H,I1,ru,⟨rfl,λys hy=>by rw[I.list_inj hy hq];exact hx⟩,aU,λb hb=>(hf b hb).1⟩⟩
 done:=by
  intro X hP hw hK hc i pins s σ H E I hf st hg;subst hP hw hK;obtain⟨xs,hq,hx⟩:=hg;obtain⟨its,rv,p,hz⟩:=I.list hq;obtain⟨f0,f1,f2,f3,f4,f5⟩:=hf it (by simp);have hl:=rv.length;exact wpAny_pyNext_list_end (I.ok.hd hc) st p.isList (by simp;lia) λh' eb=>⟨rfl,I.turned (t':=s.toks) (λb o hb e=>eb b o hb e) f0 f1 f3 f4 f5⟩
 self:=λ_ _ _ _ _ st h=>wpAny_pyIter_listiter st h
theorem zk {P:XF}(a it:WT):Cq P w K tg (Ri K a) [it] it (λi h=>h.IsTupleIter it a i) where
 mem:=by simp
 obj:=λi h st b hb=>by
  have e:b=it:=by simpa using hb
  subst e;obtain⟨o,e,c,d⟩:=st;exact⟨o,e,λv z=>by rw[d] at z;cases z⟩
 keep:=λi h h' st k=>st.at λo e=>k it (by simp) o e
 item:=by
  intro X hP hw hK hc i pins s σ H E I hf st hg;subst hP hw hK;obtain⟨xs,x,hq,hx⟩:=hg;obtain⟨its,rv,p,hz⟩:=I.tuple hq;obtain⟨u,hu,ru⟩:=rv.get hx;obtain⟨f0,f1,f2,f3,f4,f5⟩:=hf it (by simp);refine wpAny_pyNext_tuple_item st (show s.heap.IsTuple a its.toArray from p) (x:=u) (by simpa using hu) λh' aU sb=>?_;have I1:aN X pins σ H {s with heap:=h'}:=I.turned (t':=s.toks) (λb o hb e=>(sb.2 b hb).trans e) f0 f1 f3 f4 f5;obtain⟨o,e,c,d⟩:=id aU;exact⟨u,rfl,DZ (s:={s with heap:=h'}) e c d (by decide) ⟨x,H,I1,ru,⟨rfl,λys hy=>by rw[I.tuple_inj hy hq];exact hx⟩,aU,λb hb=>(hf b hb).1⟩⟩
 done:=by
  intro X hP hw hK hc i pins s σ H E I hf st hg;subst hP hw hK;obtain⟨xs,hq,hx⟩:=hg;obtain⟨its,rv,p,hz⟩:=I.tuple hq;obtain⟨f0,f1,f2,f3,f4,f5⟩:=hf it (by simp);have hl:=rv.length;exact wpAny_pyNext_tuple_end (I.ok.hd hc) st (show s.heap.IsTuple a its.toArray from p) (by simp;lia) λh' eb=>⟨rfl,I.turned (t':=s.toks) (λb o hb e=>eb b o hb e) f0 f1 f3 f4 f5⟩
 self:=λ_ _ _ _ _ st h=>wpAny_pyIter_tupleiter st h
theorem zm {P:XF}(it:WT)(lo:Int)(n:Nat):Cq P w K tg (QD lo n) [it] it (λi h=>IsRangeIter h it (lo+(i:Nat)*1) ((n:Int)-(i:Nat)) 1) where
 mem:=by simp
 obj:=λi h st b hb=>by
  have e:b=it:=by simpa using hb
  subst e;exact⟨_,st,λv z=>by
   have z':Data.fields _=Data.cell v:=z;cases z'⟩
 keep:=λi h h' st k=>k it (by simp) _ st
 item:=by
  intro X hP hw hK hc i pins s σ H E I hf st hg;subst hP hw hK;obtain⟨f0,f1,f2,f3,f4,f5⟩:=hf it (by simp);have W:=Walks.range (prog:=X.prog) (w:=X.w) (I.ok.hd hc) it lo 1 n;refine W.item i s _ _ hg st λv h' tk hv aU kk=>?_;obtain⟨t,rfl⟩:=hv;have I1:aN X pins σ H {s with heap:=h',toks:=tk}:=I.turned (λb o hb e=>kk b o (by simpa using hb) e) f0 f1 f3 f4 f5;refine⟨_,rfl,DZ (s:={s with heap:=h',toks:=tk}) (n:="range_iterator") aU rfl rfl (by decide) ⟨.int (lo+i),H,I1,⟨t,?_⟩,⟨rfl,rfl⟩,aU,λb hb=>(hf b hb).1⟩⟩;rw[Int.mul_one]
 done:=by
  intro X hP hw hK hc i pins s σ H E I hf st hg;subst hP hw hK;obtain⟨f0,f1,f2,f3,f4,f5⟩:=hf it (by simp);exact wpAny_pyNext_range_end (I.ok.hd hc) st (by have:n<=i:=hg;lia) λh' eb=>⟨rfl,I.turned (t':=s.toks) (λb o hb e=>eb b o hb e) f0 f1 f3 f4 f5⟩
 self:=λ_ _ _ _ _ st h=>wpAny_pyIter_rangeiter st h
end L2
variable {wi:L2.TI}
namespace L2
def NC (K:Wv)(tl:TE):TI:=λσ H R=>tl σ H λx H1=>∃a,x=.ref a/\(∃xs,f7 K H1 a xs)/\R (QC K a) H1
def Rj (K:Wv)(tl:TE):TI:=λσ H R=>tl σ H λx H1=>∃a,x=.ref a/\(∃xs,gK K H1 a xs)/\R (Ri K a) H1
theorem Hi {l:Yv}{tl:TE}(hl:PE X l tl):PI X tg l (NC X.K tl):=by
 intro pins s σ H R I h;refine eE (hl pins s σ H _ I h) λv s1 ⟨x,H1,I1,r1,q1⟩=>?_;obtain⟨a,e,⟨xs,hq⟩,q⟩:=q1;subst e;cases r1;obtain⟨its,rv,p,hz⟩:=I1.list hq;refine abL p.isList ?_;refine⟨s1.heap.objs.size,[s1.heap.objs.size],_,_,H1,rfl,I1.kept (t':=s1.toks) λb o e=>Ws _ e,Cr a _,⟨_,WJ _ rfl,rfl,rfl⟩,λb hb=>?_,q⟩;have e:b=s1.heap.objs.size:=by simpa using hb
 subst e;exact I1.fpOk (WI _) (I1.hok.fresh (WI _))
theorem Lc {l:Yv}{tl:TE}(hl:PE X l tl):PI X tg l (Rj X.K tl):=by
 intro pins s σ H R I h;refine eE (hl pins s σ H _ I h) λv s1 ⟨x,H1,I1,r1,q1⟩=>?_;obtain⟨a,e,⟨xs,hq⟩,q⟩:=q1;subst e;cases r1;obtain⟨its,rv,p,hz⟩:=I1.tuple hq;refine abn (show s1.heap.IsTuple a its.toArray from p) ?_;refine⟨s1.heap.objs.size,[s1.heap.objs.size],_,_,H1,rfl,I1.kept (t':=s1.toks) λb o e=>Ws _ e,zk a _,⟨_,WJ _ rfl,rfl,rfl⟩,λb hb=>?_,q⟩;have e:b=s1.heap.objs.size:=by simpa using hb
 subst e;exact I1.fpOk (WI _) (I1.hok.fresh (WI _))
theorem D0 {R:It->Hp->Prop}{lo hi:Int}{t u v:Tok}{tk:Nat}(I:aN X pins σ H s)(h1 : -(2 ^ 62)<=lo)(h2:lo<2 ^ 62)(h3 : -(2 ^ 62)<=hi)(h4:hi<2 ^ 62)(q:R (QD lo (hi-lo).toNat) H):WU (W7 X.prog X.w) X.A (pyIter (.ref s.heap.objs.size)) (TM X pins σ tg R) E {s with heap:=s.heap.push {cls:=.type "range",data:=.fields #[.int lo t,.int hi u,.int 1 v]},toks:=tk}:=by
 refine wpAny_pyIter_range (IsRange.new ..) (small_one h1 h2 h3 h4) ?_;have I1:aN X pins σ H {s with heap:=s.heap.push {cls:=.type "range",data:=.fields #[.int lo t,.int hi u,.int 1 v]},toks:=tk}:=I.kept λb o e=>Ws _ e;refine⟨(s.heap.push {cls:=.type "range",data:=.fields #[.int lo t,.int hi u,.int 1 v]}).objs.size,[(s.heap.push {cls:=.type "range",data:=.fields #[.int lo t,.int hi u,.int 1 v]}).objs.size],_,_,H,rfl,
  I1.kept (t':=tk) λb o e=>Ws _ e,zm _ lo (hi-lo).toNat,?_,λb hb=>?_,q⟩
 ·have e1:lo+((0:Nat):Int)*1=lo:=by simp
  have e2:(((hi-lo).toNat:Nat):Int)-((0:Nat):Int)=Builtin.Range.rangeSize lo hi 1:=by rw[rangeSize_one];split<;>lia
  show IsRangeIter _ _ (lo+((0:Nat):Int)*1) ((((hi-lo).toNat:Nat):Int)-((0:Nat):Int)) 1;rw[e1,e2];exact WJ _ rfl
 ·have e:b=(s.heap.push {cls:=.type "range",data:=.fields #[.int lo t,.int hi u,.int 1 v]}).objs.size:=by simpa using hb
  subst e;exact I1.fpOk (WI _) (I1.hok.fresh (WI _))
def ND (ta:TA):TI:=λσ H R=>ta σ H λvs H1=>∃j:Int,vs=[.int j]/\ -(2 ^ 62)<=j/\j<2 ^ 62/\R (QD 0 j.toNat) H1
theorem Cs {a:Yv}{ta:TA}{p:Pos}(hg:Gl X "range")(hm:X.mg "range"=none)(ha:PA X [a] ta)(hs:WY [a] X.env=[(false,Z0 a X.env)]:=by rfl):PI X tg (.Call (.Name "range" p) [a] [] pos) (ND ta):=by
 intro pins s σ H R I h;refine Call_ (vM I hg hm boot_range (ZA (eE (ha pos pins s σ H _ I h) λus s1 ⟨vs,H1,I1,r1,q1⟩=>?_) hs rfl));obtain⟨j,e,q1,q2,q⟩:=q1;subst e;cases r1 with
 |cons r rr=>
  cases rr;obtain⟨t,rfl⟩:=r;exact call_range_1 (D0 I1 (by lia) (by lia) q1 q2 (by simpa using q))
def Rk (wi:TI)(g:TG)(tb:TS):TS:=λD σ H=>wi σ H λJ H1=>∃W:Nat->Nat->St->Hp->Prop,(∃m,W 0 m σ H1)/\∀i m σ H,W i m σ H->
 (J.stop i H/\D.nx σ H)\/(J.go i H/\∃N:St->Hp->Prop,(∀σ' H',N σ' H'->∃m',m'<m/\W (i+1) m' σ' H')/\∀x H',J.yld i H x H'->g x σ H' λσ2 H2=>tb {D with nx:=N,ct:=N,bk:=D.nx} σ2 H2)
noncomputable def qK (fp:List WT)(h:Y8):List (WT×Obj):=fp.filterMap λb=>(h.get? b).map λo=>(b,o)
theorem jO {o:Obj}(hb:b∈fp)(e:h.get? b=some o):(b,o)∈qK fp h:=abo.mpr ⟨b,hb,by rw[e];rfl⟩
theorem Ct {p:WT×Obj}(hp:p∈qK fp h):p.1∈fp/\h.get? p.1=some p.2:=by
 obtain⟨b,hb,e⟩:=abo.mp hp;cases q:h.get? b with
 |none=>rw[q] at e;cases e
 |some o=>
  rw[q] at e;have e':(b,o)=p:=W0 e;subst e';exact⟨hb,q⟩
theorem aN.pinned (I:aN X pins σ H s)(hf:∀b∈fp,p6 X pins H b)(ho:∀b∈fp,∃o,s.heap.get? b=some o/\∀v,o.data≠.cell v):aN X (pins++qK fp s.heap) σ H s:=
 I.pins_of λp hp=>(WW.mp hp).elim (λz=>I.pin p (WL _ z)) λz=>by
  obtain⟨hb,e⟩:=Ct z;obtain⟨f0,f1,f2,_⟩:=hf p.1 hb;obtain⟨o,e',d⟩:=ho p.1 hb;rw[e] at e';cases e';exact⟨e,f0,f1,f2,d⟩
theorem aN.unpinned {pl:List (WT×Obj)}(I:aN X (pins++pl) σ H s):aN X pins σ H s:=I.pins_of λp hp=>I.pin p (WL _ (W8 _ hp))
theorem Ld {g:TG}{tb:TS}(hp:abX (W7 X.prog X.w) X.A X.env X.xe)(hc:X.calm=true)(hi:PI X tg iter wi)(hg:PG X tg g)(hb:ud X body tb)(hs:∀x,X5 iter X.env x=pure x:=by intro _;rfl):PS X (.For tg iter body [] pos) (Rk wi g tb):=by
 intro pins s σ H D I h;refine wpAny_For (eE (hi pins s σ H _ I h) λv s1 h1=>eE h1 λQW s2 h2=>?_) hs;obtain⟨it,fp,tn,J,H2,e,I2,T,lG,f2,W,⟨m0,w0⟩,turn⟩:=h2;subst e;have MP:∀{H':Hp},(∀b∈fp,H' b=none)->∀b∈fp,p6 X pins H' b:=λhn b hb=>⟨hn b hb,(f2 b hb).2⟩;refine codeAny_forLoop_any (λn s'=>∃i σ' H',aN X pins σ' H' s'/\tn i s'.heap/\(∀b∈fp,H' b=none)/\W i n σ' H') ?_ m0 ⟨0,σ,H2,I2,lG,λb hb=>(f2 b hb).1,w0⟩;rintro n s3 ⟨i,σ3,H3,I3,G9,fr3,w3⟩;rcases turn i n σ3 H3 w3 with⟨stop,qn⟩|⟨go,N,hN,step⟩
 ·refine Zg hp (eE (T.done X rfl rfl rfl hc i pins s3 σ3 H3 X.xe I3 (MP fr3) G9 stop) λr s4 ⟨hr,I4⟩=>?_);subst hr;exact aa6 ⟨σ3,H3,I4,qn⟩
 ·refine Zg hp (eE (T.item X rfl rfl rfl hc i pins s3 σ3 H3 X.xe I3 (MP fr3) G9 go) λr s4 ⟨u,hr,h4⟩=>?_);subst hr;refine Zg hp (eE h4 λ_ s5 ⟨x,H5,I5,r5,y5,st5,fr5⟩=>?_);have SY:=I5.pinned (MP fr5) (T.obj _ _ st5);refine Zg hp (eE (hg _ s5 σ3 H5 x u _ SY r5 (step x H5 y5)) λ_ s6 ⟨σ6,H6,I6,q6⟩=>?_);refine Zg hp (eE (hb _ s6 σ6 H6 _ I6 q6) λf s7 q7=>?_);have again:∀{σ7:St} {H7:Hp},aN X (pins++qK fp s5.heap) σ7 H7 s7->N σ7 H7->∃m,m<n/\∃i σ' H',aN X pins σ' H' s7/\tn i s7.heap/\(∀b∈fp,H' b=none)/\W i m σ' H':=λ{σ7 H7} I7 n7=>by
   obtain⟨m',hm,w7⟩:=hN σ7 H7 n7;refine⟨m',hm,i+1,σ7,H7,I7.unpinned,T.keep _ _ _ st5 λb hb o e=>(I7.pin (b,o) (WL _ (WL _ (jO hb e)))).1,λb hb=>?_,w7⟩;obtain⟨o,e,d⟩:=T.obj _ _ st5 b hb;exact (I7.pin (b,o) (WL _ (WL _ (jO hb e)))).2.1
  cases f with
  |next=>obtain⟨σ7,H7,I7,n7⟩:=q7;exact again I7 n7
  |cont=>obtain⟨σ7,H7,I7,n7⟩:=q7;exact again I7 n7
  |brk=>obtain⟨σ7,H7,I7,q7⟩:=q7;exact⟨σ7,H7,I7.unpinned,q7⟩
  |ret v=>obtain⟨x7,σ7,H7,I7,r7,q7⟩:=q7;exact⟨x7,σ7,H7,I7.unpinned,r7,q7⟩
end L2
namespace L2
abbrev R2:=V->V->Hp->VK->Prop
def j3 (X:Cx)(f:WB->WB->Sem WB)(r:R2):Prop:=
 ∀(pins:List (WT×Obj)) (s:WN) (σ:St) (H:Hp) (x y:V) (v u:WB) (Q:VK),aN X pins σ H s->bu x v->bu y u->r x y H Q->
  WU (W7 X.prog X.w) X.A (f v u) (EP X pins σ Q) X.xe s
def eT (X:Cx)(f:WB)(r:List V->Hp->VK->Prop):Prop:=
 ∀(pins:List (WT×Obj)) (s:WN) (σ:St) (H:Hp) (xs:List V) (us:List WB) (Q:VK),aN X pins σ H s->a9 xs us->r xs H Q->
  WU (W7 X.prog X.w) X.A (call f us) (EP X pins σ Q) X.xe s
def Rl (X:Cx)(r:V->Hp->(Bool->Hp->Prop)->Prop):Prop:=
 ∀(pins:List (WT×Obj)) (s:WN) (σ:St) (H:Hp) (x:V) (v:WB) (Q:Bool->Hp->Prop),aN X pins σ H s->bu x v->r x H Q->
  WU (W7 X.prog X.w) X.A (truthy v) (TP X pins σ Q) X.xe s
def NF (r:R2)(ta tb:TE):TE:=λσ H Q=>ta σ H λx H1=>tb σ H1 λy H2=>r x y H2 Q
def rI (C:Int->Int->Prop)(g:Int->Int->V):R2:=λx y H Q=>∃i j,x=.int i/\y=.int j/\C i j/\Q (g i j) H
def zo (g:Int->Int->V):R2:=λx y H Q=>∃i j,x=.int i/\y=.int j/\Q (g i j) H
section
variable {a b:Yv}{ta tb tc:TE}
theorem Le (ha:PE X a ta)(hb:PE X b tb){R:V->V->Hp->Prop}(I:aN X pins σ H s)(h:ta σ H λx H1=>tb σ H1 λy H2=>R x y H2){f:WB->WB->Sem WB}(hf:∀v u s2 x y H2,aN X pins σ H2 s2->bu x v->bu y u->R x y H2->WU (W7 X.prog X.w) X.A (f v u) Q X.xe s2) :
  WU (W7 X.prog X.w) X.A (Z0 a X.env) (λv s₁=>WU (W7 X.prog X.w) X.A (Z0 b X.env) (λu s₂=>WU (W7 X.prog X.w) X.A (f v u) Q X.xe s₂) X.xe s₁) X.xe s:=by
 refine eE (ha pins s σ H _ I h) λv s1 ⟨x,H1,I1,r1,q1⟩=>?_;refine eE (hb pins s1 σ H1 _ I1 q1) λu s2 ⟨y,H2,I2,r2,q2⟩=>?_;exact hf v u s2 x y H2 I2 r1 r2 q2
theorem NG {op:Operator}{r:R2}(ho:j3 X (ZQ op) r)(ha:PE X a ta)(hb:PE X b tb):PE X (.BinOp a op b pos) (NF r ta tb):=by
 intro pins s σ H Q I h;exact wpAny_BinOp (Le ha hb I h λv u s2 x y H2 I2 rx ry q=>ho pins s2 σ H2 x y v u Q I2 rx ry q)
theorem QE {f:WB->WB->Sem WB}{C:Int->Int->Prop}{g:Int->Int->Int}
  (rule:∀(i j:Int) (t u:Tok) (s:WN) (Q:WB->WN->Prop) (E:WB->WN->Prop),C i j->Q (.int (g i j) s.toks) {s with toks:=s.toks+1}->WU (W7 X.prog X.w) X.A (f (.int i t) (.int j u)) Q E s) :
  j3 X f (rI C λi j=>.int (g i j)):=by
 intro pins s σ H x y v u Q I rx ry h;obtain⟨i,j,rfl,rfl,hc,q⟩:=h;obtain⟨t,rfl⟩:=rx;obtain⟨t',rfl⟩:=ry;exact rule i j t t' s _ _ hc ⟨.int (g i j),H,I.tok _,⟨_,rfl⟩,q⟩
theorem NH {f:WB->WB->Sem WB}{g:Int->Int->Int}
  (rule:∀(i j:Int) (t u:Tok) (s:WN) (Q:WB->WN->Prop) (E:WB->WN->Prop),Q (.int (g i j) s.toks) {s with toks:=s.toks+1}->WU (W7 X.prog X.w) X.A (f (.int i t) (.int j u)) Q E s) :
  j3 X f (zo λi j=>.int (g i j)):=by
 intro pins s σ H x y v u Q I rx ry h;obtain⟨i,j,rfl,rfl,q⟩:=h;obtain⟨t,rfl⟩:=rx;obtain⟨t',rfl⟩:=ry;exact rule i j t t' s _ _ ⟨.int (g i j),H,I.tok _,⟨_,rfl⟩,q⟩
theorem Hj {f:WB->WB->Sem WB}{g:Int->Int->Bool}
  (rule:∀(i j:Int) (t u:Tok) (s:WN) (Q:WB->WN->Prop) (E:WB->WN->Prop),Q (.bool (g i j)) s->WU (W7 X.prog X.w) X.A (f (.int i t) (.int j u)) Q E s) :
  j3 X f (zo λi j=>.bl (g i j)):=by
 intro pins s σ H x y v u Q I rx ry h;obtain⟨i,j,rfl,rfl,q⟩:=h;obtain⟨t,rfl⟩:=rx;obtain⟨t',rfl⟩:=ry;exact rule i j t t' s _ _ ⟨.bl (g i j),H,I,rfl,q⟩
def NI (i j:Int):Prop:=0<=j/\j<=1000000/\i.natAbs<2 ^ 64
def Hk (i j:Int):Prop:=(-(2 ^ 64)<i/\i<2 ^ 64)\/(-(2 ^ 64)<j/\j<2 ^ 64)
theorem Hk.ok {i j:Int}(h:Hk i j):IntMulOk i j:=by
 rcases h with⟨h1,h2⟩|⟨h1,h2⟩
 ·exact .of_left (intBits_le_64 h1 h2)
 ·exact .of_right (intBits_le_64 h1 h2)
theorem Lf:j3 X (ZQ .Add) (zo λi j=>.int (i+j)):=NH λ_ _ _ _ _ _ _ q=>add_int q
theorem qL:j3 X (ZQ .Sub) (zo λi j=>.int (i-j)):=NH λ_ _ _ _ _ _ _ q=>sub_int q
theorem dv:j3 X (ZQ .Mult) (rI Hk λi j=>.int (i*j)):=QE λ_ _ _ _ _ _ _ hc q=>mul_int q hc.ok
theorem kn:j3 X (ZQ .Mod) (rI (λ_ j=>0<j) λi j=>.int (i % j)):=QE λi j _ _ _ _ _ hc q=>by
 have h1:(0:Int)<j:=hc;exact mod_int' (by lia) (by rw[Int.fmod_eq_emod_of_nonneg i (by lia)];exact q)
theorem D1:j3 X (ZQ .Pow) (rI NI λi j=>.int (i ^ j.toNat)):=QE λ_ _ _ _ _ _ _ hc q=>pow_int_small hc.1 hc.2.1 hc.2.2 q
end
section
variable {a b:Yv}{ta tb tc:TE}
theorem D2 {Q:VK}{k k':Bool}(I:aN X pins σ H s)(q:Q (.bl k) H)(e:k=k'):EP X pins σ Q (.bool k') s:=by
 subst e;exact⟨.bl k,H,I,rfl,q⟩
theorem D3:j3 X (Yf .Lt) (zo λi j=>.bl (decide (i<j))):=Hj λ_ _ _ _ _ _ _ q=>lt_int q
theorem xu:j3 X (Yf .LtE) (zo λi j=>.bl (decide (i<=j))):=Hj λ_ _ _ _ _ _ _ q=>le_int q
theorem D4:j3 X (Yf .Gt) (zo λi j=>.bl (decide (j<i))):=Hj λ_ _ _ _ _ _ _ q=>gt_int q
theorem NJ:j3 X (Yf .GtE) (zo λi j=>.bl (decide (j<=i))):=Hj λ_ _ _ _ _ _ _ q=>ge_int q
theorem D5:j3 X (Yf .Is) (λx y H Q=>y=.non/\Q (.bl (decide (x=.non))) H):=by
 intro pins s σ H x y v u Q I rx ry h;obtain⟨rfl,q⟩:=h;cases ry;refine is_none_gen (D2 I q ?_);cases x<;>first
  | (cases rx;rfl)
  | (obtain⟨t,rfl⟩:=rx;rfl)
theorem vN:j3 X (Yf .IsNot) (λx y H Q=>y=.non/\Q (.bl (!decide (x=.non))) H):=by
 intro pins s σ H x y v u Q I rx ry h;obtain⟨rfl,q⟩:=h;cases ry;refine isnot_none_gen (D2 I q ?_);cases x<;>first
  | (cases rx;rfl)
  | (obtain⟨t,rfl⟩:=rx;rfl)
theorem j3.or {f:WB->WB->Sem WB}{r r':R2}(h:j3 X f r)(h':j3 X f r'):j3 X f (λx y H Q=>r x y H Q\/r' x y H Q):=by
 intro pins s σ H x y v u Q I rx ry q;rcases q with q|q
 ·exact h pins s σ H x y v u Q I rx ry q
 ·exact h' pins s σ H x y v u Q I rx ry q
theorem aV (b:Yv)(h:op≠.In:=by decide)(h2:op≠.NotIn:=by decide):ZO op b=false:=by
 have e1:(op==CmpOp.In)=false:=by cases op<;>first|rfl|exact absurd rfl h
 have e2:(op==CmpOp.NotIn)=false:=by cases op<;>first|rfl|exact absurd rfl h2
 cases b<;>simp[ZO,e1,e2]
theorem Hl {r:R2}(ho:j3 X (Yf op) r)(ha:PE X a ta)(hb:PE X b tb)(hm:ZO op b=false):PE X (.Compare a [op] [b] pos) (NF r ta tb):=by
 intro pins s σ H Q I h;exact wpAny_Compare1 (Le ha hb I h λv u s2 x y H2 I2 rx ry q=>ho pins s2 σ H2 x y v u Q I2 rx ry q) hm
def Jg (t:TE):TT:=λσ H Q=>t σ H λx H'=>∃k,x=.bl k/\Q k H'
theorem Hm {r:R2}(ho:j3 X (Yf op) r)(ha:PE X a ta)(hb:PE X b tb)(hm:ZO op b=false):PT X (.Compare a [op] [b] pos) (Jg (NF r ta tb)):=by
 intro pins s σ H Q I h;refine wpAny_isTrue_Compare1 (eE (ha pins s σ H _ I h) λv s1 ⟨x,H1,I1,r1,q1⟩=>eE (hb pins s1 σ H1 _ I1 q1) λu s2 ⟨y,H2,I2,r2,q2⟩=>
  eE (ho pins s2 σ H2 x y v u _ I2 r1 r2 q2) λc s3 ⟨z,H3,I3,r3,k,e,q3⟩=>?_) hm
 subst e;cases r3;exact YO ⟨H3,I3,q3⟩
def D6 (r r':R2)(ta tb tc:TE):TE:=λσ H Q=>ta σ H λx H1=>tb σ H1 λy H2=>r x y H2 λz H3=>∃k,z=.bl k/\
 (if k=true then tc σ H3 λw' H4=>r' y w' H4 Q else Q (.bl false) H3)
theorem D7 {MQ:CmpOp}{r r':R2}(ho:j3 X (Yf op) r)(GK:j3 X (Yf MQ) r')(ha:PE X a ta)(hb:PE X b tb)(hc:PE X c tc)(hm:lastMarks [op,MQ] [b,c]=false:=by with_unfolding_all rfl):PT X (.Compare a [op,MQ] [b,c] pos) (Jg (D6 r r' ta tb tc)):=by
 intro pins s σ H Q I h;refine isTrue_chain (eE (ha pins s σ H _ I h) λv s1 ⟨x,H1,I1,r1,q1⟩=>test_link (eE (hb pins s1 σ H1 _ I1 q1) λu s2 ⟨y,H2,I2,r2,q2⟩=>
  eE (ho pins s2 σ H2 x y v u _ I2 r1 r2 q2) λd s3 ⟨z,H3,I3,r3,k,e,q3⟩=>?_)) hm
 subst e;cases r3;refine YO ?_;cases k with
 |false=>
  obtain⟨k',e',q'⟩:=q3;cases e';exact ite_ff ⟨H3,I3,q'⟩
 |true=>
  refine ite_tt (test_last (eE (hc pins s3 σ H3 _ I3 q3) λw' s4 ⟨z',H4,I4,r4,q4⟩=>eE (GK pins s4 σ H4 y z' u w' _ I4 r2 r4 q4) λd' s5 ⟨z2,H5,I5,r5,k2,e2,q5⟩=>?_));subst e2;cases r5;exact YO ⟨H5,I5,q5⟩
def Rm (K:Wv)(x:V)(H:Hp)(k:Bool):Prop:=
 match x with
 | .non=>k=false
 | .bl b=>k=b
 | .int i=>k=(i != 0)
 | .str y=>y.length<=WE/\k=((y.length:Int) != 0)
 | .byt y=>y.size<=WE/\k=((y.size:Int) != 0)
 | .ref p=>(∃xs,f7 K H p xs/\k = !xs.isEmpty)\/(∃xs,gK K H p xs/\k = !xs.isEmpty)\/∃cC,H p=some (.dK cC)/\k = !cC.isEmpty
 |_=>False
theorem zp {κ:Type}{cC:List (κ×V)}{vs:List (κ×WB)}(r:KV cC vs):(!vs.isEmpty) = !cC.isEmpty:=by
 cases r<;>rfl
theorem qM (r:a9 xs its):(!its.toArray.isEmpty) = !xs.isEmpty:=by
 cases r<;>simp
theorem n_:(WE:Nat)<2 ^ 63:=by rw[Yx];decide
theorem Rn:Rl X (λx H Q=>∃k,Rm X.K x H k/\Q k H):=by
 intro pins s σ H x v Q I rx h;obtain⟨k,e,q⟩:=h;have hl:=n_;have hs:WE=16777216:=Yx;cases x with
 |non=>
  cases rx;have e':k=false:=e;subst e';exact truthy_none ⟨H,I,q⟩
 |bl b=>
  cases rx;have e':k=b:=e;subst e';exact YO ⟨H,I,q⟩
 |int i=>
  obtain⟨t,rfl⟩:=rx;have e':k=(i != 0):=e;subst e';exact PySem.P.truthy_int ⟨H,I,q⟩
 |str y=>
  obtain⟨t,rfl⟩:=rx;obtain⟨hy,e'⟩:y.length<=WE/\k=((y.length:Int) != 0):=e;subst e';exact PySem.P.truthy_str (by lia) ⟨H,I.tok _,q⟩
 |byt y=>
  obtain⟨t,rfl⟩:=rx;obtain⟨hy,e'⟩:y.size<=WE/\k=((y.size:Int) != 0):=e;subst e';exact PySem.W.truthy_bytes (by lia) ⟨H,I.tok _,q⟩
 |ref p=>
  cases rx;have e':(∃xs,f7 X.K H p xs/\k = !xs.isEmpty)\/(∃xs,gK X.K H p xs/\k = !xs.isEmpty)\/∃cC,H p=some (.dK cC)/\k = !cC.isEmpty:=e;rcases e' with⟨xs,hx,e'⟩|⟨xs,hx,e'⟩|⟨cC,hx,e'⟩
  ·subst e';obtain⟨its,r,pl,hz⟩:=I.list hx;have df:=r.length;exact wpAny_truthy_list pl.isList (by simp only[Wy];lia) ⟨H,I.tok _,by rw[qM r];exact q⟩
  ·subst e';obtain⟨its,r,pl,hz⟩:=I.tuple hx;have df:=r.length;exact truthy_tuple pl (by simp only[Wy];lia) ⟨H,I.tok _,by rw[qM r];exact q⟩
  ·subst e';obtain⟨hz,hS,vs,r,m⟩:cC.length<=WE/\(p==YN)=false/\∃vs,KV cC vs/\s.heap.DictOf (fA X.prog X.w) p vs:=I.hok p _ hx;have df:cC.length=vs.length:=Paired.length r;exact wpAny_truthy_dict hS m (by lia) ⟨H,I.tok _,by rw[zp r];exact q⟩
 |_=>exact (show False from e).elim
theorem ja {x:V}{us:List WB}(r:a9 [x] us):∃u,us=[u]/\bu x u:=by
 cases r with
 |cons r1 r2=>cases r2;exact⟨_,rfl,r1⟩
theorem Jh {x:V}{us:List WB}(r:a9 [x,y] us):∃u w',us=[u,w']/\bu x u/\bu y w':=by
 cases r with
 |cons r1 r2=>
  cases r2 with
  |cons r3 r4=>cases r4;exact⟨_,_,rfl,r1,r3⟩
theorem xv:eT X (.builtin "abs") (λxs H Q=>∃i,xs=[.int i]/\Q (.int (if i<0 then -i else i)) H):=by
 intro pins s σ H xs us Q I r h;obtain⟨i,rfl,q⟩:=h;obtain⟨u,rfl,t,rfl⟩:=ja r;exact call_abs_int λu tk=>⟨.int (if i<0 then -i else i),H,I.tok _,⟨_,rfl⟩,q⟩
theorem Cu (hc:X.calm=true):eT X (.builtin "max") (λxs H Q=>∃i j,xs=[.int i,.int j]/\Q (.int (if j>i then j else i)) H):=by
 intro pins s σ H xs us Q I r h;obtain⟨i,j,rfl,q⟩:=h;obtain⟨u,w',rfl,⟨t,rfl⟩,⟨t',rfl⟩⟩:=Jh r;refine max_two_ints (I.ok.hd hc) λh' tk k=>⟨_,H,I.kept k,?_,q⟩;by_cases hj:j>i
 ·rw[hV hj,hV hj];exact⟨_,rfl⟩
 ·rw[hU hj,hU hj];exact⟨_,rfl⟩
theorem Cv (hc:X.calm=true):eT X (.builtin "min") (λxs H Q=>∃i j,xs=[.int i,.int j]/\Q (.int (if j<i then j else i)) H):=by
 intro pins s σ H xs us Q I r h;obtain⟨i,j,rfl,q⟩:=h;obtain⟨u,w',rfl,⟨t,rfl⟩,⟨t',rfl⟩⟩:=Jh r;refine min_two_ints (I.ok.hd hc) λh' tk k=>⟨_,H,I.kept k,?_,q⟩;by_cases hj:j<i
 ·rw[hV hj,hV hj];exact⟨_,rfl⟩
 ·rw[hU hj,hU hj];exact⟨_,rfl⟩
def NK (K:Wv)(x:V)(H:Hp)(n:Nat):Prop:=
 match x with
 | .str y=>y.length<=WE/\n=y.length
 | .byt y=>y.size<=WE/\n=y.size
 | .ref p=>(∃xs,f7 K H p xs/\n=xs.length)\/∃xs,gK K H p xs/\n=xs.length
 |_=>False
theorem bI:eT X (.builtin "len") (λxs H Q=>∃x n,xs=[x]/\NK X.K x H n/\Q (.int n) H):=by
 intro pins s σ H xs us Q I r h;obtain⟨x,n,rfl,e,q⟩:=h;obtain⟨u,rfl,rx⟩:=ja r;have hl:=n_;have hs:WE=16777216:=Yx;cases x with
 |str y=>
  obtain⟨t,rfl⟩:=rx;obtain⟨hy,e'⟩:y.length<=WE/\n=y.length:=e;subst e';exact len_str (by lia) ⟨.int _,H,I.tok _,⟨_,rfl⟩,q⟩
 |byt y=>
  obtain⟨t,rfl⟩:=rx;obtain⟨hy,e'⟩:y.size<=WE/\n=y.size:=e;subst e';exact PySem.W.len_bytes (by lia) ⟨.int _,H,I.tok _,⟨_,rfl⟩,q⟩
 |ref p=>
  cases rx;have e':(∃xs,f7 X.K H p xs/\n=xs.length)\/∃xs,gK X.K H p xs/\n=xs.length:=e;rcases e' with⟨xs,hx,e'⟩|⟨xs,hx,e'⟩
  ·subst e';obtain⟨its,r',pl,hz⟩:=I.list hx;have df:=r'.length;exact Calls.call_len_list pl.isList (by simp only[Wy];lia) ⟨.int xs.length,H,I.tok _,⟨_,by simp only[Wy];rw[df]⟩,q⟩
  ·subst e';obtain⟨its,r',pl,hz⟩:=I.tuple hx;have df:=r'.length;exact len_tuple pl (by simp only[Wy];lia) ⟨.int xs.length,H,I.tok _,⟨_,by simp only[Wy];rw[df]⟩,q⟩
 |_=>exact (show False from e).elim
end
end L2
variable {r r':L2.R2}
namespace L2
structure UK (h:Y8)(x dx C:WT)(mA:Str->Option WB):Prop where
 obj:h.get? x=some (PySem.W.instObj C dx)
 ns:h.Ns1 dx mA
 ne:dx≠x
theorem p0.some_of {o:Option WB}(r:p0 (some v) o):∃u,o=some u/\bu v u:=by
 cases o with
 |none=>exact (show False from r).elim
 |some u=>exact⟨u,rfl,r⟩
structure UL (K:Wv)(C:WT):Prop where
 pg:PySem.W.plainGet K C Str.empty=true
 hd:PySem.W.hasDictIn K C=true
 po:PySem.W.plainOver K C=true
 sa:aaL K (.ref C) "__setattr__"=some (some (.builtin "object.__setattr__"))
structure V_ (K:Wv)(C:WT)(f:Str)(v:V)(u:WB):Prop where
 at_:aaL K (.ref C) f=some (some u)
 rel:bu v u
 get:PySem.W.specialIn K u "__get__"=some none
 cp:PySem.W.copiedNames.contains f=false
structure UM (K:Wv)(C:WT)(m:Str)(f:WT):Prop where
 at_:aaL K (.ref C) m=some (some (.ref f))
 fn:PySem.W.isFn K (.ref f)=true
 kp:Zw K (.ref f)=true
section
variable {A:Xh}{c:WB}{b:Bool}
inductive qN (K:Wv)(H:Hp):V->WB->Prop where
 |non:qN K H .non (.type "NoneType")
 |bl (x:Bool):qN K H (.bl x) (.type "bool")
 |int (i:Int):qN K H (.int i) (.type "int")
 |str (x:Str):qN K H (.str x) (.type "str")
 |flt (x:UInt64):qN K H (.flt x) (.type "float")
 |lst {a:WT} {xs:List V} (e:H a=some (.lst xs)):qN K H (.ref a) (.type "list")
 |frz {a:WT} {o:Obj} {xs:List V} (e:H a=some (.frz o (.lst xs))):qN K H (.ref a) (.type "list")
 |tup {a:WT} {xs:List V} (e:H a=some (.tup xs)):qN K H (.ref a) (.type "tuple")
 |dK {a:WT} {cC:List (j2×V)} (e:H a=some (.dK cC)):qN K H (.ref a) (.type "dict")
 |dT {a:WT} {cC:List (List j2×V)} (e:H a=some (.dT cC)):qN K H (.ref a) (.type "dict")
 |ins {a C dx:WT} {fs:List (Str×V)} (e:H a=some (.ins C dx fs)) (cl:UL K C) (ha:aaL K (.ref C) "__class__"=some (some (.builtin "object.__class__")))
   (hn:PySem.W.specialIn K (.builtin "object.__class__") "__get__"=some (some (.builtin "getset_descriptor.__get__"))) (htk:PySem.W.takesIn K (.builtin "object.__class__")=some true)
   (hm:PySem.W.mroIn K C (.type "object")=some true):qN K H (.ref a) (.ref C)
end
end L2
namespace L2
structure fB (k:Nat)(A:Xh):Prop where
 hd:A.handled=none
 dp:A.depth+3*k+5<recursionLimit
 un:A.units+16*k+200<Yy
theorem fB.mono {A:Xh}(r:fB k A)(h:j<=k):fB j A:=⟨r.hd,by have:=r.dp;lia,by have:=r.un;lia⟩
theorem fB.deeper {A:Xh}(r:fB (k+1) A)(env:Env):fB k (A.deeper env):=
 ⟨r.hd,by have:=r.dp;show A.depth+1+3*k+5<_;lia,by have:=r.un;show A.units+3+16*k+200<_;lia⟩
theorem fB.depth {A:Xh}(r:fB k A):A.depth<recursionLimit:=by have:=r.dp;lia
theorem fB.units {A:Xh}(r:fB k A):A.units+64<Yy:=by have:=r.un;lia
def Ro:TA:=λ_ H Q=>Q [] H
def NM (ta:TE)(tr:TA):TA:=λσ H Q=>ta σ H λx H1=>tr σ H1 λxs H2=>Q (x::xs) H2
section
variable {e:Yv}{es:List Yv}{t:TA}
theorem qO:PA X [] Ro:=λ_ _ _ _ H Q I h=>Calls.spliced_nil ⟨[],H,I,.nil,h⟩
theorem mL (ha:PE X e te)(hr:PA X es t)(hs:WY (e::es) X.env=(false,Z0 e X.env)::WY es X.env:=by rfl):PA X (e::es) (NM te t):=by
 intro pos pins s σ H Q I h;rw[hs];show WU _ _ (spliced ((false,Z0 e X.env)::Zc pos (WY es X.env))) _ _ s;refine abp (eE (ha pins s σ H _ I h) λu s1 ⟨x,H1,I1,r1,q1⟩=>?_);exact eE (hr pos pins s1 σ H1 _ I1 q1) λus s2 ⟨xs,H2,I2,r2,q2⟩=>⟨x::xs,H2,I2,.cons r1 r2,q2⟩
def Rq (t:TA):TE:=λσ H Q=>t σ H λxs H1=>xs.length<=WE/\∀p,H1 p=none->Q (.ref p) (cY H1 p (.tup xs))
def Rr (t:TA):TE:=λσ H Q=>t σ H λxs H1=>xs.length<=WE/\∀p,H1 p=none->Q (.ref p) (cY H1 p (.lst xs))
theorem Lg {x1}(h:PA X es t):PE X (.Tuple es x1 pos) (Rq t):=by
 intro pins s σ H Q I hq;refine wpAny_Tuple_spliced (eE (h pos pins s σ H _ I hq) λus s1 ⟨xs,H1,I1,r,z,q⟩=>⟨by rw[←r.length];exact z,?_⟩);have hf:H1 s1.heap.objs.size=none:=I1.hok.fresh (WI _);refine⟨.ref s1.heap.objs.size,cY H1 s1.heap.objs.size (.tup xs),I1.laid (t':=s1.toks) (λb u e=>Ws _ e) (WI _) ?_,rfl,q _ hf⟩;exact⟨z,us,r,⟨_,WJ _ rfl,rfl,_,rfl⟩,_,WJ _ rfl⟩
theorem D8 (h:PA X es t):PE X (.List es pos) (Rr t):=by
 intro pins s σ H Q I hq;refine wpAny_List_spliced (eE (h pos pins s σ H _ I hq) λus s1 ⟨xs,H1,I1,r,z,q⟩=>⟨by rw[←r.length];exact z,?_⟩);have hf:H1 s1.heap.objs.size=none:=I1.hok.fresh (WI _);refine⟨.ref s1.heap.objs.size,cY H1 s1.heap.objs.size (.lst xs),I1.laid (t':=s1.toks) (λb u e=>Ws _ e) (WI _) ?_,rfl,q _ hf⟩;exact⟨z,us,0,r,WJ _ rfl⟩
end
abbrev Sp:=List V->Hp->VK->XK->Prop
abbrev CXT:=List Env->Hp->WN->XK->WB->WN->Prop
structure Hn (P:XF)(w:Zu)(K:Wv)(mg:Str->Option WB)(base:Y8)(A:Xh)(outer:List Env)(s:WN)(H:Hp):Prop where
 frames:A.frames=some outer
 mod:Mod K mg base
 bs:∀b o,base.get? b=some o->s.heap.get? b=some o/\H b=none
 bsz:base.objs.size<=s.heap.objs.size
 funs:s.heap.FunFrames base outer
 frf:∀b∈AU outer,H b=none
 hok:lH P w H s.heap
 bare:AllBare s.gens
def CE (outer:List Env)(P:XF)(w:Zu)(H:Hp)(s:WN)(Q:VK)(u:WB)(s':WN):Prop:=
 ∃v H',s'.os=s.os/\AllBare s'.gens/\Un (AU outer) [] H H' s.heap s'.heap/\lH P w H' s'.heap/\bu v u/\Q v H'
def CR (CX:CXT)(outer:List Env)(P:XF)(w:Zu)(H:Hp)(s:WN)(Q:VK)(E:XK)(r:Result)(s':WN):Prop:=
 match r with
 | .ok (.ret u)=>CE outer P w H s Q u s'
 | .ok _=>False
 | .error e=>CX outer H s E e s'
structure lJ (P:XF)(w:Zu)(K:Wv)(mg:Str->Option WB)(base:Y8)(CX:CXT)(k:Nat)(f:WT)(fd:aaX)(ps:List Str)(sp:Sp):Prop where
 len:∀vs H Q E,sp vs H Q E->vs.length=ps.length
 run:∀(A:Xh) (outer:List Env) (s:WN) (H:Hp) (args:Args) (us:List WB) (vs:List V) (Q:VK) (E:XK),fB k A->Hn P w K mg base A outer s H->BindsTo s fd args (ps.zip us)->a9 vs us->sp vs H Q E->
  codeAny (W7 P w) A (.call (.ref f) args) (CR CX outer P w H s Q E) s
theorem lJ.imp {P:XF}{base:Y8}{CX:CXT}{sp Uj:Sp}(F:lJ P w K mg base CX k f fd ps sp)(h:∀vs H Q E,Uj vs H Q E->sp vs H Q E):lJ P w K mg base CX k f fd ps Uj:=
 ⟨λvs H Q E q=>F.len vs H Q E (h _ _ _ _ q),λA outer s H args us vs Q E hr he hb hv hs=>F.run A outer s H args us vs Q E hr he hb hv (h _ _ _ _ hs)⟩
section
variable {s':WN}
theorem aN.env0 (I:aN X pins σ H s):Hn X.prog X.w X.K X.mg X.base X.A X.stack s H:=
 ⟨I.ok.frames,I.ok.mod,I.bs,Xz I.ok.bsz I.sz,I.stack,I.stkFree,I.hok,I.bare⟩
theorem aN.after {Q:VK}{u:WB}(I:aN X pins σ H s)(h:CE X.stack X.prog X.w H s Q u s'):EP X pins σ Q u s':=by
 obtain⟨v,H',os,bare,un,hok,r,q⟩:=h;obtain⟨hh,g,d,t,os'⟩:=s';obtain rfl:os'=s.os:=os;exact⟨v,H',I.call (h':=hh) (g':=g) (d':=d) (t':=t) (ch:=[]) un hok bare (λb z=>absurd z (by simp)),r,q⟩
end
def Ji (sp:Sp)(Kv:List V)(E:XK)(t:TA):TE:=λσ H Q=>t σ H λvs H1=>sp (vs++Kv) H1 Q E
def uI (K:Wv)(fd:aaX)(ps:List Str)(ds:List WB):Prop:=
 ∀(s:WN) (us:List WB),K.In s.heap->(us++ds).length=ps.length->BindsTo s fd ⟨us,[]⟩ (ps.zip (us++ds))
theorem uI.all (h:∀us:List WB,us.length=ps.length->bindArgs fd ⟨us,[]⟩=pure (ps.zip us)):uI K fd ps []:=λs us _ hl=>by
 rw[Xj] at hl ⊢;exact .of_eq (h us hl)
def zq (CX:CXT)(X:Cx)(E:XK):Prop:=∀(pins:List (WT×Obj)) (σ:St) (H:Hp) (s:WN) (e:WB) (s':WN),aN X pins σ H s->CX X.stack H s E e s'->X.xe e s'
section
variable {CX:CXT}{C:WT}{sp:Sp}{Kv:List V}{ds:List WB}{E:XK}{m:Str}{p gR:Pos}{e o:Yv}{es:List Yv}{ta:TE}{t:TA}
theorem Lh {Q:VK}{us:List WB}(F:lJ X.prog X.w X.K X.mg X.base CX k f fd ps sp)(hr:fB k X.A)(hb:uI X.K fd ps ds)(hd:a9 Kv ds)(hx:zq CX X E)(I:aN X pins σ H s)(r:a9 vs us)(h:sp (vs++Kv) H Q E):WU (W7 X.prog X.w) X.A (call (.ref f) us) (EP X pins σ Q) X.xe s:=by
 have r2:a9 (vs++Kv) (us++ds):=r.append hd;have hl:(us++ds).length=ps.length:=by rw[←r2.length];exact F.len _ _ _ _ h
 refine wpAny_call (abq (F.run X.A X.stack s H ⟨us,[]⟩ (us++ds) (vs++Kv) Q E hr I.env0 (hb s us I.kIn hl) r2 h) λr s' hq=>?_);cases r with
 |error e=>exact hx pins σ H s e s' I hq
 |ok fl=>
  cases fl with
  |ret u=>exact I.after hq
  |next=>exact ZP hq
  |brk=>exact ZP hq
  |cont=>exact ZP hq
theorem Ho (F:lJ X.prog X.w X.K X.mg X.base CX k f fd ps sp)(hr:fB k X.A)(hg:Gl X x)(hm:X.mg x=some (.ref f))(hk:Zw X.K (.ref f)=true)(hb:uI X.K fd ps ds)(hd:a9 Kv ds)(hx:zq CX X E)
  (ha:PA X (e::es) t) (AM:(x==("__debug__":Str))=false:=by decide) (he:WY (e::es) X.env=(false,Z0 e X.env)::WY es X.env:=by rfl) (t9:(Zc pos (WY es X.env)).any (·.1)=false:=by rfl) :
  PE X (.Call (.Name x p) (e::es) [] pos) (Ji sp Kv E t):=by
 intro pins s σ H Q I h;refine abr (AV I hg hm ?_ AM);refine PySem.W.callWith_K (h₀:=X.base) I.ok.mod.kin hk (eE (ha pos pins s σ H _ I h) λus s1 ⟨vs,H1,I1,r,q⟩=>⟨I1.kIn,?_⟩) he t9;exact Lh F hr hb hd hx I1 r q
structure Mk (K:Wv)(C f:WT):Prop where
 makes:PySem.W.makesIn K C=true
 init:aaL K (.ref C) "__init__"=some (some (.ref f))
 fn:PySem.W.isFn K (.ref f)=true
 kp:Zw K (.ref C)=true
end
section
variable {CX:CXT}{C:WT}{ks:List Str}{sp:Sp}{E:XK}{m:Str}{p gR kpos:Pos}{e o:Yv}{es:List Yv}{kws:List aaR}{ta:TE}{t tk:TA}{nm:Option Str}
structure Rt (K:Wv)(fd:aaX)(ps ks:List Str)(g:List WB->List WB->List WB)(gV:List V->List V->List V):Prop where
 to:∀(s:WN) (us ws:List WB),K.In s.heap->(g us ws).length=ps.length->BindsTo s fd ⟨us,ks.zip ws⟩ (ps.zip (g us ws))
 rel:∀{vs:List V} {us:List WB} {zs:List V} {ws:List WB},a9 vs us->a9 zs ws->a9 (gV vs zs) (g us ws)
variable {g:List WB->List WB->List WB}{gV:List V->List V->List V}
end
structure aR (N P:List Str)(sc:abC):Prop where
 kind:sc.kind=.function
 co:sc.isCoroutine=false
 gen:sc.isGenerator=false
 nd:N.Nodup
 pre:N.take P.length=P
 par:∀x∈P,sc.names.lookup x=some .local\/sc.names.lookup x=some .cell
 nofree:∀y∈sc.names,y.2≠.free
theorem uJ {XW:Str->Option abV}{x:Str}:∀{binds:List (Str×WB)} {m:Str->Option WB},(∀v,(x,v)∉binds)->bindL XW binds m x=m x
 | [],_,_=>rfl
 | (n,v)::r,m,h=>by
  unfold bindL;rw[uJ λw hw=>h w (WD _ hw)];split
  ·have:x≠n:=by rintro rfl;exact h v Wz
   simp[this]
  ·rfl
theorem uK {XW:Str->Option abV}{x:Str}:∀{binds:List (Str×WB)} {m:Str->Option WB},(∀v,(x,v)∉binds)->bindC XW binds m x=m x
 | [],_,_=>rfl
 | (n,v)::r,m,h=>by
  unfold bindC;rw[uK λw hw=>h w (WD _ hw)];split
  ·rfl
  ·have:x≠n:=by rintro rfl;exact h v Wz
   simp[this]
theorem uL {XW:Str->Option abV}{x:Str}{v:WB}:∀{P:List Str} {vs:List WB} {i:Nat} {m:Str->Option WB},P.Nodup->P[i]? = some x->vs[i]? = some v->XW x=some .local->
  bindL XW (P.zip vs) m x=some v
 | [],_,_,_,_,h,_,_=>by simp at h
 |_::_,[],_,_,_,_,h,_=>by simp at h
 |p::P,w::vs,0,m,nd,h1,h2,hk=>by
  simp at h1 h2;subst h1;subst h2;show bindL XW ((p,w)::P.zip vs) m p=_;unfold bindL;rw[uJ λv hv=>(XO.mp nd).1 (List.of_mem_zip hv).1,hV hk];simp
 |p::P,w::vs,i+1,m,nd,h1,h2,hk=>by
  show bindL XW ((p,w)::P.zip vs) m x=_;unfold bindL;exact uL (i:=i) (XO.mp nd).2 (by simpa using h1) (by simpa using h2) hk
theorem uM {XW:Str->Option abV}{x:Str}{v:WB}:∀{P:List Str} {vs:List WB} {i:Nat} {m:Str->Option WB},P.Nodup->P[i]? = some x->vs[i]? = some v->XW x≠some .local->
  bindC XW (P.zip vs) m x=some v
 | [],_,_,_,_,h,_,_=>by simp at h
 |_::_,[],_,_,_,_,h,_=>by simp at h
 |p::P,w::vs,0,m,nd,h1,h2,hk=>by
  simp at h1 h2;subst h1;subst h2;show bindC XW ((p,w)::P.zip vs) m p=_;unfold bindC;rw[uK λv hv=>(XO.mp nd).1 (List.of_mem_zip hv).1,hU hk];simp
 |p::P,w::vs,i+1,m,nd,h1,h2,hk=>by
  show bindC XW ((p,w)::P.zip vs) m x=_;unfold bindC;exact uM (i:=i) (XO.mp nd).2 (by simpa using h1) (by simpa using h2) hk
noncomputable def aaj (N:List Str)(vs:List V):St:=vs.map some++Xv (N.length-vs.length) none
noncomputable def p7 (CX:CXT)(P:XF)(w:Zu)(K:Wv)(mg:Str->Option WB)(base:Y8)(N:List Str)(qual:Str)(scope:abC)(f:WT)(cd:WB)(A:Xh)(outer:List Env)(s:WN)(H:Hp)(E:XK):Cx where
 prog:=P
 w:=w
 K:=K
 mg:=mg
 base:=base
 A:=A.deeper (abt qual scope s.heap.objs.size f cd)
 N:=N
 s₀:=s
 H₀:=H
 env:=abt qual scope s.heap.objs.size f cd
 outer:=outer
 stack:=abt qual scope s.heap.objs.size f cd::outer
 ex:=[]
 calm:=true
 fn:=λ_=>true
 pn:=[]
 xe:=λe s'=>WU (W7 P w) (A.deeper (abt qual scope s.heap.objs.size f cd)) (leaving (abt qual scope s.heap.objs.size f cd) e) (λ_ MR=>CX outer H s E e MR) (λe' MR=>CX outer H s E e' MR) s'
theorem xw {sc:abC}(h:sc.names.lookup x=some .cell):∃c,(cellsFrom n sc.names []).lookup x=some c:=by
 have q:=PySem.W.cellsFrom_some sc.names n [] (.inl h);exact Option.isSome_iff_exists.mp q
theorem Cw {CX:CXT}{P:XF}{base:Y8}{cd:WB}{A:Xh}{outer:List Env}{s1:WN}{E:XK}{us:List WB}(S:aR N ps scope)(hd:A.handled=none)(e0:Hn P w K mg base A outer s H)(hl:vs.length=ps.length)(r:a9 vs us)(x:InCallC s s.heap.objs.size (bindL (abt qual scope s.heap.objs.size f cd).kindOf (ps.zip us) λ_=>none) (cellsFrom (s.heap.objs.size+1) scope.names []) (bindC (abt qual scope s.heap.objs.size f cd).kindOf (ps.zip us) λ_=>none) s1) :
  aN (p7 CX P w K mg base N qual scope f cd A outer s H E) [] (aaj N vs) H s1:=by
 have t9:ps.length<=N.length:=by have:=congrArg List.length S.pre;rw[Xr] at this;lia
 obtain⟨h1,tk,rfl,hk⟩:=x.done;have Qb:∀b:WT,b∉(p7 CX P w K mg base N qual scope f cd A outer s H E).ex:=λb z=>absurd (show b∈([]:List WT) from z) (by simp);refine⟨⟨e0.mod,S.kind,rfl,rfl,WI _,λy z c h1 h2=>?_,λy hy=>?_,λy c _ h=>?_,λ_=>hd,Around.frames_deeper e0.frames,.inr ⟨rfl,rfl⟩,λb z=>absurd z (Qb b),e0.bs,e0.bsz,λb _ _=>Qb b,λb z=>absurd z (Qb b),e0.funs,e0.frf⟩,
  rfl,e0.bare,Un.kept hk,⟨_,x.toInCall.ns,λi y v h1 h2 h3=>?_⟩,λy c h=>⟨_,x.cell y c h⟩,e0.hok.fresh (WI _),λy c h=>?_,λp hp=>absurd (show p∈([]:List (WT×Obj)) from hp) (by simp),e0.hok.kept hk,?_⟩
 ·exact name_of_addr x.apart (XH h1) (XH h2)
 ·have hy:scope.names.lookup y=some .cell\/scope.names.lookup y=some .free:=hy;rcases hy with hy|hy
  ·exact xw hy
  ·exact absurd rfl (S.nofree _ (XH hy))
 ·exact Nat.le_of_lt (x.above y c (XH h))
 ·have hi:i<vs.length:=by
   unfold aaj at h2;by_cases hi:i<vs.length
   ·exact hi
   ·rw[Xx (by simpa using hi)] at h2;rw[List.getElem?_replicate] at h2;split at h2<;>cases h2
  have ha:vs[i]? = some v:=by
   unfold aaj at h2;rw[XR (by simpa using hi),Xc] at h2;cases e:vs[i]? with
   |none=>rw[e] at h2;cases h2
   |some a=>rw[e] at h2;cases h2;rfl
  obtain⟨u,hu,rv⟩:=r.get ha;have hp:ps[i]? = some y:=by
   rw[←S.pre,abM (by lia)];exact h1
  have Uk:ps.Nodup:=by rw[←S.pre];exact S.nd.sublist (List.take_sublist _ _)
  refine⟨u,rv,?_⟩;rcases S.par y (Xw hp) with k|k
  ·exact .inl ⟨k,uL Uk hp hu k⟩
  ·obtain⟨c,e⟩:=xw (n:=s.heap.objs.size+1) k;refine .inr ⟨.inl k,c,e,?_⟩;have q:=x.cell y c e;rw[uM Uk hp hu (by show scope.names.lookup y≠_;rw[k];decide)] at q;exact q
 ·exact e0.hok.fresh (Nat.le_of_lt (x.above y c (XH h)))
 ·unfold aaj;show _=N.length;rw[WG,WC,ZC];lia
theorem NN {CX:CXT}{P:XF}{base:Y8}{name:Str}{params:Arguments}{dV kV n9 pm cP ct oc:WB}{an od:Option WT}{Kw:Array (Option WB)}{sp:Sp}(lk:K.lookup f=some ⟨oc,od,.func (Yp name qual params body scope dV kV n9 pm an cP ct),Kw⟩)(tW:abE K cP qual=true)(S:aR N ps scope)(len:∀vs H Q E,sp vs H Q E->vs.length=ps.length)(i0:∀(A:Xh) (outer:List Env) (s:WN) (H:Hp) (vs:List V) (Q:VK) (E:XK),fB k (A.deeper (abt qual scope s.heap.objs.size f cP))->sp vs H Q E->
   ∃t,ud (p7 CX P w K mg base N qual scope f cP A outer s H E) body t/\t {nx:=λ_ H'=>Q .non H',rt:=Q} (aaj N vs) H) :
  lJ P w K mg base CX (k+1) f (Yp name qual params body scope dV kV n9 pm an cP ct) ps sp:=by
 refine⟨len,λA outer s H args us vs Q E hr e0 hb r Kx=>?_⟩;have hl:=len _ _ _ _ Kx;have KX:K.In s.heap:=e0.mod.kin.keeps λb o e=>(e0.bs b o e).1;have U8:s.heap.NoLimit:=e0.mod.nolimit.keeps λb o e=>(e0.bs b o e).1;have Qc:∀y∈ps.zip us,scope.names.lookup y.1=some .local\/(scope.names.lookup y.1=some .cell/\((cellsFrom (s.heap.objs.size+1) scope.names []).lookup y.1).isSome=true):=fun⟨n,v⟩ hy=>by
  rcases S.par n (List.of_mem_zip hy).1 with q|q
  ·exact .inl q
  ·exact .inr ⟨q,PySem.W.cellsFrom_some _ _ _ (.inl q)⟩
 refine codeAny_call_function hr.depth (KX _ _ lk) rfl S.co S.gen rfl (PySem.W.codeRec_of KX tW) (hb _ _ _ _ ?_);refine wpAny_newFunctionEnv_cells S.kind Qc λenv he s1 x=>?_;subst he;refine⟨U8.keeps x.toInCall.keep,codeAny_func ?_⟩;obtain⟨t,ht,hq⟩:=i0 A outer s H vs Q E (hr.deeper _) Kx;have I:aN (p7 CX P w K mg base N qual scope f cP A outer s H E) [] (aaj N vs) H s1:=Cw S hr.hd e0 hl r x;refine XQ (ht [] s1 (aaj N vs) H _ I hq) (λfl s' hs=>?_) λe s' hs=>hs;have fin:∀{σ':St} {H':Hp} {v:V} {u:WB},aN (p7 CX P w K mg base N qual scope f cP A outer s H E) [] σ' H' s'->bu v u->Q v H'->CE outer P w H s Q u s' :=
  λ{σ' H' v u} J rv q=>⟨v,H',J.os,J.bare,J.base,J.hok,rv,q⟩
 cases fl with
 |ret u=>
  obtain⟨v,σ',H',J,rv,q⟩:=hs;exact fin J rv q
 |next=>
  obtain⟨σ',H',J,q⟩:=hs;exact fin (v:=V.non) (u:=Value.none) J rfl q
 |brk=>
  obtain⟨_,_,_,q⟩:=hs;exact ZP q
 |cont=>
  obtain⟨_,_,_,q⟩:=hs;exact ZP q
end L2
variable {CX:L2.CXT}{sp:L2.Sp}
namespace L2
section
variable {p:Pos}{e:Yv}{es:List Yv}{t:TA}{id T:String}{r:List V->Hp->VK->Prop}
def Ru (r:List V->Hp->VK->Prop)(t:TA):TE:=λσ H Q=>t σ H λvs H1=>r vs H1 Q
theorem qP (hc:eT X (.builtin id) r)(hg:Gl X x)(hm:X.mg x=none)(hv:XG x=some (.builtin id))(ha:PA X (e::es) t)(hn:x≠"__name__":=by decide)(AM:(x==("__debug__":Str))=false:=by decide)
  (he:WY (e::es) X.env=(false,Z0 e X.env)::WY es X.env:=by rfl) (t9:(Zc pos (WY es X.env)).any (·.1)=false:=by rfl):PE X (.Call (.Name x p) (e::es) [] pos) (Ru r t):=by
 intro pins s σ H Q I h;refine abr (vM I hg hm hv ?_ hn AM);exact PyProof.Rows.callWith_builtin1 (eE (ha pos pins s σ H _ I h) λus s1 ⟨vs,H1,I1,r1,q1⟩=>hc pins s1 σ H1 vs us Q I1 r1 q1) he t9
theorem jz (hc:eT X (.type T) r)(hg:Gl X x)(hm:X.mg x=none)(hv:XG x=some (.type T))(ha:PA X (e::es) t)(hn:x≠"__name__":=by decide)(AM:(x==("__debug__":Str))=false:=by decide)
  (he:WY (e::es) X.env=(false,Z0 e X.env)::WY es X.env:=by rfl) (t9:(Zc pos (WY es X.env)).any (·.1)=false:=by rfl):PE X (.Call (.Name x p) (e::es) [] pos) (Ru r t):=by
 intro pins s σ H Q I h;refine abr (vM I hg hm hv ?_ hn AM);exact ZA (eE (ha pos pins s σ H _ I h) λus s1 ⟨vs,H1,I1,r1,q1⟩=>hc pins s1 σ H1 vs us Q I1 r1 q1) he t9
end
end L2
namespace HT
noncomputable def lexLt:List Int->List Int->Bool
 | [],[]=>false
 | [],_::_=>true
 |_::_,[]=>false
 |x::xs,y::ys=>if x=y then lexLt xs ys else decide (x<y)
theorem lexLt_cons (x y:Int)(xs ys:List Int):lexLt (x::xs) (y::ys)=if x=y then lexLt xs ys else decide (x<y):=rfl
theorem ue:lexLt [] []=false:=rfl
theorem qQ (y:Int)(ys:List Int):lexLt [] (y::ys)=true:=rfl
theorem qR (x:Int)(xs:List Int):lexLt (x::xs) []=false:=rfl
theorem D9 (A:Xh)(s:WN)(a:Int)(t:Tok)(c:Int)(u:Tok):∃e,Zh A s (.int a t) (.int c u) e/\(e=true↔a=c):=
 ⟨(a==c),abu a t c u,by simp⟩
theorem D_ (A:Xh)(s:WN)(a:Int)(t:Tok)(c:Int)(u:Tok)(prog:XF)(w:Zu)(E:WB->WN->Prop)(Q:WB->WN->Prop)(h:Q (.bool (decide (a<c))) s) :
  WU (W7 prog w) A (richCompare .Lt (.int a t) (.int c u)) Q E s:=
 (PyProof.Rows.lt_int h:WU (W7 prog w) A (Yf .Lt (.int a t) (.int c u)) Q E s)
section
open PySem.SeqAt
open PySem.AutoSeq1 (wpAny_loadPart')
open PySem.MeetsSeq PySem.MeetsSeq2 PySem.MeetsSeq3
theorem uf (l b:WT)(items jv:Array WB)(n n2:Nat)(dd Ky:Option WT)(sl Kz:Array (Option WB))(ns ms:List Int)(hi:YJ items.toList ns)(hj:YJ jv.toList ms) :
  Meets (Builtin.«tuple.__lt__» ⟨[.ref l,.ref b],[]⟩)
   (λ_ R s=>s.heap.get? l=some {cls:=.type "tuple",dict:=dd,data:=.seq items n,slots:=sl}/\s.heap.get? b=some {cls:=.type "tuple",dict:=Ky,data:=.seq jv n2,slots:=Kz} /\
    R (.ok (.ret (.bool (lexLt ns ms)))) s):=
 .of_wp λprog w A R s h=>by
  obtain⟨hp,g,d,tk,os⟩:=s;obtain⟨hl,hb,h⟩:=h;have f2:=AutoSeq1.sub_tuple_tuple;have z1:items.size=ns.length:=by rw[←hi.length];simp
  have z2:jv.size=ms.length:=by rw[←hj.length];simp
  wp_walk using wpAny_loadPart' hl,wpAny_loadPart' hb,aaS _ (λrest b s'=>b.1=none/\s'=⟨hp,g,d,tk,os⟩/\∃(vs ws:List WB) (oV ms':List Int),rest=vs.zip ws/\
   YJ vs oV/\YJ ws ms'/\oV.length+jv.size=ms'.length+items.size/\R (.ok (.ret (.bool (lexLt oV ms')))) ⟨hp,g,d,tk,os⟩) _
  case turn=>
   rintro⟨y,x⟩ rest b s' ⟨qw,rfl,vs,ws,oV,ms',hz,hvi,hwi,df,hR⟩;cases hvi with
   |nil=>rw[List.zip_nil_left] at hz;cases hz
   |cons a t hvi'=>
    cases hwi with
    |nil=>rw[List.zip_nil_right] at hz;cases hz
    |cons c u hwi'=>
     rw[aal] at hz;injection hz with hyx hrest
     injection hyx with hy hx
     subst hy hx;rw[lexLt_cons] at hR;simp only[Ww] at df;obtain⟨e,he,hiff⟩:=D9 A.in1 ⟨hp,g,d,tk,os⟩ a t c u;refine Wq (he prog w _ _ ?_);cases e with
     |true=>
      rw[hV (hiff.mp rfl)] at hR;wp_walk;exact⟨rfl,rfl,_,_,_,_,hrest,hvi',hwi',by lia,hR⟩
     |false=>
      rw[hU (λq=>absurd (hiff.mpr q) WA)] at hR;have U9:=D_ A.in1 ⟨hp,g,d,tk,os⟩ a t c u prog w;wp_walk using U9;exact⟨_,rfl,by simpa using hR⟩
  case fin=>
   rintro⟨b1,b2⟩ s' ⟨qw,rfl,vs,ws,oV,ms',hz,hvi,hwi,df,hR⟩;simp only at qw;subst qw;have hv:lexLt oV ms'=decide (items.size<jv.size):=by
    cases hvi with
    |nil=>
     cases hwi with
     |nil=>
      simp only[Yi] at df;rw[ue];exact (hJ (by lia)).symm
     |cons c u hw=>
      simp only[Yi,Ww] at df;rw[qQ];exact (hG (by lia)).symm
    |cons a t hv=>
     cases hwi with
     |nil=>
      simp only[Yi,Ww] at df;rw[qR];exact (hJ (by lia)).symm
     |cons c u hw=>
      rw[aal] at hz;cases hz
   rw[hv] at hR;wp_walk;exact⟨_,rfl,by simpa [Builtin.Tuple.tupleCompareSizes] using hR⟩
  case h=>
   exact⟨rfl,rfl,items.toList,jv.toList,ns,ms,rfl,hi,hj,by lia,h⟩
end
section
variable {A:Xh}
theorem lt_tupInts {l:WT}{jv:Array WB}{ms:List Int}(hl:IsTup s.heap l items)(hb:IsTup s.heap b jv)(hi:YJ items.toList ns)(hj:YJ jv.toList ms)(hu:A.units<Yy)(h:Q (.bool (lexLt ns ms)) s):WU (W7 prog w) A (Yf .Lt (.ref l) (.ref b)) Q E s:=by
 obtain⟨⟨cls,dd,data,sl⟩,ho,hc,n,hd⟩:=id hl;obtain⟨⟨cls2,Ky,data2,Kz⟩,ho2,hc2,n2,AR⟩:=id hb;simp only at hc hd hc2 AR;subst hc hd hc2 AR;exact richCompare_meets_room (op:=.Lt) ⟨_,ho,rfl⟩ ⟨_,ho2,rfl⟩ PySem.F.slot_tuple_lt PySem.F.entry_tuple_lt (PySem.F.args_tuple_lt_2 _ _) (uf l b items jv n n2 dd Ky sl Kz ns ms hi hj)
  ⟨ho,ho2,show Value.bool (lexLt ns ms)≠Value.notImplemented/\Q (.bool (lexLt ns ms)) s from ⟨(λx=>nomatch x),h⟩⟩ hu
theorem cat_tup {t:WT}{vs ws:List WB}(ht:IsTup s.heap t vs.toArray)(hb:IsTup s.heap b ws.toArray)(hv:vs≠[])(h1:ws=[]->Q (.ref t) s)(h2:ws≠[]->Q (.ref s.heap.objs.size) {s with heap:=s.heap.push {cls:=.type "tuple",data:=.seq (vs++ws).toArray}})(hsz:vs.length+ws.length<=WE):WU (W7 prog w) A (ZQ .Add (.ref t) (.ref b)) Q E s:=by
 obtain⟨⟨cls,dd,data,sl⟩,ho,hc,n,hd⟩:=id ht;obtain⟨⟨cls2,Ky,data2,Kz⟩,ho2,hc2,n2,AR⟩:=id hb;simp only at hc hd hc2 AR;subst hc hd hc2 AR;have e:vs.toArray++ws.toArray=(vs++ws).toArray:=by simp
 by_cases hw:ws=[]
 ·exact concat_meets ⟨_,ho,rfl⟩ ⟨_,ho2,rfl⟩ noFill_tuple_add seq_tuple_add aaz aam (aae _ _)
   (tuple_addW1 t b vs.toArray ws.toArray n n2 dd Ky sl Kz (by simpa using hv) (by simp[hw])) ⟨ho,ho2,h1 hw⟩
 ·refine concat_meets ⟨_,ho,rfl⟩ ⟨_,ho2,rfl⟩ noFill_tuple_add seq_tuple_add aaz aam (aae _ _)
   (tuple_addW2 t b vs.toArray ws.toArray n n2 dd Ky sl Kz (by simpa using hv) (by simpa using hw) (by rw[Wy,Wy];exact hsz)) ⟨ho,ho2,?_⟩
  rw[e];exact h2 hw
noncomputable def sIx (n d:Nat):Option Int->Nat
 |none=>d
 |some v=>if v<0 then (v+(n:Int)).toNat else min v.toNat n
theorem Li (n d:Nat)(hd:d<=n)(o:Option Int):sIx n d o<=n:=by
 cases o with
 |none=>exact hd
 |some v=>
  show (if v<0 then (v+(n:Int)).toNat else min v.toNat n)<=n;by_cases hv:v<0
  ·rw[hV hv];lia
  ·rw[hU hv];exact Nat.min_le_right _ _
theorem AZ (v:Int)(n d:Nat):(if v<0 then max (v+(n:Int)) 0 else min v (n:Int))=((sIx n d (some v):Nat):Int):=by
 show (if v<0 then max (v+(n:Int)) 0 else min v (n:Int))=(((if v<0 then (v+(n:Int)).toNat else min v.toNat n):Nat):Int);by_cases hv:v<0
 ·simp only[hV hv];lia
 ·simp only[hU hv];lia
theorem zt (lo hi:Option Int)(n:Nat):Z1 lo hi 1 (n:Int)=(((sIx n 0 lo:Nat):Int),((sIx n n hi:Nat):Int)):=by
 have h1:¬((1:Int)<0):=by lia
 unfold Z1;simp only[h1,if_false];refine Prod.ext ?_ ?_
 ·cases lo with
  |none=>rfl
  |some v=>exact AZ v n 0
 ·cases hi with
  |none=>rfl
  |some v=>exact AZ v n n
theorem zu (i j:Nat):Y9 (i:Int) (j:Int) 1=j-i:=by
 unfold Y9;have h1:(1:Int)>0:=by lia
 simp only[h1,if_true,Int.ediv_one];split<;>lia
theorem qS {v:WB}{o:Option Int}{Q:Option Int->WN->Prop}(p:IsPart v o)(h:Q o s):WU (W7 prog w) A (Builtin.Slice.slicePartIndex v) Q E s:=by
 cases p with
 |none=>exact slicePart_none h
 |int i t=>exact slicePart_int h
theorem jA {sl:WT}{vl vu:WB}{lo:Option Int}{Q:Int×Int×Nat->WN->Prop}(hs:s.heap.IsSliceOf sl vl vu .none)(pl:IsPart vl lo)(pu:IsPart vu hi)(h:Q (((sIx n 0 lo:Nat):Int),1,sIx n n hi-sIx n 0 lo) s):WU (W7 prog w) A (abg (.ref sl) (pure (n:Int))) Q E s:=by
 obtain⟨os,hos,hcs,hds⟩:=id hs;unfold abg Builtin.Slice.sliceFields;refine Wq (Wq (Yj hos hds (x:=vl) rfl (Wq (Yj hos hds (x:=vu) rfl (Wq (Yj hos hds (x:=.none) rfl (Wt ?_)))))));refine Wq (slicePart_none ?_);show WU _ _ (if ((1:Int)==0)=true then _ else _) _ _ s;rw[hU (by decide)];refine Wq (qS pl (Wq (qS pu (Wq (Wt ?_)))));show WU _ _ (match Z1 lo hi 1 (n:Int) with|(lo,hi)=>pure (lo,(1:Int),Y9 lo hi 1)) _ _ s;rw[zt lo hi n];show WU _ _ (pure (((sIx n 0 lo:Nat):Int),(1:Int),Y9 ((sIx n 0 lo:Nat):Int) ((sIx n n hi:Nat):Int) 1)) _ _ s;rw[zu];exact Wt h
theorem Ea (xs:Array WB)(i k:Nat):((Wu k).filterMap λ(m:Nat)=>xs[((i:Int)+(m:Int)*1).toNat]?).toArray=((xs.toList.drop i).take k).toArray:=by
 have e:(λ(m:Nat)=>xs[((i:Int)+(m:Int)*1).toNat]?)=λm=>xs[i+m]? := by
  funext m;have:((i:Int)+(m:Int)*1).toNat=i+m:=by lia
  rw[this]
 rw[e];have:=pick_run xs i k;rw[List.filterMap_map] at this;have e2:((λx=>xs[x]?)∘λx=>i+x)=λm=>xs[i+m]? := rfl;rw[e2] at this;rw[this]
theorem getItem_tuple_cut {t sl:WT}{vl vu:WB}{lo:Option Int}(ht:IsTup s.heap t items)(hs:s.heap.IsSliceOf sl vl vu .none)(pl:IsPart vl lo)(pu:IsPart vu hi)(hw:¬(sIx items.size 0 lo=0/\sIx items.size items.size hi=items.size))(h:Q (.ref s.heap.objs.size) {s with heap:=s.heap.push {cls:=.type "tuple",data:=.seq ((items.toList.drop (sIx items.size 0 lo)).take (sIx items.size items.size hi-sIx items.size 0 lo)).toArray}})(hsz:items.size<=WE):WU (W7 prog w) A (aa8 (.ref t) (.ref sl)) Q E s:=by
 have Ce:sizeOk (.seq ((items.toList.drop (sIx items.size 0 lo)).take (sIx items.size items.size hi-sIx items.size 0 lo)).toArray):=by
  show ((items.toList.drop (sIx items.size 0 lo)).take (sIx items.size items.size hi-sIx items.size 0 lo)).toArray.size<=WE;rw[Wy,Xr,X1,Wx];lia
 have hj:sIx items.size items.size hi<=items.size:=Li _ _ (WI _) hi;obtain⟨os,hos,hcs,hds⟩:=id hs;have S0:s.TypeIs (.ref sl) "slice":=⟨os,hos,hcs⟩;unfold aa8
 try with_reducible refine X4 ?_
 first|refine Wq (Wt ?_)|skip
 refine Wq (wpAny_sequenceKey ht.typeIs (by decide) ?_);refine Wq (Xo (name:=YE "__getitem__") ht.typeIs Yz
  (Xl Yz ht.typeIs entry_tuple_getitem ?_ (args_tuple_getitem _ _)))
 show WU _ _ (ZW (.ref t) >>= _) _ _ s;refine Wq (tupleItemsOf_ ht ?_);refine Wq (abv S0 ?_);rw[hV (by decide)];refine Wq (jA hs pl pu ?_);have S1:¬((((sIx items.size 0 lo:Nat):Int)==0&&(1:Int)==1&&(sIx items.size items.size hi-sIx items.size 0 lo)==items.size)=true):=by
  intro q;rw[WX,WX] at q;have q1:((sIx items.size 0 lo:Nat):Int)=0:=eq_of_beq q.1.1;have q2:sIx items.size items.size hi-sIx items.size 0 lo=items.size:=eq_of_beq q.2;exact hw ⟨by lia,by lia⟩
 show WU _ _ (if (((sIx items.size 0 lo:Nat):Int)==0&&(1:Int)==1&&(sIx items.size items.size hi-sIx items.size 0 lo)==items.size)=true then _ else _) _ _ s;rw[hU S1,Ea]
 first
  |exact Wq (m:=Zi _) (Xk (Wt ⟨_,rfl,Wt h⟩) Ce)
  |exact Wq (m:=Zi _) (Xk (Wq (Wt (Wt ⟨_,rfl,Wt h⟩))) Ce)
  |exact Wq (Wq (m:=Zi _) (Xk (Wt (Wt ⟨_,rfl,Wt h⟩)) Ce))
  |exact Wq (Wq (m:=Zi _) (Xk (Wt ⟨_,rfl,Wt h⟩) Ce))
end
end HT
namespace L2
abbrev TO:=St->Hp->(Option Int->Hp->Prop)->Prop
def PO (X:Cx)(e:Option Yv)(t:TO):Prop:=
 ∀(pins:List (WT×Obj)) (s:WN) (σ:St) (H:Hp) (Q:Option Int->Hp->Prop),aN X pins σ H s->t σ H Q->
  WU (W7 X.prog X.w) X.A (evalPart e X.env) (λu s'=>∃o H',aN X pins σ H' s'/\IsPart u o/\Q o H') X.xe s
def Hq:TO:=λ_ H Q=>Q none H
def NO (t:TE):TO:=λσ H Q=>t σ H λx H1=>∃i,x=.int i/\Q (some i) H1
theorem dW:∀{us:List WB},a9 (ns.map V.int) us->YJ us ns:=by
 induction ns with
 |nil=>intro us r;rw[Yg] at r;cases r;exact .nil
 |cons n ns ih=>
  intro us r;rw[WQ] at r;cases r with
  |cons r1 r2=>
   obtain⟨t,e⟩:=r1;subst e;exact .cons n t (ih r2)
section
variable {e:Yv}{lo hi:Option Yv}{tl th:TO}{p2:Pos}
theorem Hr:PO X none Hq:=by
 intro pins s σ H Q I h;rw[evalPart_none];exact Wt ⟨none,H,I,.none,h⟩
theorem Hs (h:PE X e te):PO X (some e) (NO te):=by
 intro pins s σ H Q I hw;rw[evalPart_some];refine eE (h pins s σ H _ I hw) λu s1 ⟨x,H1,I1,r1,q1⟩=>?_;obtain⟨i,rfl,q⟩:=q1;obtain⟨t,rfl⟩:=r1;exact⟨some i,H1,I1,.int i t,q⟩
def Eb (X:Cx)(r:V->Option Int->Option Int->Hp->VK->Prop):Prop:=
 ∀(pins:List (WT×Obj)) (s:WN) (σ:St) (H:Hp) (x:V) (v vl vu:WB) (lo hi:Option Int) (sl:WT) (Q:VK),aN X pins σ H s->bu x v->s.heap.IsSliceOf sl vl vu .none->IsPart vl lo->IsPart vu hi->r x lo hi H Q->
  ∃T id,typeLookup (.type T) "__getitem__"=pure (some (.builtin id))/\s.TypeIs v T/\WU (W7 X.prog X.w) X.A (aa8 v (.ref sl)) (EP X pins σ Q) X.xe s
theorem Eb.or {r r':V->Option Int->Option Int->Hp->VK->Prop}(h:Eb X r)(h':Eb X r'):Eb X (λx lo hi H Q=>r x lo hi H Q\/r' x lo hi H Q):=by
 intro pins s σ H x v vl vu lo hi sl Q I rx hs pl pu q;rcases q with q|q
 ·exact h pins s σ H x v vl vu lo hi sl Q I rx hs pl pu q
 ·exact h' pins s σ H x v vl vu lo hi sl Q I rx hs pl pu q
def UN (r:V->Option Int->Option Int->Hp->VK->Prop)(te:TE)(tl th:TO):TE:=λσ H Q=>te σ H λx H1=>tl σ H1 λl H2=>th σ H2 λu H3=>r x l u H3 Q
theorem Ec {r:V->Option Int->Option Int->Hp->VK->Prop}(hr:Eb X r)(he:PE X e te)(hl:PO X lo tl)(hu:PO X hi th):PE X (.Subscript e (.Slice lo hi none p2) pos) (UN r te tl th):=by
 intro pins s σ H Q I h;refine Subscript_ (eE (he pins s σ H _ I h) λv s1 ⟨x,H1,I1,r1,q1⟩=>?_);refine wpAny_Slice (eE (hl pins s1 σ H1 _ I1 q1) λvl s2 ⟨l,H2,I2,pl,q2⟩=>eE (hu pins s2 σ H2 _ I2 q2) λvu s3 ⟨u,H3,I3,pu,q3⟩=>?_);rw[evalPart_none];refine Wt ?_;have I4:aN X pins σ H3 {s3 with heap:=s3.heap.push {cls:=.type "slice",data:=.fields #[vl,vu,.none]}}:=I3.kept (t':=s3.toks) λb ob q=>Ws _ q;obtain⟨T,id,hT,ht,hg⟩:=hr pins {s3 with heap:=s3.heap.push {cls:=.type "slice",data:=.fields #[vl,vu,.none]}} σ H3 x v vl vu l u s3.heap.objs.size Q I4 r1 (Heap.IsSliceOf.new ..) pl pu q3;show WU (W7 X.prog X.w) X.A (subscriptTail e (.Slice lo hi none p2) v (.ref s3.heap.objs.size)) (EP X pins σ Q) X.xe {s3 with heap:=s3.heap.push {cls:=.type "slice",data:=.fields #[vl,vu,.none]}};exact tail_any (ops:=[.ref s3.heap.objs.size,v]) ht hT hg (by with_unfolding_all rfl)
noncomputable def qT (xs:List V)(lo hi:Option Int):List V:=(xs.drop (HT.sIx xs.length 0 lo)).take (HT.sIx xs.length xs.length hi-HT.sIx xs.length 0 lo)
theorem oZ (xs:List V)(lo hi:Option Int):(qT xs lo hi).length<=xs.length:=by
 unfold qT;rw[Xr,X1];lia
def NP (K:Wv):V->Option Int->Option Int->Hp->VK->Prop:=λx lo hi H Q=>∃a xs,x=.ref a/\gK K H a xs/\
 ¬(HT.sIx xs.length 0 lo=0/\HT.sIx xs.length xs.length hi=xs.length)/\∀p,H p=none->Q (.ref p) (cY H p (.tup (qT xs lo hi)))
theorem Lj:Eb X (NP X.K):=by
 intro pins s σ H x v vl vu lo hi sl Q I rx hs pl pu h;obtain⟨a,xs,rfl,hx,hw,q⟩:=h;cases rx;obtain⟨its,r,ht,hz⟩:=I.tuple hx;have df:its.toArray.size=xs.length:=by rw[Wy];exact r.length.symm
 refine⟨"tuple",_,PyProof.Rows.slot_tuple_getitem.lookup,ht.typeIs,?_⟩;refine HT.getItem_tuple_cut ht hs pl pu (by rw[df];exact hw) ?_ (by rw[df];exact hz);rw[df];refine⟨.ref s.heap.objs.size,_,I.laid (t':=s.toks) (o:=.tup (qT xs lo hi)) (λb ob q=>Ws _ q) (WI _) ?_,rfl,q _ (I.hok.fresh (WI _))⟩;exact⟨Xz (oZ xs lo hi) hz,_,(r.drop (HT.sIx xs.length 0 lo)).take (HT.sIx xs.length xs.length hi-HT.sIx xs.length 0 lo),IsTup.new _ _,_,WJ _ rfl⟩
def NQ (K:Wv):R2:=λx y H Q=>∃a b xs ys,x=.ref a/\y=.ref b/\gK K H a xs/\gK K H b ys/\xs≠[]/\xs.length+ys.length<=WE/\
 (ys=[]->Q (.ref a) H)/\(ys≠[]->∀p,H p=none->Q (.ref p) (cY H p (.tup (xs++ys))))
theorem a9.nil_iff {us:List WB}(r:a9 xs us):us=[]↔xs=[]:=by
 cases r with
 |nil=>simp
 |cons _ _=>simp
theorem Ht:j3 X (ZQ .Add) (NQ X.K):=by
 intro pins s σ H x y v u Q I rx ry h;obtain⟨a,b,xs,ys,rfl,rfl,ha,hb,hx,hz,q1,q2⟩:=h;cases rx;cases ry;obtain⟨its,r1,p1,_⟩:=I.tuple ha;obtain⟨its2,r2,p2,_⟩:=I.tuple hb;refine HT.cat_tup p1 p2 (λz=>hx (r1.nil_iff.mp z)) (λz=>⟨.ref a,H,I,rfl,q1 (r2.nil_iff.mp z)⟩) (λz=>?_) (by rw[←r1.length,←r2.length];exact hz);refine⟨.ref s.heap.objs.size,_,I.laid (t':=s.toks) (o:=.tup (xs++ys)) (λb ob q=>Ws _ q) (WI _) ?_,rfl,q2 (λw=>z (r2.nil_iff.mpr w)) _ (I.hok.fresh (WI _))⟩;exact⟨by rw[WG];exact hz,_,r1.append r2,IsTup.new _ _,_,WJ _ rfl⟩
end
end L2
namespace L2
noncomputable def DC (n:Nat)(i:Int):Option Nat:=if 0<=i then (if i<n then some i.toNat else none) else if -(n:Int)<=i then some (i+n).toNat else none
noncomputable def og {α:Type}(xs:List α)(i:Int):Option α:=(DC xs.length i).bind λj=>xs[j]?
theorem A4 {i:Int}(h:DC n i=some j):abN i n=some j/\j<n/\ -(n:Int)<=i/\i<n:=by
 unfold DC at h;by_cases h0:0<=i
 ·rw[hV h0] at h;by_cases h1:i<n
  ·rw[hV h1] at h;have e:i.toNat=j:=W0 h;exact⟨by rw[seqIndex_of h0 h1,e],by lia,by lia,h1⟩
  ·rw[hU h1] at h;cases h
 ·rw[hU h0] at h;by_cases h1 : -(n:Int)<=i
  ·rw[hV h1] at h;have e:(i+n).toNat=j:=W0 h;exact⟨by rw[seqIndex_neg (by lia) h1,e],by lia,h1,by lia⟩
  ·rw[hU h1] at h;cases h
theorem vO {α:Type}{xs:List α}{i:Int}{v:α}(h:og xs i=some v):∃j,abN i xs.length=some j/\xs[j]? = some v/\j<xs.length/\ -(xs.length:Int)<=i/\i<xs.length:=by
 unfold og at h;cases e:DC xs.length i with
 |none=>rw[e] at h;cases h
 |some j=>
  rw[e] at h;obtain⟨h1,h2,h3,h4⟩:=A4 e;exact⟨j,h1,h,h2,h3,h4⟩
def A5 (b:Yv):Prop:=∀o i,subscripted b false o i=operate [o,i] (aa8 o i)
def G2 (X:Cx)(r:R2):Prop:=
 ∀(value slice:Yv) (pins:List (WT×Obj)) (s:WN) (σ:St) (H:Hp) (x y:V) (v u:WB) (Q:VK),aN X pins σ H s->bu x v->bu y u->r x y H Q->
  subscripted slice false v u=operate [v,u] (aa8 v u)->WU (W7 X.prog X.w) X.A (subscriptTail value slice v u) (EP X pins σ Q) X.xe s
def Jj (X:Cx)(id:String)(r:V->List V->Hp->VK->Prop):Prop:=
 ∀(pins:List (WT×Obj)) (s:WN) (σ:St) (H:Hp) (x:V) (xs:List V) (v:WB) (us:List WB) (Q:VK),aN X pins σ H s->bu x v->a9 xs us->r x xs H Q->
  WU (W7 X.prog X.w) X.A (call (.builtin id) (v::us)) (EP X pins σ Q) X.xe s
section
variable {a b:Yv}{ta tb:TE}
theorem G2.or (h:G2 X r)(h':G2 X r'):G2 X (λx y H Q=>r x y H Q\/r' x y H Q):=by
 intro value slice pins s σ H x y v u Q I rx ry q hs;rcases q with q|q
 ·exact h value slice pins s σ H x y v u Q I rx ry q hs
 ·exact h' value slice pins s σ H x y v u Q I rx ry q hs
theorem Jj.or {id:String}{r r':V->List V->Hp->VK->Prop}(h:Jj X id r)(h':Jj X id r'):Jj X id (λx xs H Q=>r x xs H Q\/r' x xs H Q):=by
 intro pins s σ H x xs v us Q I rx rs q;rcases q with q|q
 ·exact h pins s σ H x xs v us Q I rx rs q
 ·exact h' pins s σ H x xs v us Q I rx rs q
theorem NR (hr:G2 X r)(ha:PE X a ta)(hb:PE X b tb)(hs:A5 b):PE X (.Subscript a b pos) (NF r ta tb):=by
 intro pins s σ H Q I h;exact Subscript_ (Le ha hb I h λv u s2 x y H2 I2 rx ry q=>hr a b pins s2 σ H2 x y v u Q I2 rx ry q (hs _ _))
def NT (K:Wv):R2:=λx y H Q=>∃p xs i v,x=.ref p/\y=.int i/\f7 K H p xs/\og xs i=some v/\Q v H
def NU (K:Wv):R2:=λx y H Q=>∃p xs i v,x=.ref p/\y=.int i/\gK K H p xs/\og xs i=some v/\Q v H
def NV:R2:=λx y H Q=>∃z i c,x=.str z/\y=.int i/\z.length<=WE/\og z.cps.toList i=some c/\Q (.str ⟨#[c]⟩) H
theorem Hu:G2 X (NT X.K):=by
 intro value slice pins s σ H x y v u Q I rx ry h hs;obtain⟨p,xs,i,z,rfl,rfl,hq,he,q⟩:=h;cases rx;obtain⟨t,rfl⟩:=ry;obtain⟨its,r,pl,hz⟩:=I.list hq;obtain⟨j,h1,h2,h3,h4,h5⟩:=vO he;obtain⟨w,ew,AN⟩:=r.get h2;have hl:=r.length;have hn:=n_;have fin:EP X pins σ Q w s:=⟨z,H,I,AN,q⟩;by_cases h0:0<=i
 ·have hj:i.toNat=j:=by
   rw[seqIndex_of h0 h5] at h1;exact W0 h1
  exact item_listR pl.isList h0 (by lia) (by rw[hj];simpa using ew) fin hs
 ·have hj:(i+(its.toArray.size:Int)).toNat=j:=by
   rw[seqIndex_neg (by lia) h4] at h1;rw[Wy,←hl];exact W0 h1
  exact subscriptTail_builtinR (x:=w) pl.isList.typeIs slot_list_getitem.lookup
   (wpAny_getItem_list_neg (Q:=λr s'=>r=w/\EP X pins σ Q r s') pl.isList (by lia) (by rw[Wy]<;>lia) (by lia) (by rw[hj];simpa using ew) ⟨rfl,fin⟩) hs
theorem Lk:G2 X (NU X.K):=by
 intro value slice pins s σ H x y v u Q I rx ry h hs;obtain⟨p,xs,i,z,rfl,rfl,hq,he,q⟩:=h;cases rx;obtain⟨t,rfl⟩:=ry;obtain⟨its,r,pl,hz⟩:=I.tuple hq;obtain⟨j,h1,h2,h3,h4,h5⟩:=vO he;obtain⟨w,ew,AN⟩:=r.get h2;have hl:=r.length;have hn:=n_;have fin:EP X pins σ Q w s:=⟨z,H,I,AN,q⟩;exact subscriptTail_builtinR (x:=w) pl.typeIs slot_tuple_getitem.lookup
  (getItem_tuple (j:=j) (Q:=λr s'=>r=w/\EP X pins σ Q r s') pl (by lia) (by lia) (by rw[Wy,←hl];exact h1) (by simpa using ew) ⟨rfl,fin⟩) hs
theorem Ll:G2 X NV:=by
 intro value slice pins s σ H x y v u Q I rx ry h hs;obtain⟨z,i,c,rfl,rfl,hz,he,q⟩:=h;obtain⟨t,rfl⟩:=rx;obtain⟨t',rfl⟩:=ry;obtain⟨j,h1,h2,h3,h4,h5⟩:=vO he;have hl:z.cps.toList.length=z.length:=by simp[Str.length]
 rw[hl] at h1 h4 h5;have hn:=n_;exact tail_any (typeIs_str s z t) slot_str_getitem.lookup (getItem_str (c:=c) (by
  have e1:decide (i < -(2 ^ 63:Int))=false:=hJ (by lia);have e2:decide (i≥2 ^ 63)=false:=hJ (by lia);rw[e1,e2,Bool.or_false]) (by rw[h1];simpa using h2) ⟨.str ⟨#[c]⟩,H,I.tok _,⟨_,rfl⟩,q⟩) hs
def TN (K:Wv):R2:=λx y H Q=>NT K x y H Q\/NU K x y H Q\/NV x y H Q
theorem aD:G2 X (TN X.K):=Hu.or (Lk.or Ll)
theorem zv (its:List WB)(n j:Nat)(u:WB):ZR (·.setIfInBounds j u) {cls:=.type "list",data:=.seq its.toArray n}={cls:=.type "list",data:=.seq (its.set j u).toArray n}:=by
 simp[ZR]
theorem aN.lst (I:aN X pins σ H s)(h:H p=some (.lst xs)) :
  ∃(its:List WB) (n:Nat),a9 xs its/\s.heap.get? p=some {cls:=.type "list",data:=.seq its.toArray n}/\xs.length<=WE:=by
 obtain⟨z,its,n,r,e⟩:=I.hok p _ h;exact⟨its,n,r,e,z⟩
theorem aN.lstUpd {ys:List V}{its':List WB}{n':Nat}{f:Obj->Obj}(I:aN X pins σ H s)(h:H p=some (.lst xs))(ho:s.heap.get? p=some {cls:=.type "list",data:=.seq its.toArray n})(hf:f {cls:=.type "list",data:=.seq its.toArray n}={cls:=.type "list",data:=.seq its'.toArray n'})(r:a9 ys its')(hz:ys.length<=WE)(t:Nat) :
  aN X pins σ (cY H p (.lst ys)) {s with heap:=s.heap.update p f,toks:=t}:=by
 have e:(s.heap.update p f).get? p=some {cls:=.type "list",data:=.seq its'.toArray n'}:=by
  rw[Yh f ho (by rw[hf]<;>rfl),hf]
 refine I.write (x:=p) (e:=p) (by rw[h];trivial) (.inl rfl) (λb u hb q=>(Heap.get?_update_other _ _ (Ne.symm hb)).trans q) ⟨_,e⟩ ?_;exact⟨hz,its',n',r,e⟩
def NW:V->V->V->Hp->(Hp->Prop)->Prop:=λo i v H Q=>∃p xs k j,o=.ref p/\i=.int k/\H p=some (.lst xs)/\DC xs.length k=some j/\Q (cY H p (.lst (xs.set j v)))
theorem Ed:NA X NW:=by
 intro pins s σ H o i v ov iv u Q I ro ri rv h;obtain⟨p,xs,k,j,rfl,rfl,hp,hj,q⟩:=h;cases ro;obtain⟨t,rfl⟩:=ri;obtain⟨its,n,r,ho,hz⟩:=I.lst hp;obtain⟨h1,h2,h3,h4⟩:=A4 hj;have hl:=r.length;have hn:=n_;have I':aN X pins σ (cY H p (.lst (xs.set j v))) {s with heap:=s.heap.update p (ZR (·.setIfInBounds j u))}:=
  I.lstUpd hp ho (zv its n j u) (r.set rv j) (by rw[XA];exact hz) s.toks
 by_cases h0:0<=k
 ·have hk:k.toNat=j:=by
   rw[seqIndex_of h0 h4] at h1;exact W0 h1
  exact PySem.W.ki_setAt ho h0 (by lia) (by rw[Wy,←hl];exact h4) (by rw[hk];exact⟨_,I',q⟩)
 ·have hk:(k+(its.toArray.size:Int)).toNat=j:=by
   rw[seqIndex_neg (by lia) h3] at h1;rw[Wy,←hl];exact W0 h1
  exact PySem.W.ki_setBack ho (by lia) (by rw[Wy,←hl];exact h3) (by lia) (by rw[hk];exact⟨_,I',q⟩)
theorem vP (lo hi:Option Int)(n:Nat):(aaC lo hi none n).1=((HT.sIx n 0 lo:Nat):Int)/\(aaC lo hi none n).2.1=((HT.sIx n n hi:Nat):Int)/\(aaC lo hi none n).2.2=1:=by
 refine⟨?_,?_,rfl⟩
 ·cases lo with
  |none=>simp[aaC,HT.sIx]
  |some i=>
   simp only[aaC,HT.sIx,Z5,show (1:Int)>0 by decide,if_true];by_cases h:i<0
   ·simp only[h,if_true]<;>lia
   ·simp only[h,if_false]<;>lia
 ·cases hi with
  |none=>simp[aaC,HT.sIx]
  |some i=>
   simp only[aaC,HT.sIx,Z5,show (1:Int)>0 by decide,if_true];by_cases h:i<0
   ·simp only[h,if_true]<;>lia
   ·simp only[h,if_false]<;>lia
theorem ug (its:List WB)(lo hi:Option Int):slicePick its.toArray lo hi none=((its.drop (HT.sIx its.length 0 lo)).take (HT.sIx its.length its.length hi-HT.sIx its.length 0 lo)).toArray:=by
 obtain⟨h1,h2,h3⟩:=vP lo hi its.toArray.size;unfold slicePick;rw[h1,h2,h3];simp only[sliceRange_one,pick_run,Wy]<;>rfl
def Hv (K:Wv):V->Option Int->Option Int->Hp->VK->Prop:=λx lo hi H Q=>∃a xs,x=.ref a/\f7 K H a xs/\∀p,H p=none->Q (.ref p) (cY H p (.lst (qT xs lo hi)))
theorem Hw:Eb X (Hv X.K):=by
 intro pins s σ H x v vl vu lo hi sl Q I rx hs pl pu h;obtain⟨a,xs,rfl,hx,q⟩:=h;cases rx;obtain⟨its,r,ht,hz⟩:=I.list hx;have df:=r.length;refine⟨"list",_,slot_list_getitem.lookup,ht.isList.typeIs,?_⟩;refine wpAny_getItem_list_slice ht.isList hs pl pu .none (by simp) ?_ (by rw[Wy]<;>lia);rw[ug,←df];refine⟨.ref s.heap.objs.size,_,I.laid (t':=s.toks) (o:=.lst (qT xs lo hi)) (λb ob q=>Ws _ q) (WI _) ?_,rfl,q _ (I.hok.fresh (WI _))⟩;exact⟨Xz (oZ xs lo hi) hz,_,0,(r.drop (HT.sIx xs.length 0 lo)).take (HT.sIx xs.length xs.length hi-HT.sIx xs.length 0 lo),WJ _ rfl⟩
theorem bN:eT X (.type "tuple") (λxs H Q=>∃p ys,xs=[.ref p]/\((f7 X.K H p ys/\∀l,H l=none->Q (.ref l) (cY H l (.tup ys)))\/(gK X.K H p ys/\Q (.ref p) H))):=by
 intro pins s σ H xs us Q I r h;obtain⟨p,ys,rfl,h⟩:=h;obtain⟨u,rfl,rx⟩:=ja r;cases rx;rcases h with⟨hq,q⟩|⟨hq,q⟩
 ·obtain⟨its,r',pl,hz⟩:=I.list hq;have df:=r'.length;refine call_tuple_list pl.isList (λh' kp=>?_) (by simp only[Wy]<;>lia);have I1:aN X pins σ H {s with heap:=h'}:=I.kept (t':=s.toks) kp;have I2:aN X pins σ (cY H h'.objs.size (.tup ys)) {s with heap:=h'.push {cls:=.type "tuple",data:=.seq its.toArray}}:=
   I1.laid (t':=s.toks) (λb o e=>Ws _ e) (WI _) (show dU X.prog X.w _ _ _ (.tup ys) from ⟨hz,its,r',IsTup.new _ _,_,WJ _ rfl⟩)
  exact⟨.ref h'.objs.size,_,I2,rfl,q _ (I1.hok.fresh (WI _))⟩
 ·obtain⟨its,r',pl,hz⟩:=I.tuple hq;exact call_tuple_same pl ⟨.ref p,H,I,rfl,q⟩
def Rv (K:Wv)(T:String)(x:V)(H:Hp):Prop:=match x with
 | .str _=>T="str"
 | .int _=>T="int"
 | .ref p=>(T="list"/\∃xs,f7 K H p xs)\/(T="tuple"/\((∃o,K.lookup p=some o/\o.cls=.type "tuple"/\o.dict=none)\/∃xs,H p=some (.tup xs))) \/
   (T="dict"/\((∃cC,H p=some (.dK cC))\/∃cC,H p=some (.dT cC)))\/(T="set"/\∃S n,H p=some (.set S n))
 |_=>False
theorem Lm {T:String}{x:V}{v:WB}(I:aN X pins σ H s)(r:bu x v)(ty:Rv X.K T x H) :
  s.TypeIs v T/\∀a,v=.ref a->∃ob,s.heap.get? a=some ob/\ob.dict=none:=by
 cases x with
 |str z=>
  obtain⟨t,rfl⟩:=r;cases (show T="str" from ty);exact⟨typeIs_str s z t,λ_ e=>nomatch e⟩
 |int i=>
  obtain⟨t,rfl⟩:=r;cases (show T="int" from ty);exact⟨typeIs_int s i t,λ_ e=>nomatch e⟩
 |ref p=>
  cases r;rcases ty with⟨rfl,xs,hq⟩|⟨rfl,⟨o,hk,hc,hd⟩|⟨xs,hq⟩⟩|⟨rfl,hk⟩|⟨rfl,S,n,hk⟩
  ·obtain⟨its,_,pl,_⟩:=I.list hq;refine⟨pl.isList.typeIs,λa e=>?_⟩;cases e;obtain⟨o,n,e,c,hd,_⟩:=pl;exact⟨o,e,hd⟩
  ·refine⟨⟨o,I.kIn p o hk,hc⟩,λa e=>?_⟩;cases e;exact⟨o,I.kIn _ o hk,hd⟩
  ·obtain⟨_,its,_,⟨o,e,c,_⟩,n2,e2⟩:=I.hok p _ hq;refine⟨⟨o,e,c⟩,λa e'=>?_⟩;cases e';exact⟨_,e2,rfl⟩
  ·have z:∃o,s.heap.get? p=some o/\o.ExactDict:=by
    rcases hk with⟨cC,hk⟩|⟨cC,hk⟩
    ·obtain⟨_,_,_,_,o,_,_,e,ex,_⟩:=I.hok p _ hk;exact⟨o,e,ex⟩
    ·obtain⟨_,_,_,_,o,_,_,e,ex,_⟩:=I.hok p _ hk;exact⟨o,e,ex⟩
   obtain⟨o,e,ex⟩:=z;refine⟨⟨o,e,ex.1⟩,λa e2=>?_⟩;cases e2;exact⟨o,e,ex.2.1⟩
  ·obtain⟨o,_,_,_,e,ex,_⟩:=I.hok p _ hk;refine⟨⟨o,e,ex.1⟩,λa e2=>?_⟩;cases e2;exact⟨o,e,ex.2.1⟩
 |_=>exact ZP ty
def TQ (K:Wv)(T:String)(r:V->List V->Hp->VK->Prop)(to:TE)(t:TA):TE:=λσ H Q=>to σ H λx H1=>Rv K T x H1/\t σ H1 λxs H2=>r x xs H2 Q
variable {o e:Yv}{es:List Yv}{to:TE}{t:TA}{name:Str}{gR cpos:Pos}{T id:String}{r:V->List V->Hp->VK->Prop}
theorem Jk (pa:PlainAttrs T)(slot:Slot T name id)(S2:typeOf (.builtin id)=pure (.type "method_descriptor"))(hm:Jj X id r)(ho:PE X o to)(ha:PA X (e::es) t)
  (yZ:aan o name X.env (Z0 o X.env)=Z0 o X.env:=by rfl)
  (GL:((Zc cpos (WY (e::es) X.env)).all (λx=> !x.1)&&(backToKw cpos (aa9 [] X.env)).all (λx=>x.1.isSome)
   && decide ((e::es).length+([]:List aaR).length+(if ([]:List aaR).isEmpty then 0 else 1)<30))=true:=by rfl)
  (y_:(gR.endLine==cpos.line)=true:=by rfl) (hs:WY (e::es) X.env=(false,Z0 e X.env)::WY es X.env:=by rfl) (tX:(Zc cpos (WY es X.env)).any (·.1)=false:=by rfl) :
  PE X (.Call (.Attribute o name gR) (e::es) [] cpos) (TQ X.K T r to t):=by
 intro pins s σ H Q I h;refine wpAny_Call_method_late yZ GL y_ rfl (eE (ho pins s σ H _ I h) λv s1 ⟨x,H1,I1,r1,ty,q1⟩=>?_);obtain⟨h1,h2⟩:=Lm I1 r1 ty;refine⟨T,id,pa,slot,S2,h1,h2,?_⟩;have hA:=ha cpos pins s1 σ H1 _ I1 q1;rw[hs] at hA ⊢;refine Calls.callWith_builtin (by show (false||(Zc cpos (WY es X.env)).any (·.1))=false;rw[tX]<;>rfl) (Calls.evalArgs_plain ?_);exact eE hA λus s2 ⟨vs,H2,I2,r2,q2⟩=>hm pins s2 σ H2 x vs v us Q I2 r1 r2 q2
end
end L2
namespace L2
def Rx (X:Cx)(id:String)(r:V->List V->Hp->VK->Prop):Prop:=
 ∀(pins:List (WT×Obj)) (s:WN) (σ:St) (H:Hp) (x:V) (xs:List V) (v:WB) (us:List WB) (Q:VK),aN X pins σ H s->bu x v->a9 xs us->r x xs H Q->
  WU (W7 X.prog X.w) X.A (call (.builtin id) (v::us)) (EP X pins σ Q) X.xe s
theorem a9.one:∀{x:V} {us:List WB},a9 [x] us->∃u,us=[u]/\bu x u
 |_,_,.cons r .nil=>⟨_,rfl,r⟩
theorem a9.eraseIdx:∀{xs:List V} {us:List WB} (i:Nat),a9 xs us->a9 (xs.eraseIdx i) (us.eraseIdx i)
 |_,_,_,.nil=>.nil
 |_,_,0,.cons _ t=>t
 |_,_,i+1,.cons r t=>.cons r (a9.eraseIdx i t)
theorem uN {α:Type}:∀(l:List α) (i:Nat),(l.eraseIdx i).length<=l.length
 | [],_=>WI _
 |_::_,0=>Nat.le_succ _
 |_::r,i+1=>Nat.succ_le_succ (uN r i)
section
variable {l:WT}{ys zs:List V}
theorem aN.lset {t':Nat}{its':List WB}{f:Array WB->Array WB}(I:aN X pins σ H s)(hH:H l=some (.lst xs))(e:s.heap.get? l=some {cls:=.type "list",data:=.seq its.toArray n})(hf:f its.toArray=its'.toArray)(hv:a9 ys its')(hz:ys.length<=WE) :
  aN X pins σ (cY H l (.lst ys)) {s with heap:=s.heap.update l (ZR f),toks:=t'}:=by
 have q:=PySem.IsL.update e f;rw[hf] at q;refine I.write (x:=l) (e:=l) (by rw[hH];exact trivial) (.inl rfl) (λb' u hb hu=>(Heap.get?_update_other s.heap (ZR f) (Ne.symm hb)).trans hu) ⟨_,q⟩ ?_;exact⟨hz,its',_,hv,q⟩
theorem aN.lnew {t':Nat}(I:aN X pins σ H s)(hv:a9 ys its)(hz:ys.length<=WE) :
  aN X pins σ (cY H s.heap.objs.size (.lst ys)) {s with heap:=s.heap.push {cls:=.type "list",data:=.seq its.toArray},toks:=t'}:=
 I.laid (λ_ _ q=>Ws _ q) (WI _) ⟨hz,its,0,hv,WJ _ rfl⟩
theorem aN.fresh (I:aN X pins σ H s):H s.heap.objs.size=none:=I.hok.fresh (WI _)
theorem aN.lstM (I:aN X pins σ H s)(hH:H l=some (.lst xs)):xs.length<=WE/\∃(its:List WB) (n:Nat),a9 xs its/\xs.length=its.length/\s.heap.get? l=some {cls:=.type "list",data:=.seq its.toArray n}:=by
 obtain⟨z,its,n,r,e⟩:=I.hok l _ hH;exact⟨z,its,n,r,r.length,e⟩
theorem qU (h:n<=WE):Zj n=false:=by
 unfold Zj;exact hJ (by lia)
end
def A6:V->List V->Hp->VK->Prop:=λx vs H Q=>∃l xs y,x=.ref l/\vs=[y]/\H l=some (.lst xs)/\xs.length<WE/\Q .non (cY H l (.lst (xs++[y])))
theorem oh:Rx X "list.append" A6:=by
 intro pins s σ H x vs v us Q I rx rv h;obtain⟨l,xs,y,rfl,rfl,hH,hz,q⟩:=h;cases rx;obtain⟨u,rfl,ru⟩:=rv.one;obtain⟨z,its,n,r,hl,e⟩:=I.lstM hH;refine abO F.slot_list_append ⟨_,e,rfl⟩ F.entry_list_append (F.args_list_append_2 _ _) (PySem.list_append l its.toArray n u (by rw[Wy];lia)) ⟨e,?_⟩;refine⟨.non,_,I.lset (its':=its++[u]) hH e (by simp) (r.append (.cons ru .nil)) ?_,rfl,q⟩;rw[WG,ZD];lia
def Ee:V->List V->Hp->VK->Prop:=λx vs H Q=>∃l xs i k y,x=.ref l/\vs=[.int i]/\H l=some (.lst xs)/\ -(2 ^ 63)<=i/\i<2 ^ 63/\abN i xs.length=some k/\xs[k]? = some y/\Q y (cY H l (.lst (xs.eraseIdx k)))
theorem Ef:Rx X "list.pop" Ee:=by
 intro pins s σ H x vs v us Q I rx rv h;obtain⟨l,xs,i,k,y,rfl,rfl,hH,h1,h2,hk,hy,q⟩:=h;cases rx;obtain⟨u,rfl,ru⟩:=rv.one;obtain⟨t,rfl⟩:=ru;obtain⟨z,its,n,r,hl,e⟩:=I.lstM hH;obtain⟨w,hw,AN⟩:=r.get hy;refine abO F.slot_list_pop ⟨_,e,rfl⟩ F.entry_list_pop (F.args_list_pop_2 _ _)
  (MeetsSeq.list_pop_at l its.toArray n i t k w (fitsIndex_both h1 h2) (by rw[Wy,←hl];exact hk) (by rw[←WS];exact hw) (by rw[Wy];lia)) ⟨e,?_⟩
 refine⟨y,_,I.lset (its':=its.eraseIdx k) hH e ?_ (r.eraseIdx k) ?_,AN,q⟩
 ·show its.toArray.eraseIdxIfInBounds k=(its.eraseIdx k).toArray;rw[List.eraseIdxIfInBounds_toArray]
 ·have:=uN xs k;lia
section
variable {A:Xh}
set_option maxRecDepth 100000 in
end
end L2
namespace Att
open PySem.W PySem.Calls
theorem p8 {P:Params}:∀(ns:List Int) (vs:List WB),WellAll P h vs (ns.map WData.int)->YJ vs ns:=by
 intro ns
 induction ns with
 |nil=>
  intro vs w;rw[Yg] at w;cases w;exact .nil
 |cons n ns ih=>
  intro vs w;rw[WQ] at w;cases w with
  |cons a b=>
   cases a;exact .cons _ _ (ih _ b)
theorem Cy {l:OpenLaw}(hn:l.most=some n){P:Params}{args:List WData}{MS:List WB}(Ja:l.row.toRowW.claim.pre args=true)(S3:WellAll P h MS args) :
  ∃a vs ns,MS=[Value.ref a]/\args=[WData.list (ns.map WData.int)]/\h.get? a=some {cls:=.type "list",data:=.seq vs.toArray}/\YJ vs ns/\ns.length<=n:=by
 have U_:WShape.hasAll [] args [.list .int]=true:=(pre_splitW Ja).1;have hc:l.pre.holds [] {args:=args}=true:=(pre_splitW Ja).2;obtain⟨d,r,rfl,h1,h2⟩:=hasAllW_cons U_;obtain rfl:=hasAllW_nil h2;obtain⟨xs,rfl,h3⟩:=hasW_list h1;obtain⟨ns,rfl⟩:=items_int h3;have df:ns.length<=n:=by
  unfold OpenLaw.pre at hc;have h4:(WTm.not (.lt (.lit (.int (n:Int))) (.len (.arg 0)))).holds [] {args:=[.list (ns.map .int)]}=true:=by
   have h4:=(holds_andW hc).1;rw[hn] at h4;exact h4
  have h5:=condW_of h4 (w_not (w_lt w_lit (w_len_list (w_arg rfl))));rw[WC] at h5;refine Nat.le_of_not_lt λq=>?_;have q':(n:Int)<((ns.length:Nat):Int):=by lia
  first
   | (rw[hG q'] at h5;exact absurd h5 (by decide))
   | (simp at h5;lia)
 cases S3 with
 |cons w1 w2=>
  cases w2;cases w1 with
  |list ho hall=>exact⟨_,_,ns,rfl,rfl,ho,p8 ns _ hall,df⟩
theorem Cz (l:OpenLaw)(args:List WData):l.row.toRowW.claim.post args (.bool true) args=true:=
 postW_of (r:=l.row.toRowW) (X:=(true==true))
  (show WShape.has [] (.bool true) .bool=true by first|rfl|decide|simp[WShape.has,WShape.arms,WShape.armsAll])
  (show (WTm.eq .res (.lit (.bool true))).value [] {args:=args,res:=some (.bool true),after:=args}=some (.bool (true==true)) from w_eq_bool (w_res rfl) w_lit) rfl
theorem attach_call {l:OpenLaw}{q:XF}{d:DefRec}(hn:l.most=some n)(Qd:d.params.defaults=[])(call:∀(w:Zu) (s₀ s₁:WN) (mg mb:Str->Option WB) (fa:WT) (o:Obj) (pm cd n9:WB) (a:WT) (vs:List WB) (ns:List Int),
   Ground q loose [] XP w s₀ mg mb s₁.heap->YP w s₁.heap->
   s₁.heap.get? fa=some o->o.data=.func (docDef d.name d.params d.body d.scope pm cd n9)->s₁.heap.CodeRec cd d.name->mg d.name=some (.ref fa)->
   s₁.heap.get? a=some {cls:=.type "list",data:=.seq vs.toArray}->YJ vs ns->ns.length<=n->s₁.gens=#[]->
   codeAny (W7 l.prog w) callerA (.call (.ref fa) ⟨[.ref a],[]⟩) (λr s'=>r=.ok (.ret (.bool true))/\OldK s₁.heap s'.heap/\s'.os=s₁.os/\AllBare s'.gens) s₁) :
  WalkO q loose XP YP l.row.toRowW d [] (λf vs=>PySem.call f vs):=by
 intro w s₀ s₁ mg mb G Y fa o pm cd n9 dV kV ho hd tW hD Qe hg args MS as Ja Va Wb S3 Wc;obtain rfl:dV=.none:=Dflts.none hD Qd;obtain rfl:kV=.none:=Dflts.noKw hD;obtain⟨a,vs,ns,rfl,rfl,MT,GN,df⟩:=Cy hn Ja S3;refine enter_call (abq (call w s₀ s₁ mg mb fa o pm cd n9 a vs ns G Y ho (fd_plain hd) tW Qe MT GN df hg) λr s' hq=>?_);obtain⟨rfl,h2,h3,h4⟩:=hq;exact⟨.inl ⟨.bool true,.bool true,[],rfl,λ_=>rfl,.bool true,Cz l _,λ_=>⟨List.Pairwise.nil,λ_ hm=>(nomatch hm)⟩⟩,h2,h3,h4⟩
end Att
namespace L2
theorem oj:∀{vs:List WB} {ns:List Int},YJ vs ns->a9 (ns.map V.int) vs
 |_,_,.nil=>.nil
 |_,_,.cons n t h=>.cons ⟨t,rfl⟩ (oj h)
def Hx (H:Hp):Prop:=∀b,H b=none\/∃o xs,H b=some (.frz o (.lst xs))
theorem Eg {P:XF}{mb:Str->Option WB}{fa:WT}{s₁:WN}{vs:List WB}(KX:K.In s₁.heap)(Ul:s₁.heap.Ns Xn mg)(hb:s₁.heap.Ns builtinsNs mb)(Vb:∀x:Str,x≠"__name__"->mb x=XG x)(S4:s₁.heap.NoLimit)(hg:s₁.gens=#[])(ha:s₁.heap.get? a=some {cls:=.type "list",data:=.seq vs.toArray})(hi:YJ vs ns)(hl:ns.length<=WE)(hr:fB k callerA)(F:∀base:Y8,K.In base->base.Ns Xn mg->lJ P w K mg base CX k fa fd [x] sp)(Qf:∀(s:WN) (u:WB),BindsTo s fd ⟨[u],[]⟩ [(x,u)])(Kx:∀H:Hp,Hx H->f7 K H a (ns.map V.int)->sp [.ref a] H (λv _=>v=.bl true) λ_ _ _=>False)(S5:∀H e s',CX [] H s₁ (λ_ _ _=>False) e s'->False) :
  codeAny (W7 P w) callerA (.call (.ref fa) ⟨[.ref a],[]⟩) (λr s'=>r=.ok (.ret (.bool true))/\OldK s₁.heap s'.heap/\s'.os=s₁.os/\AllBare s'.gens) s₁:=by
 have rv:=oj hi;have S6:=hi.length;have Qg:∀H:Hp,Hx H->f7 K H a (ns.map V.int)->lH P w H s₁.heap->(∀b,H b≠none->b=a)->(H a≠none->K.lookup a=none)->
   codeAny (W7 P w) callerA (.call (.ref fa) ⟨[.ref a],[]⟩) (λr s'=>r=.ok (.ret (.bool true))/\OldK s₁.heap s'.heap/\s'.os=s₁.os/\AllBare s'.gens) s₁:=by
  intro H hO hS hok hA hK;have Cf:∀{b:WT} {o:Obj},s₁.heap.get? b=some o->H b=none->(vL s₁.heap H).get? b=some o:=λe n=>DM e n;have Qb:∀{b:WT} {o:Obj} {es:Array DictEntry} {ep:Nat},s₁.heap.get? b=some o->o.data=.dict es ep->H b=none:=λ{b o es ep} e d=>by
   cases q:H b with
   |none=>rfl
   |some u=>
    have e':b=a:=hA b (by rw[q];simp);subst e';rw[ha] at e;cases e;have d':Data.seq vs.toArray _=Data.dict es ep:=d;cases d'
  have QX:∀{b:WT} {m:Str->Option WB},s₁.heap.Ns b m->(vL s₁.heap H).Ns b m:=λ{b m} ⟨o,es,ep,e,d,r⟩=>⟨o,es,ep,Cf e (Qb e d),d,r⟩;have Um:K.In (vL s₁.heap H):=λb o e=>Cf (KX b o e) (by
   cases q:H b with
   |none=>rfl
   |some u=>
    have e':b=a:=hA b (by rw[q];simp);subst e';rw[hK (by rw[q];simp)] at e;cases e)
  have hM:Mod K mg (vL s₁.heap H):=⟨Um,QX Ul,⟨mb,QX hb,Vb⟩,let ⟨mc,h1,h2⟩:=S4;⟨mc,QX h1,h2⟩⟩;have e0:Hn P w K mg (vL s₁.heap H) callerA [] s₁ H:=⟨rfl,hM,λb o e=>G_ e,Nat.le_of_eq (Cp _ _),trivial,λb hb=>absurd (show b∈([]:List WT) from hb) (by simp),hok,.of_eq hg⟩;refine abq ((F _ Um (QX Ul)).run callerA [] s₁ H ⟨[.ref a],[]⟩ [.ref a] [.ref a] _ _ hr e0 (Qf s₁ (.ref a)) (.cons rfl .nil) (Kx H hO hS)) λr s' h=>?_;cases r with
  |error e=>exact (S5 H e s' h).elim
  |ok fl=>
   cases fl with
   |next=>exact ZP h
   |brk=>exact ZP h
   |cont=>exact ZP h
   |ret u=>
    obtain⟨v,H',os,bare,un,hok',r',q⟩:=h;have q':v=.bl true:=q;subst q';obtain rfl:u=Value.bool true:=r';refine⟨rfl,OldK.of_keep λb o e=>?_,os,bare⟩;cases q:H b with
    |none=>exact un.keep b o e q (by intro z;exact absurd (show b∈([]:List WT) from z) (by simp)) (by simp)
    |some u=>
     rcases hO b with z|⟨ob,xs,z⟩
     ·rw[q] at z;cases z
     ·have z2:=un.frzs b ob _ z;obtain⟨e1,_⟩:=hok b _ z;obtain⟨e2,_⟩:=hok' b _ z2;rw[e] at e1;cases e1;exact e2
 cases hk:K.lookup a with
 |some o=>
  have e:=KX a o hk;rw[ha] at e;cases e;refine Qg (λ_=>none) (λ_=>.inl rfl) (.inr ⟨_,vs.toArray,_,hk,rfl,rfl,rfl,by rw[Wy,S6];exact hl,by simpa using rv⟩) (λb u z=>by have z':(none:Option HO)=some u:=z;cases z') (λb z=>absurd rfl z) λz=>absurd rfl z
 |none=>
  refine Qg (λb=>if b=a then some (.frz {cls:=.type "list",data:=.seq vs.toArray} (.lst (ns.map V.int))) else none) (λb=>?_) (.inl (.inr ⟨{cls:=.type "list",data:=.seq vs.toArray},hV rfl⟩)) (λb u z=>?_) (λb z=>?_) λ_=>hk
  ·by_cases hb:b=a
   ·exact .inr ⟨_,_,hV hb⟩
   ·exact .inl (hU hb)
  ·by_cases hb:b=a
   ·have z':=(hV hb).symm.trans z;cases z';subst hb;exact⟨ha,by rw[WC];exact hl,vs,_,rv,ha⟩
   ·have z':=(hU hb).symm.trans z;cases z'
  ·by_cases hb:b=a
   ·exact hb
   ·exact absurd (hU hb) z
end L2
namespace L2
theorem walk_of {l:PySem.W.OpenLaw}{q:XF}{d:DefRec}{K:Params->Wv}{CX:Zu->CXT}{sp:Zu->Sp}(hn:l.most=some n)(KA:n<=WE)(Qd:d.params.defaults=[])(hr:fB k callerA)(hY:∀(w:Zu) (h:Y8),YP w h->(K w.params).In h)(F:∀(w:Zu) (mg:Str->Option WB) (fa:WT) (h:Y8),(K w.params).In h->h.Ns Xn mg->mg d.name=some (.ref fa)->
   ∃fd:aaX,(∀(s:WN) (u:WB),BindsTo s fd ⟨[u],[]⟩ [(x,u)])/\
    ∀base:Y8,(K w.params).In base->base.Ns Xn mg->lJ l.prog w (K w.params) mg base (CX w) k fa fd [x] (sp w))(Kx:∀(w:Zu) (H:Hp) (a:WT) (ns:List Int),ns.length<=n->Hx H->f7 (K w.params) H a (ns.map V.int)->sp w [.ref a] H (λv _=>v=.bl true) λ_ _ _=>False)(S5:∀(w:Zu) (H:Hp) (s:WN) (e:WB) (s':WN),CX w [] H s (λ_ _ _=>False) e s'->False) :
  PySem.W.WalkO q loose XP YP l.row.toRowW d [] (λf vs=>PySem.call f vs):=by
 refine Att.attach_call hn Qd λw s₀ s₁ mg mb fa o pm cd n9 a vs ns G Y ho hd tW Qe MT GN df hg=>?_;have KX:=hY w _ Y;obtain⟨fd,hb,hF⟩:=F w mg fa _ KX G.T.g Qe;exact Eg KX G.T.g G.T.b G.T.builtins G.T.nolimit hg MT GN (Xz df KA) hr hF hb (λH hO hS=>Kx w H a ns df hO hS) λH e s'=>S5 w H s₁ e s'
end L2
namespace L2
noncomputable def fD (s:aak):Arguments:=match s with
 | .FunctionDef _ a _ _ _ _ _ _ _ _=>a
 |_=>{posonlyargs:=[],args:=[],vararg:=none,kwonlyargs:=[],kw_defaults:=[],kwarg:=none,defaults:=[]}
noncomputable def cx (s:aak):List aak:=match s with
 | .FunctionDef _ _ b _ _ _ _ _ _ _=>b
 |_=>[]
noncomputable def aq (s:aak):abC:=match s with
 | .FunctionDef _ _ _ _ _ _ sc _ _ _=>sc
 |_=>{kind:=.function,names:=[],isGenerator:=false,isCoroutine:=false}
abbrev xx:CXT:=λ_ _ _ _ _ _=>False
abbrev E0:XK:=λ_ _ _=>False
theorem NY:zq xx X E0:=λ_ _ _ _ _ _ _ h=>h.elim
structure G3 (K:Wv)(x qual:Str)(st:aak)(f:WT)(fd:aaX):Prop where
 ex:∃(oc:WB) (od:Option WT) (kV n9 pm:WB) (an:Option WT) (cP ct:WB) (Kw:Array (Option WB)),
  fd=Yp x qual (fD st) (cx st) (aq st) .none kV n9 pm an cP ct/\K.lookup f=some ⟨oc,od,.func fd,Kw⟩/\abE K cP qual=true
 kp:Zw K (.ref f)=true
section
variable {P:XF}{base:Y8}
theorem G3.ok (F:G3 K x qual st f fd)(S:aR N ps (aq st))(len:∀vs H Q E,sp vs H Q E->vs.length=ps.length)(i0:∀(cP:WB) (A:Xh) (outer:List Env) (s:WN) (H:Hp) (vs:List V) (Q:VK) (E:XK),fB k (A.deeper (abt qual (aq st) s.heap.objs.size f cP))->sp vs H Q E->
   ∃t,ud (p7 xx P w K mg base N qual (aq st) f cP A outer s H E).nox (cx st) t/\t {nx:=λ_ H'=>Q .non H',rt:=Q} (aaj N vs) H):lJ P w K mg base xx (k+1) f fd ps sp:=by
 obtain⟨oc,od,kV,n9,pm,an,cP,ct,Kw,rfl,lk,tW⟩:=F.ex;refine NN lk tW S len λA outer s H vs Q E hr Kx=>?_;obtain⟨t,h,q⟩:=i0 cP A outer s H vs Q E hr Kx;exact⟨t,h.nox,q⟩
theorem G3.binds (F:G3 K x qual st f fd)(h:∀(kV n9 pm:WB) (an:Option WT) (cP ct:WB) (us:List WB),us.length=ps.length->bindArgs (Yp x qual (fD st) (cx st) (aq st) .none kV n9 pm an cP ct) ⟨us,[]⟩=pure (ps.zip us)):uI K fd ps []:=by
 obtain⟨oc,od,kV,n9,pm,an,cP,ct,Kw,rfl,lk,tW⟩:=F.ex;exact .all (h kV n9 pm an cP ct)
theorem Eh {oc:WB}{od an:Option WT}{Kw:Array (Option WB)}{kV n9 pm cP ct:WB}(l:K.lookup f=some ⟨oc,od,.func (Yp x qual (fD st) (cx st) (aq st) .none kV n9 pm an cP ct),Kw⟩)(c:abE K cP qual=true)(k:Zw K (.ref f)=true):G3 K x qual st f (Yp x qual (fD st) (cx st) (aq st) .none kV n9 pm an cP ct):=⟨⟨oc,od,kV,n9,pm,an,cP,ct,Kw,rfl,l,c⟩,k⟩
end
theorem bV {A:Xh}(hr:fB k A):A.units+1<Yy:=aao (Nat.add_le_add_left (by decide:1<=64) _) hr.units
def aY (H H':Hp):Prop:=∀b o,H b=some o->H' b=some o
theorem aY.refl (H:Hp):aY H H:=λ_ _ h=>h
theorem aY.trans (a:aY H H1)(b:aY H1 H2):aY H H2:=λc o h=>b c o (a c o h)
theorem aY.seq (e:aY H H')(h:f7 K H a xs):f7 K H' a xs:=by
 rcases h with (h|⟨o,h⟩)|h
 ·exact .inl (.inl (e _ _ h))
 ·exact .inl (.inr ⟨o,e _ _ h⟩)
 ·exact .inr h
end L2
namespace L2
section
variable {κ:Type}[DecidableEq κ]
noncomputable def qV (cC:List (κ×V))(k:κ):Option V:=(cC.find? λkv=>decide (kv.1=k)).map (·.2)
theorem qW {p:κ×V}{r:List (κ×V)}{k:κ}(e:p.1=k):qV (p::r) k=some p.2:=by simp[qV,X8,e]
theorem qX {p:κ×V}{r:List (κ×V)}{k:κ}(e:¬p.1=k):qV (p::r) k=qV r k:=by simp[qV,X8,e]
theorem p0.isSome_eq {o:Option V}{u:Option WB}(r:p0 o u):o.isSome=u.isSome:=by
 cases o with
 |none=>cases u with
  |none=>rfl
  |some _=>exact (show False from r).elim
 |some _=>cases u with
  |none=>exact (show False from r).elim
  |some _=>rfl
theorem KV.val {cC:List (κ×V)}{vs:List (κ×WB)}(r:KV cC vs)(k:κ):p0 (qV cC k) (valueAt vs k):=by
 unfold KV at r
 induction r with
 |nil=>exact True.intro
 | @cons p q ps qs h t ih=>
  obtain⟨h1,h2⟩:=h;by_cases e:p.1=k
  ·have e':q.1=k:=h1.symm.trans e;have b:valueAt (q::qs) k=some q.2:=by simp[valueAt,X8,e']
   rw[qW e,b];exact h2
  ·have e':¬q.1=k:=λz=>e (h1.trans z);have b:valueAt (q::qs) k=valueAt qs k:=by simp[valueAt,X8,e']
   rw[qX e,b];exact ih
end
theorem Jl {P:XF}{k:j2}{u:WB}(r:bu (kV k) u):(fA P w).is k u=true:=by
 cases k with
 |inl i=>obtain⟨t,e⟩:=(show ∃t,u=Value.int i t from r);subst e;exact xp P w i t
 |inr x=>obtain⟨t,e⟩:=(show ∃t,u=Value.str x t from r);subst e;exact xq P w x t
theorem uO {P:XF}{w:Zu}:∀{ks:List j2} {us:List WB},a9 (ks.map kV) us->ItemsAre (fA P w) ks us
 | [],_,r=>by rw[Yg] at r;cases r;exact .nil
 |k::ks,_,r=>by
  rw[WQ] at r;cases r with
  |cons h t=>exact .cons (Jl h) (uO t)
abbrev KT (H:Hp):List (List j2×V)->List (List j2×WT×WB)->Prop:=abk λp q=>p.1=q.1/\H q.2.1=some (.tup (p.1.map kV))/\bu p.2 q.2.2
theorem KT.val {cC:List (List j2×V)}{xs:List (List j2×WT×WB)}(r:KT H cC xs)(k:List j2):p0 (qV cC k) ((abP xs k).map (·.2)):=by
 induction r with
 |nil=>exact True.intro
 | @cons p q ps qs h t ih=>
  obtain⟨h1,_,h2⟩:=h;by_cases e:p.1=k
  ·have e':q.1=k:=h1.symm.trans e;have b:abP (q::qs) k=some q.2:=by simp[abP,X8,e']
   rw[qW e,b];exact h2
  ·have e':¬q.1=k:=λz=>e (h1.trans z);have b:abP (q::qs) k=abP qs k:=by simp[abP,X8,e']
   rw[qX e,b];exact ih
section
variable {P:XF}
theorem Jm {u:HO}(ok:lH P w H h)(e:Rd H a u):dU P w H h a u:=e.ok ok
theorem Ei {cC:List (j2×V)}(ok:lH P w H h)(e:Rd H a (.dK cC)):cC.length<=WE/\(a==YN)=false/\∃vs,KV cC vs/\h.DictOf (fA P w) a vs:=
 show dU P w H h a (.dK cC) from Jm ok e
theorem Ej {ks:List j2}(ok:lH P w H h)(e:H a=some (.tup (ks.map kV))):(tupleKind (fA P w)).is h ks a:=by
 obtain⟨_,its,r,⟨o,h1,h2,n,h3⟩,_⟩:=(show dU P w H h a (.tup (ks.map kV)) from ok a _ e);exact⟨o,its.toArray,n,h1,h2,h3,by simpa using uO r⟩
theorem Ek {cC:List (List j2×V)}(ok:lH P w H h)(e:Rd H a (.dT cC)):cC.length<=WE/\(a==YN)=false/\
  ∃xs,KT H cC xs/\h.DictOfH (tupleKind (fA P w)) a xs:=by
 obtain⟨z,y,xs,r,o,es,ep,h1,h2,h3,h4,h5⟩:=(show dU P w H h a (.dT cC) from Jm ok e);refine⟨z,y,xs,r,o,es,ep,h1,h2,h3,h4,λx hx=>?_,h5⟩;have all:∀{l:List (List j2×V)} {m:List (List j2×WT×WB)},KT H l m->∀x∈m,(tupleKind (fA P w)).is h x.1 x.2.1:=by
  intro l m q
  induction q with
  |nil=>intro x hx;exact nomatch hx
  | @cons p q ps qs hq t ih=>
   intro x hx;rcases WK.mp hx with e|hx
   ·subst e;exact Ej ok (by rw[←hq.1];exact hq.2.1)
   ·exact ih x hx
 exact all r x hx
end
def Ln (H:Hp)(a:WT)(y:V)(r:Option V):Prop:=
 (∃cC k,Rd H a (.dK cC)/\y=kV k/\r=qV cC k)\/∃cC k b,Rd H a (.dT cC)/\y=.ref b/\H b=some (.tup (k.map kV))/\r=qV cC k
section
variable {u r:WB}{o:Option V}{A:Xh}
theorem aN.big (I:aN X pins σ H s):YN<s.heap.objs.size:=by
 have h:Xn<s.heap.objs.size:=(I.mod.glob.keeps I.bk).lt;exact Nat.lt_trans (by decide) h
theorem CA (hu:A.units+1<Yy)(I:aN X pins σ H s)(g:Ln H a y (some v))(ry:bu y u)(h:∀w' s',aN X pins σ H s'->bu v w'->Q w' s') :
  WU (W7 X.prog X.w) A (aa8 (.ref a) u) Q E s:=by
 rcases g with⟨cC,k,e,ey,l⟩|⟨cC,k,b,e,ey,eb,l⟩
 ·subst ey;obtain⟨z,hd,vs,rel,dd⟩:=Ei I.hok e;obtain⟨w',hw,AN⟩:=p0.some_of (v:=v) (o:=valueAt vs k) (by rw[l];exact rel.val k);exact wpAny_getItem_of (Jl ry) dd.mapOf hw (h w' _ (I.tok _) AN)
 ·subst ey;cases (show u=Value.ref b from ry);obtain⟨z,hd,xs,rel,dd⟩:=Ek I.hok e;obtain⟨w',hw,AN⟩:=p0.some_of (v:=v) (o:=(abP xs k).map (·.2)) (by rw[l];exact rel.val k);obtain⟨p,hp,Ck⟩:=Option.map_eq_some_iff.mp hw;refine wpAny_getItem_heap (tupleKind_room_in1 hu) (Ej I.hok eb) dd hp ?_;rw[Ck];exact h w' _ (I.tok _) AN
theorem Hy {t':Nat}{ob:HO}(I:aN X pins σ H s)(mu:Nb (H a))(hs:YD a s.heap h')(he:∃q,h'.get? a=some q)(new:dU X.prog X.w (cY H a ob) h' a ob) :
  aN X pins σ (cY H a ob) {s with heap:=h',toks:=t'}:=
 I.write (x:=a) (e:=a) mu (.inl rfl) (λb q hb z=>(hs.2 b hb).trans z) he new
end
def Lo (i:Yv):Prop:=∀ov iv,subscripted i false ov iv=operate [ov,iv] (aa8 ov iv)
theorem Hz {A:Xh}{value slice:Yv}{T id:String}(hl:typeLookup (.type T) "__getitem__"=pure (some (.builtin id)))(hs:Lo slice)(h:WU (W7 prog w) A (Z0 value env) (λo s₁=>WU (W7 prog w) A (Z0 slice env) (λi s₂=>s₂.TypeIs o T/\WU (W7 prog w) A (aa8 o i) Q E s₂) E s₁) E s) :
  WU (W7 prog w) A (Z0 (.Subscript value slice pos) env) Q E s:=by
 refine Subscript_ (XQ h (λo s₁ h₁=>XQ h₁ (λi s₂ h₂=>?_) λ_ _ x=>x) λ_ _ x=>x);obtain⟨hT,h₂⟩:=h₂;unfold subscriptTail;refine Wq ?_;rw[getitemInPython_of_ne hT.not_modules];refine Wq (ZE hT hl ?_);have fin:WU (W7 prog w) A (subscripted slice false o i) (λr s₃=>WU (W7 prog w) A (letTemporaryGo value o r >>= λ_=>pure r) Q E s₃) E s₂:=by
  rw[hs o i];exact wpAny_operating (XQ h₂ (λr s₃ h₃=>Wq (wpAny_letTemporaryGo (Wt h₃))) λ_ _ x=>x)
 first
  |exact Wt (Wq fin)
  |exact Wq (Wt (Wq fin))
  |exact Wq fin
theorem xy {o:Option V}(I:aN X pins σ H s)(g:Ln H a y o):s.TypeIs (.ref a) "dict":=by
 rcases g with⟨cC,k,e,_,_⟩|⟨cC,k,b,e,_,_,_⟩
 ·obtain⟨_,_,vs,_,dd⟩:=Ei I.hok e;exact dd.typeIs
 ·obtain⟨_,_,xs,_,dd⟩:=Ek I.hok e;exact dd.typeIs
theorem El {P:XF}(h:Y8)(hb:YN<h.objs.size):dU P w H (h.push {cls:=.type "dict",data:=.dict #[]}) h.objs.size (.dK []):=
 ⟨XU _,beq_eq_false_iff_ne.mpr (Ne.symm (W6 hb)),[],.nil,Heap.DictOf.new h⟩
def Lp:TE:=λ_ H Q=>∀p,H p=none->Q (.ref p) (cY H p (.dK []))
theorem xA:PE X (.Dict [] [] pos) Lp:=λpins s σ H Q I h=>
 wpAny_Dict_empty ⟨.ref s.heap.objs.size,_,I.laid (a:=s.heap.objs.size) (o:=.dK []) (t':=s.toks) (λ_ _ q=>Ws _ q) (WI _) (El s.heap I.big),rfl,h _ (I.hok.fresh (WI _))⟩
structure M1 (X:Cx)(o:Yv)(m:Str)(gR:Pos)(e:Yv)(cpos:Pos):Prop where
 base:aan o m X.env (Z0 o X.env)=Z0 o X.env
 few:((Zc cpos (WY [e] X.env)).all (λx=> !x.1)&&(backToKw cpos (aa9 [] X.env)).all (λx=>x.1.isSome)
  && decide (([e]:List Yv).length+([]:List aaR).length+(if ([]:List aaR).isEmpty then 0 else 1)<30))=true
 line:(gR.endLine==cpos.line)=true
 trees:Zc cpos (WY [e] X.env)=[(false,Z0 e X.env)]
structure M2 (X:Cx)(o:Yv)(m:Str)(gR:Pos)(e f:Yv)(cpos:Pos):Prop where
 base:aan o m X.env (Z0 o X.env)=Z0 o X.env
 few:((Zc cpos (WY [e,f] X.env)).all (λx=> !x.1)&&(backToKw cpos (aa9 [] X.env)).all (λx=>x.1.isSome)
  && decide (([e,f]:List Yv).length+([]:List aaR).length+(if ([]:List aaR).isEmpty then 0 else 1)<30))=true
 line:(gR.endLine==cpos.line)=true
 trees:Zc cpos (WY [e,f] X.env)=[(false,Z0 e X.env),(false,Z0 f X.env)]
def TR (H:Hp)(a:WT):Prop:=(∃cC,Rd H a (.dK cC))\/∃cC,Rd H a (.dT cC)
theorem Lq (I:aN X pins σ H s)(d:TR H a) :
  s.TypeIs (.ref a) "dict"/\(∀b,Value.ref a=.ref b->∃ob,s.heap.get? b=some ob/\ob.dict=none)/\(a==YN)=false:=by
 rcases d with⟨cC,e⟩|⟨cC,e⟩
 ·obtain⟨_,hd,vs,_,dd⟩:=Ei I.hok e;refine⟨dd.typeIs,λb q=>?_,hd⟩;cases q;obtain⟨ob,_,_,h1,h2,_⟩:=dd;exact⟨ob,h1,h2.2.1⟩
 ·obtain⟨_,hd,xs,_,dd⟩:=Ek I.hok e;refine⟨dd.typeIs,λb q=>?_,hd⟩;cases q;obtain⟨ob,_,_,h1,h2,_⟩:=dd;exact⟨ob,h1,h2.2.1⟩
end L2
namespace L2
end L2
namespace L2
theorem zw (hf:∀x,(x,NameKind.free)∈scope.names->∃c,env.cells.lookup x=some c) :
  ∃cl:List (Str×WT),closureFor scope env=pure cl/\(∀x c,cl.lookup x=some c->env.cells.lookup x=some c)/\∀x,(x,NameKind.free)∈scope.names->∃c,cl.lookup x=some c:=by
 have gen:∀(names:List (Str×abV)) (cs:List (Str×WT)),(∀x,(x,NameKind.free)∈names->∃c,env.cells.lookup x=some c)->(∀x c,cs.lookup x=some c->env.cells.lookup x=some c)->
   ∃cl:List (Str×WT),(forIn names cs λ(x:Str×abV) (r:List (Str×WT))=>(match x with|(name,kind)=>if (kind==NameKind.free)=true then (do let a ←cellOf env name;pure (ForInStep.yield ((name,a)::r))) else pure (ForInStep.yield r):Sem (ForInStep (List (Str×WT)))))=(pure cl:Sem _)/\
    (∀x c,cl.lookup x=some c->env.cells.lookup x=some c)/\(∀x c,cs.lookup x=some c->∃c',cl.lookup x=some c')/\∀x,(x,NameKind.free)∈names->∃c,cl.lookup x=some c:=by
  intro names
  induction names with
  |nil=>intro cs _ h;exact⟨cs,rfl,h,λx c e=>⟨c,e⟩,λx hx=>absurd hx (by simp)⟩
  |cons p r ih=>
   intro cs hn h;obtain⟨n,k⟩:=p;by_cases hk:k=NameKind.free
   ·subst hk;obtain⟨c,hc⟩:=hn n Wz;have h':∀x c',((n,c)::cs).lookup x=some c'->env.cells.lookup x=some c':=λx c' e=>by
     rw[Yq] at e;by_cases hx:x==n
     ·rw[hx] at e;have:x=n:=by simpa using hx
      subst this;cases e;exact hc
     ·rw[ZS.mpr hx] at e;exact h x c' e
    obtain⟨cl,e1,e2,e3,e4⟩:=ih ((n,c)::cs) (λx hx=>hn x (WD _ hx)) h';refine⟨cl,?_,e2,λx c' e=>?_,λx hx=>?_⟩
    ·rw[aap];have:cellOf env n=pure c:=by unfold cellOf;rw[hc]
     simp only[beq_self_eq_true,if_true,this];exact e1
    ·by_cases hx:x=n
     ·subst hx;exact e3 x c (by rw[Yq];simp)
     ·exact e3 x c' (by rw[Yq,show (x==n)=false from by simpa using hx];exact e)
    ·rcases WK.mp hx with e|hx
     ·cases e;exact e3 n c (by rw[Yq];simp)
     ·exact e4 x hx
   ·obtain⟨cl,e1,e2,e3,e4⟩:=ih cs (λx hx=>hn x (WD _ hx)) h;refine⟨cl,?_,e2,e3,λx hx=>?_⟩
    ·rw[aap];have:(k==NameKind.free)=false:=by simpa using hk
     simp only[this,W9,if_false];exact e1
    ·rcases WK.mp hx with e|hx
     ·cases e;exact absurd rfl hk
     ·exact e4 x hx
 obtain⟨cl,e1,e2,_,e4⟩:=gen scope.names [] hf (λx c e=>by simp at e);refine⟨cl,?_,e2,e4⟩;unfold closureFor;exact (congrArg (λm=>m >>= λr=>pure r) e1).trans rfl
structure p9 where
 C:WT
 s:WN
 H:Hp
 fp:List WT
 pins:List (WT×Obj)
 cl:List (Str×WT)
noncomputable abbrev dX (X:Cx)(scope:abC)(N:List Str)(Y:p9):Cx where
 prog:=X.prog
 w:=X.w
 K:=X.K
 mg:=X.mg
 base:=X.base
 A:=X.A
 N:=N
 s₀:=Y.s
 H₀:=Y.H
 env:=compEnvC scope Y.cl Y.C X.env
 outer:=X.stack
 stack:=X.stack
 ex:=Y.fp
 fn:=λ_=>false
 calm:=X.calm
 pn:=X.pn++Y.pins
 xe:=λ_ _=>False
noncomputable def qY (ke:abC)(NX:List Str)(scope:abC)(N:List Str)(js:List (Option Nat)):Bool:=
 decide (scope.kind=.function)&&scope.names.all (λy=>decide (y.2≠.cell))&&scope.names.all (λy=>decide (y.2=.local->scope.names.lookup y.1=some .local))&&decide (js.length=N.length) &&
 (js.zip N).all (λp=>match p.1 with|none=>true|some j=>decide (NX[j]? = some p.2)&&decide (scope.names.lookup p.2=some .free)) &&
 scope.names.all (λy=>decide (y.2=.free->ke.names.lookup y.1=some .cell\/ke.names.lookup y.1=some .free))
structure mM (ke:abC)(NX:List Str)(scope:abC)(N:List Str)(js:List (Option Nat)):Prop where
 kind:scope.kind=.function
 nocell:∀y∈scope.names,y.2≠.cell
 loc:∀y∈scope.names,y.2=.local->scope.names.lookup y.1=some .local
 len:js.length=N.length
 cap:∀(i j:Nat) (x:Str),js[i]? = some (some j)->N[i]? = some x->NX[j]? = some x/\scope.names.lookup x=some .free
 free:∀x,(x,NameKind.free)∈scope.names->ke.names.lookup x=some .cell\/ke.names.lookup x=some .free
theorem qY.to {ke:abC}{NX:List Str}(h:qY ke NX scope N js=true):mM ke NX scope N js:=by
 unfold qY at h;simp only[WX] at h;obtain⟨⟨⟨⟨⟨h1,h2⟩,h3⟩,h4⟩,h5⟩,h6⟩:=h;refine⟨of_decide_eq_true h1,λy hy=>of_decide_eq_true (WR.mp h2 y hy),λy hy=>of_decide_eq_true (WR.mp h3 y hy),of_decide_eq_true h4,λi j x e1 e2=>?_,λx hx=>of_decide_eq_true (WR.mp h6 (x,NameKind.free) hx) rfl⟩;have hz:(js.zip N)[i]? = some (some j,x):=by
  rw[List.getElem?_zip_eq_some];exact⟨e1,e2⟩
 have q:=WR.mp h5 _ (Xw hz);simp only[WX] at q;exact⟨of_decide_eq_true q.1,of_decide_eq_true q.2⟩
noncomputable def uP (js:List (Option Nat))(σ:St):St:=js.map λo=>match o with
 |none=>none
 |some j=>match σ[j]? with
  |some v=>v
  |none=>none
theorem mN (vI:∀y∈scope.names,y.2≠.cell)(h:(relabel scope env).names.lookup x=some .cell\/(relabel scope env).names.lookup x=some .free):(x,NameKind.free)∈scope.names:=by
 have gen:∀k,(k=NameKind.cell\/k=NameKind.free)->(relabel scope env).names.lookup x=some k->(x,NameKind.free)∈scope.names:=λk hk e=>by
  have hm:=XH e;obtain⟨⟨n,k0⟩,hy,q⟩:=Xp.mp hm;dsimp only at q;split at q
  ·rename_i c;simp only[WX,beq_iff_eq] at c;cases q;obtain⟨⟨c1,_⟩,_⟩:=c;rw[c1] at hy;exact hy
  ·cases q;rcases hk with hk|hk
   ·exact absurd hk (vI _ hy)
   ·rw[hk] at hy;exact hy
 rcases h with h|h
 ·exact gen _ (.inl rfl) h
 ·exact gen _ (.inr rfl) h
theorem eP {env:Env}{x:Str}:∀{names:List (Str×abV)},names.lookup x=some .free->
  (names.map λ(n,k)=>if (k==NameKind.free&&env.scope.kind==.function&&env.kindOf n==some .cell) then (n,NameKind.cell) else (n,k)).lookup x=some .cell \/
  (names.map λ(n,k)=>if (k==NameKind.free&&env.scope.kind==.function&&env.kindOf n==some .cell) then (n,NameKind.cell) else (n,k)).lookup x=some .free
 | [],h=>by simp at h
 | (n,k)::r,h=>by
  rw[WQ];by_cases hx:x==n
  ·rw[Yq,hx] at h;cases h;by_cases c:(NameKind.free==NameKind.free&&env.scope.kind==.function&&env.kindOf n==some .cell)=true
   ·refine .inl ?_;show List.lookup x ((if (NameKind.free==NameKind.free&&env.scope.kind==.function&&env.kindOf n==some .cell)=true then (n,NameKind.cell) else (n,NameKind.free))::_)=_;rw[hV c,Yq,hx]
   ·refine .inr ?_;show List.lookup x ((if (NameKind.free==NameKind.free&&env.scope.kind==.function&&env.kindOf n==some .cell)=true then (n,NameKind.cell) else (n,NameKind.free))::_)=_;rw[hU c,Yq,hx]
  ·have t7:=ZS.mpr hx;rw[Yq,t7] at h;have ih:=eP (env:=env) (x:=x) (names:=r) h;have e:∀p:Str×abV,p.1=n->List.lookup x (p::(r.map λ(n,k)=>if (k==NameKind.free&&env.scope.kind==.function&&env.kindOf n==some .cell) then (n,NameKind.cell) else (n,k))) =
     List.lookup x (r.map λ(n,k)=>if (k==NameKind.free&&env.scope.kind==.function&&env.kindOf n==some .cell) then (n,NameKind.cell) else (n,k)):=λp hp=>by
    obtain⟨p1,p2⟩:=p;cases hp;rw[Yq,t7]
   rw[e _ (by dsimp only;split<;>rfl)];exact ih
def CB (X:Cx)(pZ:List Yv)(t:TT):Prop:=
 ∀(pins:List (WT×Obj)) (s:WN) (σ:St) (H:Hp) (Q:Bool->Hp->Prop),aN X pins σ H s->t σ H Q->
  WU (W7 X.prog X.w) X.A (forIn pZ true λc r=>if r=true then do let ok ←isTrue c X.env (Z0 c X.env);pure (ForInStep.yield ok) else pure (ForInStep.yield r)) (TP X pins σ Q) X.xe s
def Ry:TT:=λ_ H Q=>Q true H
theorem Em:CB X [] Ry:=λ_ _ _ H _ I h=>wpAny_tests_nil ⟨H,I,h⟩
theorem En {t:TT}(h:PT X c t):CB X [c] t:=λpins s σ H Q I q=>wpAny_tests_one (h pins s σ H Q I q)
end L2
namespace L2
theorem ko {A:Xh}{R:Result->WN->Prop}{oU:Yv}{it cG:WB}(I:Nat->WN->Prop)(turn:∀n s,I n s->WU (W7 prog w) A (aaV it) (λr s₁=>match r with
   |none=>R (.ok .next) s₁
   |some v=>WU (W7 prog w) A (aa7 oU it v) (λ_ Uo=>WU (W7 prog w) A (assign oU env v) (λ_ s₂=>
     WU (W7 prog w) A (forIn pZ true λc r=>if r=true then do let ok ←isTrue c env (Z0 c env);pure (ForInStep.yield ok) else pure (ForInStep.yield r)) (λok s₃=>
      if ok=true then WU (W7 prog w) A (Z0 elt env) (λx s₄=>
       WU (W7 prog w) A (call (.builtin "list.append") [cG,x]) (λ_ s₅=>∃m,m<n/\I m s₅) (λ_ _=>False) s₄) (λ_ _=>False) s₃
      else ∃m,m<n/\I m s₃) (λ_ _=>False) s₂) (λ_ _=>False) Uo) (λ_ _=>False) s₁) (λ_ _=>False) s)(n:Nat)(h:I n s) :
  codeAny (W7 prog w) A (.compLoop (.ListComp elt [⟨oU,iter,pZ,0⟩] scope pos) 0 it cG env) R s:=by
 refine codeAny_loop rfl I (λn s hI=>?_) n h;show WU _ A ((compTurn (.ListComp elt [⟨oU,iter,pZ,0⟩] scope pos) 0 it cG env).onRaise (λx=>do noteFrame x env;theTreesLotGoes x)) _ _ s;refine wpAny_noted ?_;rw[compTurn_list];have fe:∀{e:WB} {s':WN} {Z:Prop},(λ(_:WB) (_:WN)=>False) e s'->Z:=λh=>h.elim;refine Wq (wpAny_standAt (Wq (XQ (turn n s hI) (λr s₁ h₁=>?_) λ_ _ h'=>h'.elim)));cases r with
 |none=>exact Wt h₁
 |some v=>
  refine Wq (XQ h₁ (λ_ Uo Vc=>?_) λ_ _ h'=>h'.elim);refine Wq (XQ Vc (λ_ s₂ h₂=>Wq (XQ h₂ (λok s₃ h₃=>?_) λ_ _ h'=>h'.elim)) λ_ _ h'=>h'.elim);cases ok with
  |false=>exact Wt ⟨rfl,h₃⟩
  |true=>
   exact Wq (Wq (XQ h₃ (λx s₄ h₄=>Wq (XQ h₄ (λ_ s₅ h₅=>Wt (Wt ⟨rfl,h₅⟩)) λ_ _ h'=>h'.elim)) λ_ _ h'=>h'.elim))
def NZ (J:It)(js:List (Option Nat))(g:p9->TG)(tt:p9->TT)(te:p9->TE)(σ:St)(H1:Hp)(P:List V->Hp->Prop):Prop:=
 ∀Y:p9,∃W:Nat->Nat->List V->Hp->Prop,(∃m,W 0 m [] H1)/\∀i m ys H2,W i m ys H2->
  (J.stop i H2/\P ys H2) \/
  (J.go i H2/\ys.length<WE/\∃Nx:List V->Hp->Prop,(∀KJ H',Nx KJ H'->∃m',m'<m/\W (i+1) m' KJ H')/\∀x H3,J.yld i H2 x H3->g Y x (uP js σ) H3 λσ4 H4=>tt Y σ4 H4 λb H5=>
   if b=true then te Y σ4 H5 λy H6=>Nx (ys++[y]) H6 else Nx ys H5)
def QF (wi:TI)(js:List (Option Nat))(g:p9->TG)(tt:p9->TT)(te:p9->TE):TE:=λσ H Q=>wi σ H λJ H1=>
 NZ J js g tt te σ H1 λys H2=>∀p,H2 p=none->Q (.ref p) (cY H2 p (.lst ys))
theorem qZ {E:WB->WN->Prop}{s2:WN}{ke:abC}{g:p9->TG}{tt:p9->TT}{te:p9->TE}{J:It}{tn:Nat->Y8->Prop}{P:List V->Hp->Prop}{cl:List (Str×WT)}{RR:WB->WT->Result->WN->Prop}(I:aN X pins σ H s2)(hc:X.calm=true)(T:Cq X.prog X.w X.K tg J fp it tn)(lG:tn 0 s2.heap)(f2:∀b∈fp,p6 X pins H b)(tY:∀Y:p9,PG (dX X scope N Y) tg (g Y)/\CB (dX X scope N Y) pZ (tt Y)/\PE (dX X scope N Y) elt (te Y))(S:mM ke X.N scope N js)(kj:X.env.scope=ke)(c1:∀x c,cl.lookup x=some c->X.env.cells.lookup x=some c)(c2:∀x,(x,NameKind.free)∈scope.names->∃c,cl.lookup x=some c)(h:NZ J js g tt te σ H P)(hR:∀(cG C:WT) (ys:List V) (H':Hp) (s':WN),aN X pins σ (cY H' cG (.lst ys)) s'->(∃m,s'.heap.Ns C m)->p6 X pins (cY H' cG (.lst ys)) C->H' cG=none->P ys H'->RR (.ref cG) C (.ok .next) s') :
  WU (W7 X.prog X.w) X.A (newList []) (λcG s₃=>WU (W7 X.prog X.w) X.A (newFunctionEnv scope X.env.globals cl [] X.env.qual none .none (some X.env)) (λQh s₄=>
   codeAny (W7 X.prog X.w) X.A (.compStart (.ListComp elt [⟨tg,iter,pZ,0⟩] scope pos) 0 (.ref it) cG {Qh with scope:=relabel scope X.env}) (RR cG Qh.locals) s₄) E s₃) E s2:=by
 refine Xk (wpAny_newFunctionEnv S.nocell (by intro y hy;simp at hy) (λh₁ MU Jb=>?_) S.kind);dsimp only at MU Jb ⊢;generalize hH2:s2.heap.push {cls:=.type "list",dict:=none,data:=.seq ([]:List WB).toArray}=H2 at MU Jb ⊢;have hC:H2.objs.size=s2.heap.objs.size+1:=by rw[←hH2,X2]
 have QY:s2.heap.objs.size≠H2.objs.size:=by rw[hC];exact W6 (aaT _)
 have Jc:s2.heap.objs.size<=H2.objs.size:=by rw[hC];exact Nat.le_succ _
 have below:∀b,b<s2.heap.objs.size->b≠H2.objs.size/\b≠s2.heap.objs.size:=λb hb=>⟨by rw[hC];exact W6 (YR hb),W6 hb⟩;have old:∀b o,s2.heap.get? b=some o->h₁.get? b=some o:=λb o e=>Jb.extBut b o (below b (WO e)).1 (Ws _ (hH2▸Ws _ e));have GO:h₁.PlainList s2.heap.objs.size #[]:=⟨_,Jb.extBut _ _ QY (Ws _ (hH2▸WJ _ rfl))⟩;have S7:∀b∈fp,b<s2.heap.objs.size:=λb hb=>by
  obtain⟨o,e,_⟩:=T.obj _ _ lG b hb;exact WO e
 generalize hCg:H2.objs.size=C at *;generalize hAg:s2.heap.objs.size=cG at *
 let Y:p9:=⟨C,s2,H,fp,pins,cl⟩
 have ok:(dX X scope N Y).Ok:=by
  refine⟨I.ok.mod,S.kind,I.ok.glob,I.ok.blt,?_,λx y c e1 e2=>I.ok.inj x y c (c1 x c e1) (c1 y c e2),λx hx=>c2 x (mN S.nocell hx),λx c e=>(by cases e),I.ok.hd,I.ok.frames,.inl rfl,λb hb=>⟨?_,λx c e=>?_⟩,I.bs,Xz I.ok.bsz I.sz,λb o e hb=>?_,λb hb hf=>?_,I.stack,I.stkFree⟩
  ·show s2.heap.objs.size<=C;rw[hAg];exact Jc
  ·exact (below b (S7 b hb)).1
  ·exact (f2 b hb).2.2.2.2.1 x c (c1 x c e)
  ·rcases (f2 b hb).2.2.2.1 with z|z
   ·exact I.ok.noex b o e z
   ·exact absurd (Xe (WO (I.ok.bs b o e).1) z) (YC _)
  ·rcases WK.mp (I.stkSub b hf) with z|z
   ·exact (f2 b hb).2.1 z
   ·exact (f2 b hb).2.2.1 z
 have S8:∀x c,X.env.cells.lookup x=some c->c<cG:=λx c e=>by
  obtain⟨v,q⟩:=I.cell x c e;rw[←hAg];exact q.lt
 have KC:∀p∈X.pn++pins,p.1<cG:=λp hp=>by rw[←hAg];exact WO (I.pin p hp).1
 have Wd:X.env.locals<cG:=by rw[←hAg];exact I.lt
 have Qi:∀b∈AU X.stack,b<cG:=λb hb=>by
  obtain⟨_,o,ho,_⟩:=I.stack.mem hb;rw[←hAg];exact WO ho
 have Qj:∀p∈X.pn++pins,p.1∉AU X.stack:=λp hp hf=>by
  rcases WK.mp (I.stkSub _ hf) with z|z
  ·exact (I.pin p hp).2.2.1 z
  ·exact (I.pin p hp).2.2.2.1 z
 have Cg:H cG=none:=by rw[←hAg];exact I.hok.fresh (WI _)
 have Vd:H C=none:=I.hok.fresh (by rw[hAg];exact Jc);have I4:∀tk:Nat,aN (dX X scope N Y) [] (uP js σ) H {s2 with heap:=h₁,toks:=tk}:=λtk=>by
  refine⟨ok,rfl,I.bare,Un.kept old,⟨_,MU,λi x v e1 e2 e3=>?_⟩,λx c e=>?_,Vd,λx c e=>I.freeC x c (c1 x c e),λp hp=>?_,I.hok.kept old,?_⟩
  ·
   have Jd:(uP js σ)[i]? = some (some v):=e2;unfold uP at Jd;rw[Xc] at Jd;cases hj:js[i]? with
   |none=>rw[hj] at Jd;cases Jd
   |some o=>
    rw[hj] at Jd;cases o with
    |none=>cases Jd
    |some j=>
     have e4:(match σ[j]? with|some v=>v|none=>none)=some v:=W0 Jd;obtain⟨nx,fr⟩:=S.cap i j x hj e1;have e5:σ[j]? = some (some v):=by
      cases q:σ[j]? with
      |none=>rw[q] at e4;cases e4
      |some z=>rw[q] at e4;rw[show z=some v from e4]
     obtain⟨m,hn,hl⟩:=I.loc;have kx:X.env.scope.names.lookup x=some .cell\/X.env.scope.names.lookup x=some .free:=by rw[kj];exact S.free x (XH fr)
     obtain⟨u,r,lk⟩:=hl j x v nx e5 (.inr kx);refine⟨u,r,.inr ⟨eP fr,?_⟩⟩;obtain⟨c,hcl⟩:=c2 x (XH fr);rcases lk with⟨k,_⟩|⟨k,c',e',z⟩
     ·have k':X.env.scope.names.lookup x=some .local:=k;rcases kx with q|q<;>· rw[q] at k';cases k'
     ·have:c'=c:=by
       have:=c1 x c hcl;rw[e'] at this;exact W0 this
      subst this;obtain⟨o,ho,hd⟩:=z;exact⟨c',hcl,o,old _ _ ho,hd⟩
  ·obtain⟨v,o,ho,hd⟩:=I.cell x c (c1 x c e);exact⟨v,o,old _ _ ho,hd⟩
  ·have Ci:p∈X.pn++pins:=by simpa using hp
   obtain⟨q1,q2,q3,q4,q5⟩:=I.pin p Ci;exact⟨old _ _ q1,q2,λz=>absurd (KC p Ci) (by rw[z];exact Nat.not_lt.mpr Jc),Qj p Ci,q5⟩
  ·show (uP js σ).length=N.length;unfold uP;rw[WC];exact S.len
 obtain⟨hg,ht,he⟩:=tY Y;obtain⟨W,⟨m0,w0⟩,turn⟩:=h Y;have S9:∀{H':Hp} {pl:List (WT×Obj)},H' cG=none->(∀p∈pl,p.1≠cG)->p6 (dX X scope N Y) pl H' cG:=λ{H' pl} hn hp=>by
  refine⟨hn,QY,λz=>absurd (Qi _ z) (YC _),.inr (by show s2.heap.objs.size<=cG;rw[hAg];exact WI _),λx c e=>W6 (S8 x c (c1 x c e)),λp Ci=>?_⟩;rcases WW.mp Ci with z|z
  ·exact W6 (KC p z)
  ·exact hp p z
 have S_:∀{H':Hp} {pl:List (WT×Obj)},(∀b∈fp,H' b=none)->(∀p∈pl,p.1∉fp)->∀b∈fp,p6 (dX X scope N Y) pl H' b:=λ{H' pl} hn hp b hb=>by
  refine⟨hn b hb,(below b (S7 b hb)).1,λz=>?_,.inl hb,λx c e=>(f2 b hb).2.2.2.2.1 x c (c1 x c e),λp Ci=>?_⟩
  ·rcases WK.mp (I.stkSub b z) with q|q
   ·exact (f2 b hb).2.1 q
   ·exact (f2 b hb).2.2.1 q
  ·rcases WW.mp Ci with z|z
   ·exact (f2 b hb).2.2.2.2.2 p z
   ·exact λe=>hp p z (by rw[e];exact hb)
 have Up:cG∉fp:=λz=>absurd (S7 cG z) (by intro q;rw[hAg] at *;exact YC _ q);have Ta:∀{i:Nat} {x:Str} {v:V},N[i]? = some x->(uP js σ)[i]? = some (some v)->∃u c o,bu v u/\scope.names.lookup x=some .free/\cl.lookup x=some c/\s2.heap.get? c=some o/\o.data=.cell (some u):=λ{i x v} e1 e2=>by
  unfold uP at e2;rw[Xc] at e2;cases hj:js[i]? with
  |none=>rw[hj] at e2;cases e2
  |some o=>
   rw[hj] at e2;cases o with
   |none=>cases e2
   |some j=>
    have e4:(match σ[j]? with|some v=>v|none=>none)=some v:=W0 e2;obtain⟨nx,fr⟩:=S.cap i j x hj e1;have e5:σ[j]? = some (some v):=by
     cases q:σ[j]? with
     |none=>rw[q] at e4;cases e4
     |some z=>rw[q] at e4;rw[show z=some v from e4]
    obtain⟨m,hn,hl⟩:=I.loc;have kx:X.env.scope.names.lookup x=some .cell\/X.env.scope.names.lookup x=some .free:=by rw[kj];exact S.free x (XH fr)
    obtain⟨u,r,lk⟩:=hl j x v nx e5 (.inr kx);obtain⟨c,hcl⟩:=c2 x (XH fr);rcases lk with⟨k,_⟩|⟨k,c',e',z⟩
    ·have k':X.env.scope.names.lookup x=some .local:=k;rcases kx with q|q<;>· rw[q] at k';cases k'
    ·have:c'=c:=by
      have:=c1 x c hcl;rw[e'] at this;exact W0 this
     subst this;obtain⟨o,ho,hd⟩:=z;exact⟨u,c',o,r,fr,hcl,ho,hd⟩
 have Qk:∀{pl:List (WT×Obj)} {σ':St} {H':Hp} {s':WN},aN (dX X scope N Y) pl σ' H' s'->aN (dX X scope N Y) pl (uP js σ) H' s':=λ{pl σ' H' s'} K=>by
  refine⟨K.ok,K.os,K.bare,K.base,?_,K.cell,K.free,K.freeC,K.pin,K.hok,?_⟩
  ·obtain⟨m,hn,_⟩:=K.loc;refine⟨m,hn,λi x v e1 e2 e3=>?_⟩;obtain⟨u,c,o,r,fr,hcl,ho,hd⟩:=Ta e1 e2;refine⟨u,r,.inr ⟨eP fr,c,hcl,?_⟩⟩;obtain⟨sl,q⟩:=K.base.any ho (I.freeC x c (c1 x c hcl)) λz=>(f2 c z).2.2.2.2.1 x c (c1 x c hcl) rfl;exact⟨_,q,hd⟩
  ·show (uP js σ).length=N.length;unfold uP;rw[WC];exact S.len
 have loop:∀tk:Nat,codeAny (W7 X.prog X.w) X.A (.compLoop (.ListComp elt [⟨tg,iter,pZ,0⟩] scope pos) 0 (.ref it) (.ref cG) (compEnvC scope cl C X.env)) (RR (.ref cG) C) {s2 with heap:=h₁,toks:=tk}:=by
  intro tk;refine ko (λn s'=>∃(i:Nat) (ys:List V) (its:List WB) (H':Hp),aN (dX X scope N Y) [] (uP js σ) H' s'/\tn i s'.heap/\(∀b∈fp,H' b=none)/\H' cG=none/\s'.heap.PlainList cG its.toArray/\a9 ys its/\ys.length<=WE/\W i n ys H') ?_ m0
   ⟨0,[],[],H,I4 tk,T.keep _ _ _ lG (λb hb o e=>old b o e),λb hb=>(f2 b hb).1,Cg,GO,.nil,XU _,w0⟩
  rintro n s3 ⟨i,ys,its,H3,I3,G9,fr3,na3,⟨nn,ea⟩,rv3,hz3,w3⟩;have MV:∀p∈[(cG,({cls:=.type "list",data:=.seq its.toArray nn}:Obj))],p.1∉fp:=λp hp=>by
   have e:p=(cG,({cls:=.type "list",data:=.seq its.toArray nn}:Obj)):=by simpa using hp
   rw[e];exact Up
  have Ip:aN (dX X scope N Y) [(cG,({cls:=.type "list",data:=.seq its.toArray nn}:Obj))] (uP js σ) H3 s3:=I3.pins_of λp hp=>by
   have e:p=(cG,({cls:=.type "list",data:=.seq its.toArray nn}:Obj)):=by simpa using hp
   subst e;exact⟨ea,na3,QY,λz=>absurd (Qi _ z) (YC _),λv z=>by cases z⟩
  rcases turn i n ys H3 w3 with⟨stop,p⟩|⟨go,zi,Nx,hNx,step⟩
  ·refine XQ (T.done (dX X scope N Y) rfl rfl rfl hc i _ s3 _ H3 (λ_ _=>False) Ip (S_ fr3 MV) G9 stop) (λr s4 Ve=>?_) λ_ _ z=>z;obtain⟨hr,J4⟩:=Ve;subst hr;have pa:=(J4.pin (cG,({cls:=.type "list",data:=.seq its.toArray nn}:Obj)) (WL _ Wz)).1;have u:Un (AU X.stack) fp H (cY H3 cG (.lst ys)) s2.heap s4.heap:=
    ⟨J4.base.keep,J4.base.slot,λb o e nb hx=>by rw[bo (below b (by rw[←hAg];exact WO e)).2];exact J4.base.free b o e nb hx,J4.base.there,
     λb xs e=>by rw[bo (b9 e Cg)];exact J4.base.tups b xs e,λb o w' e=>by rw[bo (b9 e Cg)];exact J4.base.frzs b o w' e,λb ps e=>by rw[bo (b9 e Cg)];exact J4.base.tbls b ps e⟩
   have hok:lH X.prog X.w (cY H3 cG (.lst ys)) s4.heap:=λb o e=>by
    by_cases hb:b=cG
    ·subst hb;rw[bT] at e;cases e;exact⟨hz3,its,nn,rv3,pa⟩
    ·rw[bo hb] at e;refine (J4.hok b o e).stay (λ_ _ _ q=>q) (λc q=>?_) λc xs q=>?_
     ·rw[bo (b9 q na3)];exact q
     ·rw[bo (b9 q na3)];exact q
   have Tb:aN X pins σ (cY H3 cG (.lst ys)) s4:=I.call' (ch:=fp) J4.os u hok J4.bare λb hb=>⟨(f2 b hb).2.2.2.1,(f2 b hb).2.1,(f2 b hb).2.2.2.2.1,(f2 b hb).2.2.2.2.2⟩;have Vf:∃m,s4.heap.Ns C m:=by obtain⟨m,hn,_⟩:=J4.loc;exact⟨m,hn⟩
   exact hR cG C ys H3 s4 Tb Vf (I.fpOk (by rw[hAg];exact Jc) (by rw[bo (Ne.symm QY)];exact J4.free)) na3 p
  ·refine XQ (T.item (dX X scope N Y) rfl rfl rfl hc i _ s3 _ H3 (λ_ _=>False) Ip (S_ fr3 MV) G9 go) (λr s4 h4=>?_) λ_ _ z=>z;obtain⟨u,hr,h4⟩:=h4;subst hr;refine XQ h4 (λ_ s5 h5=>?_) λ_ _ z=>z;obtain⟨x,H5,I5,r5,y5,st5,fr5⟩:=h5;have SY:=I5.pinned (S_ fr5 MV) (T.obj _ _ st5);refine XQ (hg _ s5 _ H5 x u _ SY r5 (step x H5 y5)) (λ_ s6 h6=>?_) λ_ _ z=>z;obtain⟨σ6,H6,I6,q6⟩:=h6;refine XQ (ht _ s6 σ6 H6 _ I6 q6) (λb s7 h7=>?_) λ_ _ z=>z;obtain⟨H7,I7,q7⟩:=h7;have Ql:∀{H8:Hp} {σ8:St} {s8:WN},aN (dX X scope N Y) ([(cG,({cls:=.type "list",data:=.seq its.toArray nn}:Obj))]++qK fp s5.heap) σ8 H8 s8->
     s8.heap.get? cG=some ({cls:=.type "list",data:=.seq its.toArray nn}:Obj)/\H8 cG=none/\(∀b∈fp,H8 b=none)/\(∀b∈fp,∀o,s5.heap.get? b=some o->s8.heap.get? b=some o):=λ{H8 σ8 s8} K=>by
    have q:=K.pin (cG,({cls:=.type "list",data:=.seq its.toArray nn}:Obj)) (WL _ (W8 _ Wz));refine⟨q.1,q.2.1,λb hb=>?_,λb hb o e=>(K.pin (b,o) (WL _ (WL _ (jO hb e)))).1⟩;obtain⟨o,e,d⟩:=T.obj _ _ st5 b hb;exact (K.pin (b,o) (WL _ (WL _ (jO hb e)))).2.1
   have GP:∀{H8:Hp} {σ8:St} {s8:WN} {pl:List (WT×Obj)},aN (dX X scope N Y) pl σ8 H8 s8->aN (dX X scope N Y) [] σ8 H8 s8:=λK=>K.pins_of λp hp=>absurd hp (by simp);cases b with
   |false=>
    rw[hU (by simp)] at q7;obtain⟨m',hm,w7⟩:=hNx _ _ q7;obtain⟨p1,p2,p3,p4⟩:=Ql I7;exact⟨m',hm,i+1,ys,its,H7,Qk (GP I7),T.keep _ _ _ st5 p4,p3,p2,⟨nn,p1⟩,rv3,hz3,w7⟩
   |true=>
    rw[hV rfl] at q7;refine XQ (he _ s7 σ6 H7 _ I7 q7) (λv s8 h8=>?_) λ_ _ z=>z;obtain⟨y,H8,I8,r8,q8⟩:=h8;obtain⟨m',hm,w8⟩:=hNx _ _ q8;obtain⟨p1,p2,p3,p4⟩:=Ql I8;refine wpAny_list_append_plain (items:=its.toArray) ⟨nn,p1⟩ (λh' Vg sb=>?_) (by rw[Wy,←rv3.length];exact hz3);obtain⟨f0,f1,f2',f3,f4,f5⟩:=S9 (H':=H8) (pl:=[]) p2 (by simp);have I9:aN (dX X scope N Y) [] σ6 H8 {s8 with heap:=h'}:=(GP I8).turned (t':=s8.toks) (λb o hb e=>(sb.2 b hb).trans e) f0 f1 f3 f4 f5;refine⟨m',hm,i+1,ys++[y],its++[v],H8,Qk I9,T.keep _ _ _ st5 (λb hb o e=>(sb.2 b (λz=>Up (z▸hb))).trans (p4 b hb o e)),p3,p2,?_,rv3.append (.cons r8 .nil),?_,w8⟩
    ·rw[show (its++[v]).toArray=its.toArray.push v from by simp];exact Vg
    ·rw[WG,ZD];exact zi
 exact codeAny_compStart_list (loop _) (T.self _ _ _ _ _ (T.keep _ _ _ lG (λb hb o e=>old b o e)) (loop _))
theorem q_ {ke:abC}(I:aN X pins σ H s)(S:mM ke X.N scope N js)(kj:X.env.scope=ke) :
  ∃cl:List (Str×WT),closureFor scope X.env=pure cl/\(∀x c,cl.lookup x=some c->X.env.cells.lookup x=some c)/\∀x,(x,NameKind.free)∈scope.names->∃c,cl.lookup x=some c:=
 zw λx hx=>I.ok.has x (by
  have:=S.free x hx;rw[←kj] at this;exact this)
theorem Jn {g:p9->TG}{tt:p9->TT}{te:p9->TE}(ke:abC)(NX N:List Str)(js:List (Option Nat))(hc:X.calm=true)(hi:PI X tg iter wi)(tY:∀Y:p9,PG (dX X scope N Y) tg (g Y)/\CB (dX X scope N Y) pZ (tt Y)/\PE (dX X scope N Y) elt (te Y))(kj:X.env.scope=ke:=by rfl)(GQ:X.N=NX:=by rfl)(hS:qY ke NX scope N js=true:=by decide+kernel)(hs:∀x,X5 iter X.env x=pure x:=by intro _;rfl):PE X (.ListComp elt [⟨tg,iter,pZ,0⟩] scope pos) (QF wi js g tt te):=by
 intro pins s σ H Q I h;have S:mM ke X.N scope N js:=by rw[GQ];exact qY.to hS
 obtain⟨cl,e1,e2,e3⟩:=q_ I S kj;rw[eval_ListComp];refine wpAny_comprehension_free (use:=none) rfl hs e1 S.kind S.loc (eE (hi pins s σ H _ I h) λv s1 h1=>eE h1 λQW s2 h2=>?_);obtain⟨it,fp,tn,J,H2,e,I2,T,lG,f2,q⟩:=h2;subst e;refine qZ (RR:=λcG C=>compPost (W7 X.prog X.w) X.A X.xe none (EP X pins σ Q) cG C) I2 hc T lG f2 tY S kj e2 e3 q ?_;intro cG C ys H' s' I' ns fC na p;obtain⟨m,hn⟩:=ns;obtain⟨f0,f1,f2',f3,f4,f5⟩:=fC;exact⟨m,hn,λh' sb=>⟨.ref cG,_,I'.turned (t':=s'.toks) (λb o hb e=>(sb.2 b hb).trans e) f0 f1 f3 f4 f5,rfl,p cG na⟩⟩
theorem xB {lT kl:Pos}{g:p9->TG}{tt:p9->TT}{te:p9->TE}(ke:abC)(NX N:List Str)(js:List (Option Nat))(hN:X.N.Nodup)(hx:X.N[i]? = some x)(hl:G1 X.env.scope x)(hc:X.calm=true)(hi:PI X tg iter wi)(tY:∀Y:p9,PG (dX X scope N Y) tg (g Y)/\CB (dX X scope N Y) pZ (tt Y)/\PE (dX X scope N Y) elt (te Y))(kj:X.env.scope=ke:=by rfl)(GQ:X.N=NX:=by rfl)(hS:qY ke NX scope N js=true:=by decide+kernel)(hw:aaP (.ListComp elt [⟨tg,iter,pZ,0⟩] scope kl) (some (.Name x lT)) pos.line X.env=pure true:=by rfl)(hf:X.fn x=true\/X.env.scope.names.lookup x=some .local:=by first|exact .inl rfl|exact .inr rfl|assumption)(hs:∀x,X5 iter X.env x=pure x:=by intro _;rfl) :
  PS X (.Assign [.Name x lT] (.ListComp elt [⟨tg,iter,pZ,0⟩] scope kl) pos) (DU (QF wi js g tt te) (xt i)):=by
 intro pins s σ H D I h;have S:mM ke X.N scope N js:=by rw[GQ];exact qY.to hS
 obtain⟨cl,e1,e2,e3⟩:=q_ I S kj;rw[exec_Assign_Name_used _ _ _ _ hw];refine Wq (wpAny_standAt (Wq ?_));show WU _ X.A (do let _ ←comprehension (.ListComp elt [⟨tg,iter,pZ,0⟩] scope kl) scope X.env _ (newList []) false (Z0 iter X.env) (some (assign (.Name x lT) X.env))) _ _ s;refine Wq (XQ (wpAny_comprehension_free (use:=some (assign (.Name x lT) X.env)) (Q:=λ_ s'=>SP X pins D .next s') rfl hs e1 S.kind S.loc
  (eE (hi pins s σ H _ I h) λv s1 h1=>eE h1 λQW s2 h2=>?_)) (λ_ s' hq=>Wt (Wt hq)) λ_ _ e=>e)
 obtain⟨it,fp,tn,J,H2,e,I2,T,lG,f2,q⟩:=h2;subst e;refine qZ (RR:=λcG C=>compPost (W7 X.prog X.w) X.A X.xe (some (assign (.Name x lT) X.env)) (λ_ s'=>SP X pins D .next s') cG C) I2 hc T lG f2 tY S kj e2 e3 q ?_;intro cG C ys H' s' I' ns fC na p;obtain⟨m,hn⟩:=ns;obtain⟨f0,f1,f2',f3,f4,f5⟩:=fC;show WU _ X.A (assign (.Name x lT) X.env (.ref cG)) _ _ _;refine wpAny_assign_Name (uH I' hN hx hl (v:=.ref cG) rfl (λMR Vh Vi=>?_) hf);obtain⟨a,sb,ha⟩:=Vi;have aC:C≠a:=by
  rcases ha with ha|ha
  ·rw[ha];exact f1
  ·exact λz=>f4 x a ha z.symm
 refine⟨m,hn.sameBut sb aC,λh' Vj=>⟨_,_,Vh.turned (t':=MR.toks) (λb o hb e=>(Vj.2 b hb).trans e) f0 f1 f3 f4 f5,?_⟩⟩;exact p cG na
def N0 (J:It)(g:TG)(tb:TS)(D:l_)(σ:St)(H1:Hp):Prop:=∃W:Nat->Nat->St->Hp->Prop,(∃m,W 0 m σ H1)/\∀i m σ H,W i m σ H->
 (J.stop i H/\D.nx σ H)\/(J.go i H/\∃N:St->Hp->Prop,(∀σ' H',N σ' H'->∃m',m'<m/\W (i+1) m' σ' H')/\∀x H',J.yld i H x H'->g x σ H' λσ2 H2=>tb {D with nx:=N,ct:=N,bk:=D.nx} σ2 H2)
def N1 (wi:TI)(g:TG)(tb:TS):TS:=λD σ H=>wi σ H λJ H1=>N0 J g tb D σ H1
theorem A7 {g:TG}{tb:TS}(hp:abX (W7 X.prog X.w) X.A X.env X.xe)(hc:X.calm=true)(hi:PI X tg iter wi)(hg:PG X tg g)(hb:ud X body tb)(hs:∀x,X5 iter X.env x=pure x:=by intro _;rfl):PS X (.For tg iter body [] pos) (N1 wi g tb):=Ld hp hc hi hg hb hs
end L2
namespace L2
inductive D where
 |non|bl (b:Bool)|int (i:Int)|str (x:Str)|tup (xs:List D)|lst (xs:List D)
instance:Inhabited D:=⟨.non⟩
mutual
def a6 (K:Wv)(H:Hp):D->V->Prop
 | .non,v=>v=.non
 | .bl b,v=>v=.bl b
 | .int i,v=>v=.int i
 | .str x,v=>v=.str x
 | .tup ds,v=>∃a xs,v=.ref a/\gK K H a xs/\f9 K H ds xs
 | .lst ds,v=>∃a xs,v=.ref a/\f7 K H a xs/\f9 K H ds xs
def f9 (K:Wv)(H:Hp):List D->List V->Prop
 | [],xs=>xs=[]
 |d::ds,xs=>∃x r,xs=x::r/\a6 K H d x/\f9 K H ds r
end
mutual
noncomputable def jP:D->D->Bool
 | .non,.non=>true
 | .bl a,.bl b=>a==b
 | .bl a,.int b=>(if a then 1 else 0)==b
 | .int a,.bl b=>a==(if b then 1 else 0)
 | .int a,.int b=>a==b
 | .str a,.str b=>a==b
 | .tup xs,.tup ys=>om xs ys
 | .lst xs,.lst ys=>om xs ys
 |_,_=>false
noncomputable def om:List D->List D->Bool
 | [],[]=>true
 |x::xs,y::ys=>jP x y&&om xs ys
 |_,_=>false
end
mutual
noncomputable def eQ:D->Nat
 | .tup xs=>j4 xs+1
 | .lst xs=>j4 xs+1
 |_=>0
noncomputable def j4:List D->Nat
 | []=>0
 |x::xs=>max (eQ x) (j4 xs)
end
theorem f9.length {K:Wv}{H:Hp}:∀{ds:List D} {xs:List V},f9 K H ds xs->ds.length=xs.length
 | [],_,h=>by unfold f9 at h;subst h;rfl
 |d::ds,_,h=>by
  unfold f9 at h;obtain⟨x,r,rfl,_,q⟩:=h;rw[Ww,Ww,f9.length q]
theorem f9.get {K:Wv}{H:Hp}:∀{ds:List D} {xs:List V} {i:Nat} {d:D} {x:V},f9 K H ds xs->ds[i]? = some d->xs[i]? = some x->a6 K H d x
 | [],_,_,_,_,_,e,_=>by simp at e
 |d::ds,_,i,d',x',h,e1,e2=>by
  unfold f9 at h;obtain⟨x,r,rfl,p,q⟩:=h;cases i with
  |zero=>simp at e1 e2;subst e1 e2;exact p
  |succ i=>exact f9.get q (by simpa using e1) (by simpa using e2)
theorem gf:∀{ds:List D} {i:Nat} {d:D},ds[i]? = some d->eQ d<=j4 ds
 | [],_,_,e=>by simp at e
 |d::ds,i,d',e=>by
  unfold j4;cases i with
  |zero=>simp at e;subst e;exact Nat.le_max_left _ _
  |succ i=>exact Xz (gf (ds:=ds) (by simpa using e)) (Nat.le_max_right _ _)
noncomputable def dY (xs ys:List D)(j:Nat):Bool:=match xs[j]?,ys[j]? with
 |some a,some b=>jP a b
 |_,_=>true
theorem gL:∀(xs ys:List D),((Wu (min xs.length ys.length)).all (dY xs ys)&&xs.length==ys.length)=om xs ys
 | [],[]=>by simp[om]
 | [],_::_=>by simp[om]
 |_::_,[]=>by simp[om]
 |x::xs,y::ys=>by
  have ih:=gL xs ys;unfold om;rw[←ih,Ww,Ww,Nat.add_min_add_right,List.range_succ_eq_map,aaq,List.all_map];have e0:dY (x::xs) (y::ys) 0=jP x y:=rfl;have e1:(dY (x::xs) (y::ys)∘Nat.succ)=dY xs ys:=by funext j;simp[dY,Function.comp]
  rw[e0,e1,Bool.and_assoc];congr 1;congr 1;rw[ZF];simp
theorem rf {xs ys:List D}(h:xs.length≠ys.length):om xs ys=false:=by
 rw[←gL,show (xs.length==ys.length)=false from by simpa using h,aaM]
mutual
theorem rg:∀d:D,jP d d=true
 | .non=>rfl
 | .bl b=>by unfold jP;simp
 | .int b=>by unfold jP;simp
 | .str b=>by unfold jP;simp
 | .tup xs=>by unfold jP;exact oo xs
 | .lst xs=>by unfold jP;exact oo xs
theorem oo:∀ds:List D,om ds ds=true
 | []=>rfl
 |d::ds=>by unfold om;rw[rg d,oo ds];rfl
end
theorem N2 {ys:List V}(I:aN X pins σ H s)(h:f7 X.K H a xs)(h':gK X.K H a ys):False:=by
 obtain⟨its,_,p,_⟩:=I.list h;obtain⟨its',_,q,_⟩:=I.tuple h';exact absurd rfl (SeqAt.ne_of_list_tuple p.isList q)
theorem xC (I:aN X pins σ H s):∀n d1 d2 x,eQ d1<=n->a6 X.K H d1 x->a6 X.K H d2 x->jP d1 d2=true:=by
 have lists:∀n,(∀d1 d2 x,eQ d1<=n->a6 X.K H d1 x->a6 X.K H d2 x->jP d1 d2=true)->∀(ds es:List D) (xs:List V),j4 ds<=n->f9 X.K H ds xs->f9 X.K H es xs->om ds es=true:=by
  intro n ih ds
  induction ds with
  |nil=>
   intro es xs _ h1 h2;unfold f9 at h1;subst h1;cases es with
   |nil=>rfl
   |cons e es=>unfold f9 at h2;obtain⟨x,r,e',_⟩:=h2;cases e'
  |cons d ds ihd=>
   intro es xs hd h1 h2;unfold f9 at h1;obtain⟨x,r,rfl,p,q⟩:=h1;cases es with
   |nil=>unfold f9 at h2;cases h2
   |cons e es=>
    unfold f9 at h2;obtain⟨x',r',e',p',q'⟩:=h2;cases e';unfold j4 at hd;unfold om;rw[ih d e x (Xz (Nat.le_max_left _ _) hd) p p',ihd es r (Xz (Nat.le_max_right _ _) hd) q q'];rfl
 intro n
 induction n with
 |zero=>
  intro d1 d2 x hd h1 h2;have fl:∀d,a6 X.K H d x->(∃a,x=.ref a)\/(d=.non/\x=.non)\/(∃b,d=.bl b/\x=.bl b)\/(∃b,d=.int b/\x=.int b)\/∃b,d=.str b/\x=.str b:=λd h=>by
   cases d with
   |non=>unfold a6 at h;exact .inr (.inl ⟨rfl,h⟩)
   |bl b=>unfold a6 at h;exact .inr (.inr (.inl ⟨b,rfl,h⟩))
   |int b=>unfold a6 at h;exact .inr (.inr (.inr (.inl ⟨b,rfl,h⟩)))
   |str b=>unfold a6 at h;exact .inr (.inr (.inr (.inr ⟨b,rfl,h⟩)))
   |tup ds=>unfold a6 at h;obtain⟨a,_,e,_⟩:=h;exact .inl ⟨a,e⟩
   |lst ds=>unfold a6 at h;obtain⟨a,_,e,_⟩:=h;exact .inl ⟨a,e⟩
  have nr:¬∃a,x=.ref a:=λh00=>by
   obtain⟨a,e⟩:=h00;subst e;cases d1 with
   |tup ds=>unfold eQ at hd;lia
   |lst ds=>unfold eQ at hd;lia
   |_=>unfold a6 at h1;cases h1
  have f1:=fl d1 h1;have f2:=fl d2 h2;rcases f1 with f1|⟨rfl,rfl⟩|⟨b,rfl,rfl⟩|⟨b,rfl,rfl⟩|⟨b,rfl,rfl⟩
  ·exact absurd f1 nr
  all_goals
   rcases f2 with f2|⟨rfl,f2⟩|⟨c,rfl,f2⟩|⟨c,rfl,f2⟩|⟨c,rfl,f2⟩
   ·exact absurd f2 nr
   all_goals first|(cases f2;exact rg _)|cases f2
 |succ n ih=>
  intro d1 d2 x hd h1 h2;cases d1 with
  |tup ds=>
   unfold a6 at h1;obtain⟨a,xs,rfl,hs,hr⟩:=h1;cases d2 with
   |tup es=>
    unfold a6 at h2;obtain⟨a',xs',e,hs',hr'⟩:=h2;cases e;have:=I.tuple_inj hs hs';subst this;unfold jP;exact lists n ih ds es xs (by unfold eQ at hd;lia) hr hr'
   |lst es=>
    unfold a6 at h2;obtain⟨a',xs',e,hs',hr'⟩:=h2;cases e;exact (N2 I hs' hs).elim
   |_=>unfold a6 at h2;cases h2
  |lst ds=>
   unfold a6 at h1;obtain⟨a,xs,rfl,hs,hr⟩:=h1;cases d2 with
   |lst es=>
    unfold a6 at h2;obtain⟨a',xs',e,hs',hr'⟩:=h2;cases e;have:=I.list_inj hs hs';subst this;unfold jP;exact lists n ih ds es xs (by unfold eQ at hd;lia) hr hr'
   |tup es=>
    unfold a6 at h2;obtain⟨a',xs',e,hs',hr'⟩:=h2;cases e;exact (N2 I hs hs').elim
   |_=>unfold a6 at h2;cases h2
  |_=>exact ih _ d2 x (by unfold eQ;exact XU _) h1 h2
theorem rh (I:aN X pins σ H s):∀(n:Nat) (d1 d2:D) (x y:V) (u v:WB) (A:Xh),eQ d1<=n->A.units+n<Yy->a6 X.K H d1 x->a6 X.K H d2 y->bu x u->bu y v->Zh A s u v (jP d1 d2):=by
 intro n
 induction n with
 |zero=>
  intro d1 d2 x y u v A hd hu h1 h2 r1 r2;have du:A.units<Yy:=by lia
  cases d1 with
  |non=>
   unfold a6 at h1;subst h1;cases r1;cases d2 with
   |non=>
    unfold a6 at h2;subst h2;cases r2;exact aa_ _
   |bl b2=>
    unfold a6 at h2;subst h2;cases r2;exact SeqAt.EqAt.none_bool b2
   |int b2=>
    unfold a6 at h2;subst h2;obtain⟨t2,rfl⟩:=r2;exact SeqAt.EqAt.none_int b2 t2
   |str b2=>
    unfold a6 at h2;subst h2;obtain⟨t2,rfl⟩:=r2;exact SeqAt.EqAt.none_str b2 t2
   |tup b2=>
    unfold a6 at h2;obtain⟨a2,xs2,rfl,cH,fV⟩:=h2;cases r2;obtain⟨its2,rv2,p2,km⟩:=I.tuple cH;exact SeqAt.EqAt.none_tuple p2 du
   |lst b2=>
    unfold a6 at h2;obtain⟨a2,xs2,rfl,cH,fV⟩:=h2;cases r2;obtain⟨its2,rv2,p2,km⟩:=I.list cH;exact SeqAt.EqAt.none_list p2.isList du
  |bl b1=>
   unfold a6 at h1;subst h1;cases r1;cases d2 with
   |non=>
    unfold a6 at h2;subst h2;cases r2;exact SeqAt.EqAt.bool_none b1
   |bl b2=>
    unfold a6 at h2;subst h2;cases r2;exact SeqAt.EqAt.bool_bool b1 b2
   |int b2=>
    unfold a6 at h2;subst h2;obtain⟨t2,rfl⟩:=r2;exact SeqAt.EqAt.bool_int b1 b2 t2
   |str b2=>
    unfold a6 at h2;subst h2;obtain⟨t2,rfl⟩:=r2;exact SeqAt.EqAt.bool_str b1 b2 t2
   |tup b2=>
    unfold a6 at h2;obtain⟨a2,xs2,rfl,cH,fV⟩:=h2;cases r2;obtain⟨its2,rv2,p2,km⟩:=I.tuple cH;exact SeqAt.EqAt.bool_tuple b1 p2 du
   |lst b2=>
    unfold a6 at h2;obtain⟨a2,xs2,rfl,cH,fV⟩:=h2;cases r2;obtain⟨its2,rv2,p2,km⟩:=I.list cH;exact SeqAt.EqAt.bool_list b1 p2.isList du
  |int b1=>
   unfold a6 at h1;subst h1;obtain⟨t1,rfl⟩:=r1;cases d2 with
   |non=>
    unfold a6 at h2;subst h2;cases r2;exact SeqAt.EqAt.int_none b1 t1
   |bl b2=>
    unfold a6 at h2;subst h2;cases r2;exact SeqAt.EqAt.int_bool b1 t1 b2
   |int b2=>
    unfold a6 at h2;subst h2;obtain⟨t2,rfl⟩:=r2;exact abu b1 t1 b2 t2
   |str b2=>
    unfold a6 at h2;subst h2;obtain⟨t2,rfl⟩:=r2;exact SeqAt.EqAt.int_str b1 t1 b2 t2
   |tup b2=>
    unfold a6 at h2;obtain⟨a2,xs2,rfl,cH,fV⟩:=h2;cases r2;obtain⟨its2,rv2,p2,km⟩:=I.tuple cH;exact SeqAt.EqAt.int_tuple b1 t1 p2 du
   |lst b2=>
    unfold a6 at h2;obtain⟨a2,xs2,rfl,cH,fV⟩:=h2;cases r2;obtain⟨its2,rv2,p2,km⟩:=I.list cH;exact SeqAt.EqAt.int_list b1 t1 p2.isList du
  |str b1=>
   unfold a6 at h1;subst h1;obtain⟨t1,rfl⟩:=r1;cases d2 with
   |non=>
    unfold a6 at h2;subst h2;cases r2;exact SeqAt.EqAt.str_none b1 t1
   |bl b2=>
    unfold a6 at h2;subst h2;cases r2;exact SeqAt.EqAt.str_bool b1 t1 b2
   |int b2=>
    unfold a6 at h2;subst h2;obtain⟨t2,rfl⟩:=r2;exact SeqAt.EqAt.str_int b1 t1 b2 t2
   |str b2=>
    unfold a6 at h2;subst h2;obtain⟨t2,rfl⟩:=r2;exact SeqAt.EqAt.str_str b1 t1 b2 t2
   |tup b2=>
    unfold a6 at h2;obtain⟨a2,xs2,rfl,cH,fV⟩:=h2;cases r2;obtain⟨its2,rv2,p2,km⟩:=I.tuple cH;exact SeqAt.EqAt.str_tuple b1 t1 p2 du
   |lst b2=>
    unfold a6 at h2;obtain⟨a2,xs2,rfl,cH,fV⟩:=h2;cases r2;obtain⟨its2,rv2,p2,km⟩:=I.list cH;exact SeqAt.EqAt.str_list b1 t1 p2.isList du
  |tup ds=>unfold eQ at hd;lia
  |lst ds=>unfold eQ at hd;lia
 |succ n ih=>
  intro d1 d2 x y u v A hd hu h1 h2 r1 r2;have du:A.units<Yy:=by lia
  cases d1 with
  |tup ds=>
   unfold a6 at h1;obtain⟨a1,xs1,rfl,hs1,hr1⟩:=h1;cases r1;obtain⟨its1,rv1,p1,hz1⟩:=I.tuple hs1;cases d2 with
   |non=>
    unfold a6 at h2;subst h2;cases r2;exact SeqAt.EqAt.tuple_none p1 du
   |bl b2=>
    unfold a6 at h2;subst h2;cases r2;exact SeqAt.EqAt.tuple_bool b2 p1 du
   |int b2=>
    unfold a6 at h2;subst h2;obtain⟨t2,rfl⟩:=r2;exact SeqAt.EqAt.tuple_int b2 t2 p1 du
   |str b2=>
    unfold a6 at h2;subst h2;obtain⟨t2,rfl⟩:=r2;exact SeqAt.EqAt.tuple_str b2 t2 p1 du
   |tup es=>
    unfold a6 at h2;obtain⟨a2,xs2,rfl,cH,fV⟩:=h2;cases r2;obtain⟨its2,rv2,p2,km⟩:=I.tuple cH;by_cases vJ:a1=a2
    ·subst vJ;rw[xC I (n+1) (.tup ds) (.tup es) (.ref a1) hd (by unfold a6;exact⟨a1,xs1,rfl,hs1,hr1⟩) (by unfold a6;exact⟨a1,xs2,rfl,cH,fV⟩)];exact aa_ _
    ·refine abw vJ ?_;have l1:its1.toArray.size=ds.length:=by rw[Wy,←rv1.length,hr1.length]
     have l2:its2.toArray.size=es.length:=by rw[Wy,←rv2.length,fV.length]
     have k1:xs1.length=ds.length:=hr1.length.symm;have k2:xs2.length=es.length:=fV.length.symm;have he:∀j (h1:j<its1.toArray.size) (h2:j<its2.toArray.size),Zh A.in1 s its1.toArray[j] its2.toArray[j] (dY ds es j):=λj g1 g2=>by
      have q1:ds[j]? = some ds[j]:=Wr (by lia);have q2:es[j]? = some es[j]:=Wr (by lia);have e1:xs1[j]? = some xs1[j]:=Wr (by lia);have e2:xs2[j]? = some xs2[j]:=Wr (by lia);obtain⟨u1,z1,w1⟩:=rv1.get e1;obtain⟨u2,z2,w2⟩:=rv2.get e2;have y1:its1.toArray[j]=u1:=by
       have:=WH.mp z1;obtain⟨_,q⟩:=this;simpa using q
      have y2:its2.toArray[j]=u2:=by
       have:=WH.mp z2;obtain⟨_,q⟩:=this;simpa using q
      rw[y1,y2];have:dY ds es j=jP ds[j] es[j]:=by unfold dY;rw[q1,q2]
      rw[this];refine ih ds[j] es[j] xs1[j] xs2[j] u1 u2 A.in1 ?_ (by show A.units+1+n<Yy;lia) (hr1.get q1 e1) (fV.get q2 e2) w1 w2;have:=gf q1;unfold eQ at hd;lia
     have q:=abQ (A:=A) p1 p2 du he;rw[l1,l2,gL] at q;unfold jP;exact q
   |lst es=>
    unfold a6 at h2;obtain⟨a2,xs2,rfl,cH,fV⟩:=h2;cases r2;obtain⟨its2,rv2,p2,km⟩:=I.list cH;exact SeqAt.EqAt.tuple_list p1 p2.isList du
  |lst ds=>
   unfold a6 at h1;obtain⟨a1,xs1,rfl,hs1,hr1⟩:=h1;cases r1;obtain⟨its1,rv1,p1,hz1⟩:=I.list hs1;cases d2 with
   |non=>
    unfold a6 at h2;subst h2;cases r2;exact SeqAt.EqAt.list_none p1.isList du
   |bl b2=>
    unfold a6 at h2;subst h2;cases r2;exact SeqAt.EqAt.list_bool b2 p1.isList du
   |int b2=>
    unfold a6 at h2;subst h2;obtain⟨t2,rfl⟩:=r2;exact SeqAt.EqAt.list_int b2 t2 p1.isList du
   |str b2=>
    unfold a6 at h2;subst h2;obtain⟨t2,rfl⟩:=r2;exact SeqAt.EqAt.list_str b2 t2 p1.isList du
   |tup es=>
    unfold a6 at h2;obtain⟨a2,xs2,rfl,cH,fV⟩:=h2;cases r2;obtain⟨its2,rv2,p2,km⟩:=I.tuple cH;exact SeqAt.EqAt.list_tuple p1.isList p2 du
   |lst es=>
    unfold a6 at h2;obtain⟨a2,xs2,rfl,cH,fV⟩:=h2;cases r2;obtain⟨its2,rv2,p2,km⟩:=I.list cH;by_cases vJ:a1=a2
    ·subst vJ;rw[xC I (n+1) (.lst ds) (.lst es) (.ref a1) hd (by unfold a6;exact⟨a1,xs1,rfl,hs1,hr1⟩) (by unfold a6;exact⟨a1,xs2,rfl,cH,fV⟩)];exact aa_ _
    ·refine abw vJ ?_;have l1:its1.toArray.size=ds.length:=by rw[Wy,←rv1.length,hr1.length]
     have l2:its2.toArray.size=es.length:=by rw[Wy,←rv2.length,fV.length]
     have k1:xs1.length=ds.length:=hr1.length.symm;have k2:xs2.length=es.length:=fV.length.symm;have he:∀j (h1:j<its1.toArray.size) (h2:j<its2.toArray.size),Zh A.in1 s its1.toArray[j] its2.toArray[j] (dY ds es j):=λj g1 g2=>by
      have q1:ds[j]? = some ds[j]:=Wr (by lia);have q2:es[j]? = some es[j]:=Wr (by lia);have e1:xs1[j]? = some xs1[j]:=Wr (by lia);have e2:xs2[j]? = some xs2[j]:=Wr (by lia);obtain⟨u1,z1,w1⟩:=rv1.get e1;obtain⟨u2,z2,w2⟩:=rv2.get e2;have y1:its1.toArray[j]=u1:=by
       have:=WH.mp z1;obtain⟨_,q⟩:=this;simpa using q
      have y2:its2.toArray[j]=u2:=by
       have:=WH.mp z2;obtain⟨_,q⟩:=this;simpa using q
      rw[y1,y2];have:dY ds es j=jP ds[j] es[j]:=by unfold dY;rw[q1,q2]
      rw[this];refine ih ds[j] es[j] xs1[j] xs2[j] u1 u2 A.in1 ?_ (by show A.units+1+n<Yy;lia) (hr1.get q1 e1) (fV.get q2 e2) w1 w2;have:=gf q1;unfold eQ at hd;lia
     unfold jP;by_cases hl:ds.length=es.length
     ·have q:=SeqAt.RcAt.lists (A:=A) p1.isList p2.isList (by rw[l1,l2,hl]) du he;rw[l1] at q;have z:=gL ds es;rw[hl,Nat.min_self,beq_self_eq_true,Bool.and_true] at z;rw[hl,z] at q;exact q
     ·rw[rf hl];exact abR (A:=A) p1.isList p2.isList (by rw[l1,l2];simpa using hl) du
  |non=>exact ih _ d2 x y u v A (by unfold eQ;exact XU _) (by lia) h1 h2 r1 r2
  |bl b1=>exact ih _ d2 x y u v A (by unfold eQ;exact XU _) (by lia) h1 h2 r1 r2
  |int b1=>exact ih _ d2 x y u v A (by unfold eQ;exact XU _) (by lia) h1 h2 r1 r2
  |str b1=>exact ih _ d2 x y u v A (by unfold eQ;exact XU _) (by lia) h1 h2 r1 r2
theorem Lr (I:aN X pins σ H s)(n:Nat)(d1 d2:D)(x y:V)(u v:WB)(A:Xh)(hd:eQ d1<=n)(hu:A.units+n<Yy)(h1:a6 X.K H d1 x)(h2:a6 X.K H d2 y)(r1:bu x u)(r2:bu y v):SeqAt.RcAt A s u v (jP d1 d2):=by
  have du:A.units<Yy:=by lia
  cases d1 with
  |non=>
   unfold a6 at h1;subst h1;cases r1;cases d2 with
   |non=>
    unfold a6 at h2;subst h2;cases r2;exact SeqAt.RcAt.none_none
   |bl b2=>
    unfold a6 at h2;subst h2;cases r2;exact SeqAt.RcAt.none_bool b2
   |int b2=>
    unfold a6 at h2;subst h2;obtain⟨t2,rfl⟩:=r2;exact SeqAt.RcAt.none_int b2 t2
   |str b2=>
    unfold a6 at h2;subst h2;obtain⟨t2,rfl⟩:=r2;exact SeqAt.RcAt.none_str b2 t2
   |tup es=>
    unfold a6 at h2;obtain⟨a2,xs2,rfl,cH,fV⟩:=h2;cases r2;obtain⟨its2,rv2,p2,km⟩:=I.tuple cH;exact SeqAt.RcAt.none_tuple p2 du
   |lst es=>
    unfold a6 at h2;obtain⟨a2,xs2,rfl,cH,fV⟩:=h2;cases r2;obtain⟨its2,rv2,p2,km⟩:=I.list cH;exact SeqAt.RcAt.none_list p2.isList du
  |bl b1=>
   unfold a6 at h1;subst h1;cases r1;cases d2 with
   |non=>
    unfold a6 at h2;subst h2;cases r2;exact SeqAt.RcAt.bool_none b1
   |bl b2=>
    unfold a6 at h2;subst h2;cases r2;exact SeqAt.RcAt.bool_bool b1 b2
   |int b2=>
    unfold a6 at h2;subst h2;obtain⟨t2,rfl⟩:=r2;exact SeqAt.RcAt.bool_int b1 b2 t2
   |str b2=>
    unfold a6 at h2;subst h2;obtain⟨t2,rfl⟩:=r2;exact SeqAt.RcAt.bool_str b1 b2 t2
   |tup es=>
    unfold a6 at h2;obtain⟨a2,xs2,rfl,cH,fV⟩:=h2;cases r2;obtain⟨its2,rv2,p2,km⟩:=I.tuple cH;exact SeqAt.RcAt.bool_tuple b1 p2 du
   |lst es=>
    unfold a6 at h2;obtain⟨a2,xs2,rfl,cH,fV⟩:=h2;cases r2;obtain⟨its2,rv2,p2,km⟩:=I.list cH;exact SeqAt.RcAt.bool_list b1 p2.isList du
  |int b1=>
   unfold a6 at h1;subst h1;obtain⟨t1,rfl⟩:=r1;cases d2 with
   |non=>
    unfold a6 at h2;subst h2;cases r2;exact SeqAt.RcAt.int_none b1 t1
   |bl b2=>
    unfold a6 at h2;subst h2;cases r2;exact SeqAt.RcAt.int_bool b1 t1 b2
   |int b2=>
    unfold a6 at h2;subst h2;obtain⟨t2,rfl⟩:=r2;exact SeqAt.RcAt.int_int b1 t1 b2 t2
   |str b2=>
    unfold a6 at h2;subst h2;obtain⟨t2,rfl⟩:=r2;exact SeqAt.RcAt.int_str b1 t1 b2 t2
   |tup es=>
    unfold a6 at h2;obtain⟨a2,xs2,rfl,cH,fV⟩:=h2;cases r2;obtain⟨its2,rv2,p2,km⟩:=I.tuple cH;exact SeqAt.RcAt.int_tuple b1 t1 p2 du
   |lst es=>
    unfold a6 at h2;obtain⟨a2,xs2,rfl,cH,fV⟩:=h2;cases r2;obtain⟨its2,rv2,p2,km⟩:=I.list cH;exact SeqAt.RcAt.int_list b1 t1 p2.isList du
  |str b1=>
   unfold a6 at h1;subst h1;obtain⟨t1,rfl⟩:=r1;cases d2 with
   |non=>
    unfold a6 at h2;subst h2;cases r2;exact SeqAt.RcAt.str_none b1 t1
   |bl b2=>
    unfold a6 at h2;subst h2;cases r2;exact SeqAt.RcAt.str_bool b1 t1 b2
   |int b2=>
    unfold a6 at h2;subst h2;obtain⟨t2,rfl⟩:=r2;exact SeqAt.RcAt.str_int b1 t1 b2 t2
   |str b2=>
    unfold a6 at h2;subst h2;obtain⟨t2,rfl⟩:=r2;exact SeqAt.RcAt.str_str b1 t1 b2 t2
   |tup es=>
    unfold a6 at h2;obtain⟨a2,xs2,rfl,cH,fV⟩:=h2;cases r2;obtain⟨its2,rv2,p2,km⟩:=I.tuple cH;exact SeqAt.RcAt.str_tuple b1 t1 p2 du
   |lst es=>
    unfold a6 at h2;obtain⟨a2,xs2,rfl,cH,fV⟩:=h2;cases r2;obtain⟨its2,rv2,p2,km⟩:=I.list cH;exact SeqAt.RcAt.str_list b1 t1 p2.isList du
  |tup ds=>
   unfold a6 at h1;obtain⟨a1,xs1,rfl,hs1,hr1⟩:=h1;cases r1;obtain⟨its1,rv1,p1,hz1⟩:=I.tuple hs1;cases d2 with
   |non=>
    unfold a6 at h2;subst h2;cases r2;exact SeqAt.RcAt.tuple_none p1 du
   |bl b2=>
    unfold a6 at h2;subst h2;cases r2;exact SeqAt.RcAt.tuple_bool b2 p1 du
   |int b2=>
    unfold a6 at h2;subst h2;obtain⟨t2,rfl⟩:=r2;exact SeqAt.RcAt.tuple_int b2 t2 p1 du
   |str b2=>
    unfold a6 at h2;subst h2;obtain⟨t2,rfl⟩:=r2;exact SeqAt.RcAt.tuple_str b2 t2 p1 du
   |tup es=>
    unfold a6 at h2;obtain⟨a2,xs2,rfl,cH,fV⟩:=h2;cases r2;obtain⟨its2,rv2,p2,km⟩:=I.tuple cH;have l1:its1.toArray.size=ds.length:=by rw[Wy,←rv1.length,hr1.length]
    have l2:its2.toArray.size=es.length:=by rw[Wy,←rv2.length,fV.length]
    have k1:xs1.length=ds.length:=hr1.length.symm;have k2:xs2.length=es.length:=fV.length.symm;have he:∀j (h1:j<its1.toArray.size) (h2:j<its2.toArray.size),Zh A.in1 s its1.toArray[j] its2.toArray[j] (dY ds es j):=λj g1 g2=>by
     have q1:ds[j]? = some ds[j]:=Wr (by lia);have q2:es[j]? = some es[j]:=Wr (by lia);have e1:xs1[j]? = some xs1[j]:=Wr (by lia);have e2:xs2[j]? = some xs2[j]:=Wr (by lia);obtain⟨u1,z1,w1⟩:=rv1.get e1;obtain⟨u2,z2,w2⟩:=rv2.get e2;have y1:its1.toArray[j]=u1:=by
      obtain⟨_,q⟩:=WH.mp z1;simpa using q
     have y2:its2.toArray[j]=u2:=by
      obtain⟨_,q⟩:=WH.mp z2;simpa using q
     rw[y1,y2];have:dY ds es j=jP ds[j] es[j]:=by unfold dY;rw[q1,q2]
     rw[this];have dl:=gf q1;unfold eQ at hd;exact rh I (n-1) ds[j] es[j] xs1[j] xs2[j] u1 u2 A.in1 (by lia) (by show A.units+1+(n-1)<Yy;lia) (hr1.get q1 e1) (fV.get q2 e2) w1 w2
    have q:=abQ (A:=A) p1 p2 du he;rw[l1,l2,gL] at q;unfold jP;exact q
   |lst es=>
    unfold a6 at h2;obtain⟨a2,xs2,rfl,cH,fV⟩:=h2;cases r2;obtain⟨its2,rv2,p2,km⟩:=I.list cH;exact SeqAt.RcAt.tuple_list p1 p2.isList du
  |lst ds=>
   unfold a6 at h1;obtain⟨a1,xs1,rfl,hs1,hr1⟩:=h1;cases r1;obtain⟨its1,rv1,p1,hz1⟩:=I.list hs1;cases d2 with
   |non=>
    unfold a6 at h2;subst h2;cases r2;exact SeqAt.RcAt.list_none p1.isList du
   |bl b2=>
    unfold a6 at h2;subst h2;cases r2;exact SeqAt.RcAt.list_bool b2 p1.isList du
   |int b2=>
    unfold a6 at h2;subst h2;obtain⟨t2,rfl⟩:=r2;exact SeqAt.RcAt.list_int b2 t2 p1.isList du
   |str b2=>
    unfold a6 at h2;subst h2;obtain⟨t2,rfl⟩:=r2;exact SeqAt.RcAt.list_str b2 t2 p1.isList du
   |tup es=>
    unfold a6 at h2;obtain⟨a2,xs2,rfl,cH,fV⟩:=h2;cases r2;obtain⟨its2,rv2,p2,km⟩:=I.tuple cH;exact SeqAt.RcAt.list_tuple p1.isList p2 du
   |lst es=>
    unfold a6 at h2;obtain⟨a2,xs2,rfl,cH,fV⟩:=h2;cases r2;obtain⟨its2,rv2,p2,km⟩:=I.list cH;have l1:its1.toArray.size=ds.length:=by rw[Wy,←rv1.length,hr1.length]
    have l2:its2.toArray.size=es.length:=by rw[Wy,←rv2.length,fV.length]
    have k1:xs1.length=ds.length:=hr1.length.symm;have k2:xs2.length=es.length:=fV.length.symm;have he:∀j (h1:j<its1.toArray.size) (h2:j<its2.toArray.size),Zh A.in1 s its1.toArray[j] its2.toArray[j] (dY ds es j):=λj g1 g2=>by
     have q1:ds[j]? = some ds[j]:=Wr (by lia);have q2:es[j]? = some es[j]:=Wr (by lia);have e1:xs1[j]? = some xs1[j]:=Wr (by lia);have e2:xs2[j]? = some xs2[j]:=Wr (by lia);obtain⟨u1,z1,w1⟩:=rv1.get e1;obtain⟨u2,z2,w2⟩:=rv2.get e2;have y1:its1.toArray[j]=u1:=by
      obtain⟨_,q⟩:=WH.mp z1;simpa using q
     have y2:its2.toArray[j]=u2:=by
      obtain⟨_,q⟩:=WH.mp z2;simpa using q
     rw[y1,y2];have:dY ds es j=jP ds[j] es[j]:=by unfold dY;rw[q1,q2]
     rw[this];have dl:=gf q1;unfold eQ at hd;exact rh I (n-1) ds[j] es[j] xs1[j] xs2[j] u1 u2 A.in1 (by lia) (by show A.units+1+(n-1)<Yy;lia) (hr1.get q1 e1) (fV.get q2 e2) w1 w2
    unfold jP;by_cases hl:ds.length=es.length
    ·have q:=SeqAt.RcAt.lists (A:=A) p1.isList p2.isList (by rw[l1,l2,hl]) du he;rw[l1] at q;have z:=gL ds es;rw[hl,Nat.min_self,beq_self_eq_true,Bool.and_true] at z;rw[hl,z] at q;exact q
    ·rw[rf hl];exact abR (A:=A) p1.isList p2.isList (by rw[l1,l2];simpa using hl) du
theorem Eo (I:aN X pins σ H s)(n:Nat)(d1 d2:D)(x y:V)(u v:WB)(A:Xh)(hd:eQ d1<=n)(hu:A.units+n<Yy)(h1:a6 X.K H d1 x)(h2:a6 X.K H d2 y)(r1:bu x u)(r2:bu y v):SeqAt.RcNeAt A s u v (!jP d1 d2):=by
  have du:A.units<Yy:=by lia
  cases d1 with
  |non=>
   unfold a6 at h1;subst h1;cases r1;cases d2 with
   |non=>
    unfold a6 at h2;subst h2;cases r2;exact SeqAt.RcNeAt.none_none
   |bl b2=>
    unfold a6 at h2;subst h2;cases r2;exact SeqAt.RcNeAt.none_bool b2
   |int b2=>
    unfold a6 at h2;subst h2;obtain⟨t2,rfl⟩:=r2;exact SeqAt.RcNeAt.none_int b2 t2
   |str b2=>
    unfold a6 at h2;subst h2;obtain⟨t2,rfl⟩:=r2;exact SeqAt.RcNeAt.none_str b2 t2
   |tup es=>
    unfold a6 at h2;obtain⟨a2,xs2,rfl,cH,fV⟩:=h2;cases r2;obtain⟨its2,rv2,p2,km⟩:=I.tuple cH;exact SeqAt.RcNeAt.none_tuple p2 du
   |lst es=>
    unfold a6 at h2;obtain⟨a2,xs2,rfl,cH,fV⟩:=h2;cases r2;obtain⟨its2,rv2,p2,km⟩:=I.list cH;exact SeqAt.RcNeAt.none_list p2.isList du
  |bl b1=>
   unfold a6 at h1;subst h1;cases r1;cases d2 with
   |non=>
    unfold a6 at h2;subst h2;cases r2;exact SeqAt.RcNeAt.bool_none b1
   |bl b2=>
    unfold a6 at h2;subst h2;cases r2;exact SeqAt.RcNeAt.bool_bool b1 b2
   |int b2=>
    unfold a6 at h2;subst h2;obtain⟨t2,rfl⟩:=r2;exact SeqAt.RcNeAt.bool_int b1 b2 t2
   |str b2=>
    unfold a6 at h2;subst h2;obtain⟨t2,rfl⟩:=r2;exact SeqAt.RcNeAt.bool_str b1 b2 t2
   |tup es=>
    unfold a6 at h2;obtain⟨a2,xs2,rfl,cH,fV⟩:=h2;cases r2;obtain⟨its2,rv2,p2,km⟩:=I.tuple cH;exact SeqAt.RcNeAt.bool_tuple b1 p2 du
   |lst es=>
    unfold a6 at h2;obtain⟨a2,xs2,rfl,cH,fV⟩:=h2;cases r2;obtain⟨its2,rv2,p2,km⟩:=I.list cH;exact SeqAt.RcNeAt.bool_list b1 p2.isList du
  |int b1=>
   unfold a6 at h1;subst h1;obtain⟨t1,rfl⟩:=r1;cases d2 with
   |non=>
    unfold a6 at h2;subst h2;cases r2;exact SeqAt.RcNeAt.int_none b1 t1
   |bl b2=>
    unfold a6 at h2;subst h2;cases r2;exact SeqAt.RcNeAt.int_bool b1 t1 b2
   |int b2=>
    unfold a6 at h2;subst h2;obtain⟨t2,rfl⟩:=r2;exact SeqAt.RcNeAt.int_int b1 t1 b2 t2
   |str b2=>
    unfold a6 at h2;subst h2;obtain⟨t2,rfl⟩:=r2;exact SeqAt.RcNeAt.int_str b1 t1 b2 t2
   |tup es=>
    unfold a6 at h2;obtain⟨a2,xs2,rfl,cH,fV⟩:=h2;cases r2;obtain⟨its2,rv2,p2,km⟩:=I.tuple cH;exact SeqAt.RcNeAt.int_tuple b1 t1 p2 du
   |lst es=>
    unfold a6 at h2;obtain⟨a2,xs2,rfl,cH,fV⟩:=h2;cases r2;obtain⟨its2,rv2,p2,km⟩:=I.list cH;exact SeqAt.RcNeAt.int_list b1 t1 p2.isList du
  |str b1=>
   unfold a6 at h1;subst h1;obtain⟨t1,rfl⟩:=r1;cases d2 with
   |non=>
    unfold a6 at h2;subst h2;cases r2;exact SeqAt.RcNeAt.str_none b1 t1
   |bl b2=>
    unfold a6 at h2;subst h2;cases r2;exact SeqAt.RcNeAt.str_bool b1 t1 b2
   |int b2=>
    unfold a6 at h2;subst h2;obtain⟨t2,rfl⟩:=r2;exact SeqAt.RcNeAt.str_int b1 t1 b2 t2
   |str b2=>
    unfold a6 at h2;subst h2;obtain⟨t2,rfl⟩:=r2;exact SeqAt.RcNeAt.str_str b1 t1 b2 t2
   |tup es=>
    unfold a6 at h2;obtain⟨a2,xs2,rfl,cH,fV⟩:=h2;cases r2;obtain⟨its2,rv2,p2,km⟩:=I.tuple cH;exact SeqAt.RcNeAt.str_tuple b1 t1 p2 du
   |lst es=>
    unfold a6 at h2;obtain⟨a2,xs2,rfl,cH,fV⟩:=h2;cases r2;obtain⟨its2,rv2,p2,km⟩:=I.list cH;exact SeqAt.RcNeAt.str_list b1 t1 p2.isList du
  |tup ds=>
   unfold a6 at h1;obtain⟨a1,xs1,rfl,hs1,hr1⟩:=h1;cases r1;obtain⟨its1,rv1,p1,hz1⟩:=I.tuple hs1;cases d2 with
   |non=>
    unfold a6 at h2;subst h2;cases r2;exact SeqAt.RcNeAt.tuple_none p1 du
   |bl b2=>
    unfold a6 at h2;subst h2;cases r2;exact SeqAt.RcNeAt.tuple_bool b2 p1 du
   |int b2=>
    unfold a6 at h2;subst h2;obtain⟨t2,rfl⟩:=r2;exact SeqAt.RcNeAt.tuple_int b2 t2 p1 du
   |str b2=>
    unfold a6 at h2;subst h2;obtain⟨t2,rfl⟩:=r2;exact SeqAt.RcNeAt.tuple_str b2 t2 p1 du
   |tup es=>
    unfold a6 at h2;obtain⟨a2,xs2,rfl,cH,fV⟩:=h2;cases r2;obtain⟨its2,rv2,p2,km⟩:=I.tuple cH;have l1:its1.toArray.size=ds.length:=by rw[Wy,←rv1.length,hr1.length]
    have l2:its2.toArray.size=es.length:=by rw[Wy,←rv2.length,fV.length]
    have k1:xs1.length=ds.length:=hr1.length.symm;have k2:xs2.length=es.length:=fV.length.symm;have he:∀j (h1:j<its1.toArray.size) (h2:j<its2.toArray.size),Zh A.in1 s its1.toArray[j] its2.toArray[j] (dY ds es j):=λj g1 g2=>by
     have q1:ds[j]? = some ds[j]:=Wr (by lia);have q2:es[j]? = some es[j]:=Wr (by lia);have e1:xs1[j]? = some xs1[j]:=Wr (by lia);have e2:xs2[j]? = some xs2[j]:=Wr (by lia);obtain⟨u1,z1,w1⟩:=rv1.get e1;obtain⟨u2,z2,w2⟩:=rv2.get e2;have y1:its1.toArray[j]=u1:=by
      obtain⟨_,q⟩:=WH.mp z1;simpa using q
     have y2:its2.toArray[j]=u2:=by
      obtain⟨_,q⟩:=WH.mp z2;simpa using q
     rw[y1,y2];have:dY ds es j=jP ds[j] es[j]:=by unfold dY;rw[q1,q2]
     rw[this];have dl:=gf q1;unfold eQ at hd;exact rh I (n-1) ds[j] es[j] xs1[j] xs2[j] u1 u2 A.in1 (by lia) (by show A.units+1+(n-1)<Yy;lia) (hr1.get q1 e1) (fV.get q2 e2) w1 w2
    have q:=SeqAt.RcNeAt.tuples (A:=A) p1 p2 du he;rw[l1,l2,gL] at q;unfold jP;exact q
   |lst es=>
    unfold a6 at h2;obtain⟨a2,xs2,rfl,cH,fV⟩:=h2;cases r2;obtain⟨its2,rv2,p2,km⟩:=I.list cH;exact SeqAt.RcNeAt.tuple_list p1 p2.isList du
  |lst ds=>
   unfold a6 at h1;obtain⟨a1,xs1,rfl,hs1,hr1⟩:=h1;cases r1;obtain⟨its1,rv1,p1,hz1⟩:=I.list hs1;cases d2 with
   |non=>
    unfold a6 at h2;subst h2;cases r2;exact SeqAt.RcNeAt.list_none p1.isList du
   |bl b2=>
    unfold a6 at h2;subst h2;cases r2;exact SeqAt.RcNeAt.list_bool b2 p1.isList du
   |int b2=>
    unfold a6 at h2;subst h2;obtain⟨t2,rfl⟩:=r2;exact SeqAt.RcNeAt.list_int b2 t2 p1.isList du
   |str b2=>
    unfold a6 at h2;subst h2;obtain⟨t2,rfl⟩:=r2;exact SeqAt.RcNeAt.list_str b2 t2 p1.isList du
   |tup es=>
    unfold a6 at h2;obtain⟨a2,xs2,rfl,cH,fV⟩:=h2;cases r2;obtain⟨its2,rv2,p2,km⟩:=I.tuple cH;exact SeqAt.RcNeAt.list_tuple p1.isList p2 du
   |lst es=>
    unfold a6 at h2;obtain⟨a2,xs2,rfl,cH,fV⟩:=h2;cases r2;obtain⟨its2,rv2,p2,km⟩:=I.list cH;have l1:its1.toArray.size=ds.length:=by rw[Wy,←rv1.length,hr1.length]
    have l2:its2.toArray.size=es.length:=by rw[Wy,←rv2.length,fV.length]
    have k1:xs1.length=ds.length:=hr1.length.symm;have k2:xs2.length=es.length:=fV.length.symm;have he:∀j (h1:j<its1.toArray.size) (h2:j<its2.toArray.size),Zh A.in1 s its1.toArray[j] its2.toArray[j] (dY ds es j):=λj g1 g2=>by
     have q1:ds[j]? = some ds[j]:=Wr (by lia);have q2:es[j]? = some es[j]:=Wr (by lia);have e1:xs1[j]? = some xs1[j]:=Wr (by lia);have e2:xs2[j]? = some xs2[j]:=Wr (by lia);obtain⟨u1,z1,w1⟩:=rv1.get e1;obtain⟨u2,z2,w2⟩:=rv2.get e2;have y1:its1.toArray[j]=u1:=by
      obtain⟨_,q⟩:=WH.mp z1;simpa using q
     have y2:its2.toArray[j]=u2:=by
      obtain⟨_,q⟩:=WH.mp z2;simpa using q
     rw[y1,y2];have:dY ds es j=jP ds[j] es[j]:=by unfold dY;rw[q1,q2]
     rw[this];have dl:=gf q1;unfold eQ at hd;exact rh I (n-1) ds[j] es[j] xs1[j] xs2[j] u1 u2 A.in1 (by lia) (by show A.units+1+(n-1)<Yy;lia) (hr1.get q1 e1) (fV.get q2 e2) w1 w2
    unfold jP;by_cases hl:ds.length=es.length
    ·have q:=SeqAt.RcNeAt.lists (A:=A) p1.isList p2.isList (by rw[l1,l2,hl]) du he;rw[l1] at q;have z:=gL ds es;rw[hl,Nat.min_self,beq_self_eq_true,Bool.and_true] at z;rw[hl,z] at q;exact q
    ·rw[rf hl];exact SeqAt.RcNeAt.lists_lengths (A:=A) p1.isList p2.isList (by rw[l1,l2];simpa using hl) du
def Ls (K:Wv)(f:Bool->Bool):R2:=λx y H Q=>∃d1 d2,a6 K H d1 x/\a6 K H d2 y/\eQ d1<=30/\Q (.bl (f (jP d1 d2))) H
theorem cz (hu:X.A.units+64<Yy):j3 X (Yf .Eq) (Ls X.K id):=by
 intro pins s σ H x y v u Q I rx ry h;obtain⟨d1,d2,h1,h2,hd,q⟩:=h;exact Lr I 30 d1 d2 x y v u X.A hd (by lia) h1 h2 rx ry X.prog X.w X.xe _ ⟨.bl _,H,I,rfl,q⟩
theorem g7 (hu:X.A.units+64<Yy):j3 X (Yf .NotEq) (Ls X.K not):=by
 intro pins s σ H x y v u Q I rx ry h;obtain⟨d1,d2,h1,h2,hd,q⟩:=h;exact Eo I 30 d1 d2 x y v u X.A hd (by lia) h1 h2 rx ry X.prog X.w X.xe _ ⟨.bl _,H,I,rfl,q⟩
end L2
namespace L2
noncomputable def jb (n m:String):Bool:=(n==m)||(n=="bool"&&m=="int")
inductive HA (K:Wv)(H:Hp):V->String->Prop where
 |non:HA K H .non "NoneType"
 |bl (x:Bool):HA K H (.bl x) "bool"
 |int (i:Int):HA K H (.int i) "int"
 |str (x:Str):HA K H (.str x) "str"
 |lst {a:WT} {xs:List V} (e:H a=some (.lst xs)):HA K H (.ref a) "list"
 |frz {a:WT} {o:Obj} {xs:List V} (e:H a=some (.frz o (.lst xs))):HA K H (.ref a) "list"
 |tup {a:WT} {xs:List V} (e:H a=some (.tup xs)):HA K H (.ref a) "tuple"
 |dK {a:WT} {cC:List (j2×V)} (e:H a=some (.dK cC)):HA K H (.ref a) "dict"
 |dT {a:WT} {cC:List (List j2×V)} (e:H a=some (.dT cC)):HA K H (.ref a) "dict"
theorem xD:eT X (.type "range") (λxs H Q=>∃j,xs=[.int j]/\∀p,H p=none->Q (.ref p) (cY H p (.rng 0 j))):=by
 intro pins s σ H xs us Q I r h;obtain⟨j,rfl,q⟩:=h;obtain⟨u,rfl,rx⟩:=ja r;obtain⟨t,rfl⟩:=rx;refine call_range_1 ⟨.ref s.heap.objs.size,cY H s.heap.objs.size (.rng 0 j),I.laid (λb u e=>Ws _ e) (WI _) ?_,rfl,q _ (I.hok.fresh (WI _))⟩;exact⟨_,_,_,WJ _ rfl⟩
theorem zx {a:Int}{cG:Array WB}(h:ItemsOf (λi v=>∃t,v=Value.int (a+i*1) t) cG n):a9 ((Wu n).map λi=>V.int (a+(i:Nat))) cG.toList:=by
 obtain⟨hs,hi⟩:=h;have gen:∀(l:List WB) (k:Nat),(∀(i:Nat) v,l[i]? = some v->∃t,v=Value.int (a+((k+i:Nat):Int)*1) t)->a9 ((List.range' k l.length).map λi=>V.int (a+(i:Nat))) l:=by
  intro l
  induction l with
  |nil=>intro k _;exact .nil
  |cons v r ih=>
   intro k hk;rw[Ww,List.range'_succ,WQ];refine .cons ?_ (ih (k+1) λi v e=>?_)
   ·obtain⟨t,e⟩:=hk 0 v rfl;exact⟨t,by rw[e];simp⟩
   ·obtain⟨t,e'⟩:=hk (i+1) v (by simpa using e);refine⟨t,?_⟩;rw[e',show k+(i+1)=k+1+i by lia]
 have q:=gen cG.toList 0 (λi v e=>by
  obtain⟨t,e'⟩:=hi i v (by simpa using e);exact⟨t,by rw[e',Y2]⟩)
 rw[Wx,hs] at q;rw[List.range_eq_range'];exact q
theorem uh (hc:X.calm=true):eT X (.type "list") (λxs H Q=>∃p lo hi,xs=[.ref p]/\H p=some (.rng lo hi)/\(-(2 ^ 62)<=lo/\lo<2 ^ 62/\ -(2 ^ 62)<=hi/\hi<2 ^ 62)/\(hi-lo).toNat<=2 ^ 20/\
  ∀l,H l=none->Q (.ref l) (cY H l (.lst ((Wu (hi-lo).toNat).map λi=>V.int (lo+(i:Nat)))))):=by
 intro pins s σ H xs us Q I r h;obtain⟨p,lo,hi,rfl,hp,⟨h1,h2,h3,h4⟩,hz,q⟩:=h;obtain⟨u,rfl,rx⟩:=ja r;cases rx;obtain⟨t,u,v,e⟩:=I.hok p _ hp;refine call_list_range (n:=(hi-lo).toNat) (I.ok.hd hc) (c:=1) (show IsRange s.heap p lo hi 1 t u v from e) (small_one h1 h2 h3 h4) (by rw[rangeSize_one];split<;>lia) (by lia) λh' tk Tc c' hk KD GO=>?_;have hl:((Wu (hi-lo).toNat).map λi=>V.int (lo+(i:Nat))).length<=WE:=by
  rw[WC,X6,Yx];lia
 refine⟨.ref s.heap.objs.size,_,I.laid hk (WI _) (show dU X.prog X.w _ _ _ (.lst _) from ⟨hl,Tc.toList,c',zx GO,by simpa using KD⟩),rfl,q _ (I.hok.fresh (WI _))⟩
def Ep (i j:Int):Prop:=0<j/\j<18446744073709551616
theorem zy (h:n<18446744073709551616):n.log2<9000:=by
 by_cases h0:n=0
 ·subst h0;decide
 ·have:=(Nat.log2_lt h0 (k:=64)).mpr (by lia);lia
theorem gg:j3 X (ZQ .FloorDiv) (rI Ep λi j=>.int (i / j)):=QE λi j _ _ _ _ _ hc q=>by
 refine floordiv_int (by have:=hc.1;lia) ?_ (.inl (PyProof.noPylong_of_log2 (zy (by have:=hc.1;have:=hc.2;lia))));rw[Int.fdiv_eq_ediv_of_nonneg _ (by have:=hc.1;lia)];exact q
theorem HB:XG "list"=some (.type "list"):=by decide+kernel
theorem fE:XG "tuple"=some (.type "tuple"):=by decide+kernel
theorem Er:XG "range"=some (.type "range"):=by decide+kernel
theorem dw:XG "len"=some (.builtin "len"):=by decide+kernel
theorem Es:XG "max"=some (.builtin "max"):=by decide+kernel
theorem Lu:XG "min"=some (.builtin "min"):=by decide+kernel
theorem Et:XG "abs"=some (.builtin "abs"):=by decide+kernel
theorem jB:XG "sorted"=some (.builtin "sorted"):=by decide+kernel
theorem Lv:XG "sum"=some (.builtin "sum"):=by decide+kernel
end L2
namespace HT
open L2
section
variable {A:Xh}
theorem getItem_tuple_whole {t sl:WT}{vl vu:WB}{lo:Option Int}(ht:IsTup s.heap t items)(hs:s.heap.IsSliceOf sl vl vu .none)(pl:IsPart vl lo)(pu:IsPart vu hi)(hw:sIx items.size 0 lo=0/\sIx items.size items.size hi=items.size)(h:Q (.ref t) s):WU (W7 prog w) A (aa8 (.ref t) (.ref sl)) Q E s:=by
 obtain⟨os,hos,hcs,hds⟩:=id hs;have S0:s.TypeIs (.ref sl) "slice":=⟨os,hos,hcs⟩;unfold aa8
 try with_reducible refine X4 ?_
 first|refine Wq (Wt ?_)|skip
 refine Wq (wpAny_sequenceKey ht.typeIs (by decide) ?_);refine Wq (Xo (name:=YE "__getitem__") ht.typeIs Yz
  (Xl Yz ht.typeIs entry_tuple_getitem ?_ (args_tuple_getitem _ _)))
 show WU _ _ (ZW (.ref t) >>= _) _ _ s;refine Wq (tupleItemsOf_ ht ?_);refine Wq (abv S0 ?_);rw[hV (by decide)];refine Wq (jA hs pl pu ?_);obtain⟨w1,w2⟩:=hw;rw[w1,w2];show WU _ _ (if (((0:Nat):Int)==0&&(1:Int)==1&&(items.size-0)==items.size)=true then _ else _) _ _ s;rw[hV (by simp)];have G5:WU (W7 prog w) A.in1 (abh (.ref t)) (λb s'=>b=true/\s'=s) E s:=by
  unfold abh;exact Wq (abv ht.typeIs (Wt ⟨by decide,rfl⟩))
 refine Wq (XQ G5 (λb s' hb=>?_) λ_ _ e=>e);obtain⟨rfl,rfl⟩:=hb;rw[hV rfl];exact Wq (YQ (Wt ⟨_,rfl,Wt h⟩))
end
end HT
namespace L2
theorem rj (h:H p=none)(o:HO):aY H (cY H p o):=λb u q=>by rw[bo (b9 q h)];exact q
end L2
namespace HT
open L2
end HT
namespace L2
def xE:V->List V->Hp->VK->Prop:=λx vs H Q=>∃l b xs zs,x=.ref l/\vs=[.ref b]/\H l=some (.lst xs)/\H b=some (.tup zs)/\xs.length+zs.length<=WE/\Q .non (cY H l (.lst (xs++zs)))
theorem zz:Rx X "list.extend" xE:=by
 intro pins s σ H x vs v us Q I rx rv h;obtain⟨l,b,xs,zs,rfl,rfl,hH,hB,hz,q⟩:=h;cases rx;obtain⟨u,rfl,ru⟩:=rv.one;cases ru;obtain⟨z,its,n,r,hl,e⟩:=I.lstM hH;obtain⟨z2,its2,r2,_,n2,e2⟩:=I.hok b _ hB;have MW:=r2.length;have hsz:its.toArray.size+its2.toArray.size<=WE:=by rw[Wy,Wy];lia
 have GR:¬(!its.toArray.isEmpty&&Zj (its.toArray.size+its2.toArray.size))=true:=by
  rw[qU hsz,aaM];exact WA
 refine abO F.slot_list_extend ⟨_,e,rfl⟩ F.entry_list_extend (F.args_list_extend_2 _ _)
  (AutoSeq1.list_extend_list_tuple_0 l its.toArray n b its2.toArray n2 GR (by rw[Wy];lia) (by lia)) ⟨e,e2,?_⟩
 refine⟨.non,_,I.lset (its':=its++its2) hH e (by simp) (r.append r2) ?_,rfl,q⟩;rw[WG];lia
theorem vQ:eT X (.builtin "sorted") (λxs H Q=>∃(p:WT) (ns:List Int),xs=[.ref p]/\(f7 X.K H p (ns.map V.int)\/gK X.K H p (ns.map V.int))/\ns.length<64/\
  ∀(l:WT) (oV:List Int),H l=none->oV.Perm ns->oV.Pairwise (·<=·)->Q (.ref l) (cY H l (.lst (oV.map V.int)))):=by
 intro pins s σ H xs us Q I r h;obtain⟨p,ns,rfl,hq,h64,q⟩:=h;obtain⟨u,rfl,rx⟩:=ja r;cases rx;have DL:∃(T:String) (o:Obj) (its:List WB) (n:Nat),(T="list"\/T="tuple")/\s.heap.get? p=some o/\o.cls=.type T/\o.data=.seq its.toArray n/\YJ its ns:=by
  rcases hq with hq|hq
  ·obtain⟨its,rv,pl,hz⟩:=I.list hq;obtain⟨o,e,c,n,d⟩:=pl.isList;exact⟨"list",o,its,n,.inl rfl,e,c,d,dW rv⟩
  ·obtain⟨its,rv,pl,hz⟩:=I.tuple hq;obtain⟨o,e,c,n,d⟩:=pl;exact⟨"tuple",o,its,n,.inr rfl,e,c,d,dW rv⟩
 obtain⟨T,o,its,n,hT,ho,hc,hd,hI⟩:=DL;have df:its.length=ns.length:=hI.length;refine abF kind_sorted plain_sorted entry_sorted (args_sorted1 _) ?_;unfold Builtin.«sorted»;refine Wq (m:=checkCount "sorted" 1 1 _) (Wt ?_);refine Wq (ZT p hT ho hc hd (λh1 k1=>?_) (by rw[Wy,Yx];lia));refine Wq (wpAny_newList ?_);have MX:(h1.push (abx "list" its.toArray 0)).get? h1.objs.size=some (abx "list" its.toArray 0):=WJ _ rfl;have MY:(h1.push {cls:=.type "list",data:=.seq (its.toArray.toList).toArray}).get? h1.objs.size=some (abx "list" its.toArray 0):=by simpa using MX
 refine Wq (X4 (Xl slot_list_sort ⟨_,MY,rfl⟩ entry_list_sort (list_sort_tree MY hI (by lia) λout oV a1 a2 a3=>⟨_,rfl,?_⟩) (args_list_sort _)));refine Wt ⟨_,rfl,?_⟩;obtain⟨e,he⟩:=sortedHeap_at (out:=out) MY;have keep:∀b o,h1.get? b=some o->(sortedHeap (h1.push {cls:=.type "list",data:=.seq (its.toArray.toList).toArray}) h1.objs.size its out).get? b=some o:=λb o e=>by
  have hb:=WO e;rw[sortedHeap_old (W6 hb) (by rw[X2];exact YR hb)];exact Ws _ e
 have I1:aN X pins σ H {s with heap:=h1}:=I.kept (t':=s.toks) k1;have MW:(oV.map V.int).length<=WE:=by rw[WC,a2.length_eq,Yx];lia
 exact⟨.ref h1.objs.size,_,I1.laid (t':=s.toks) keep (WI _) (show dU X.prog X.w _ _ _ (.lst _) from ⟨MW,out.toList,e,oj a1,by simpa using he⟩),rfl,q _ oV (I1.hok.fresh (WI _)) a2 a3⟩
def Eu (K:Wv):V->Option Int->Option Int->Hp->VK->Prop:=λx lo hi H Q=>∃a xs,x=.ref a/\H a=some (.tup xs)/\∀r H',aY H H'->H' r=some (.tup (qT xs lo hi))->Q (.ref r) H'
theorem HC:Eb X (Eu X.K):=by
 have base:Eb X (NP X.K):=Lj;intro pins s σ H x v vl vu lo hi sl Q I rx hs pl pu h;obtain⟨a,xs,rfl,t7,q⟩:=h;have hx:gK X.K H a xs:=gK.of t7;by_cases hw:HT.sIx xs.length 0 lo=0/\HT.sIx xs.length xs.length hi=xs.length
 ·cases rx;obtain⟨its,r,ht,hz⟩:=I.tuple hx;have hl:its.toArray.size=xs.length:=by rw[Wy,r.length]
  refine⟨"tuple",_,PyProof.Rows.slot_tuple_getitem.lookup,ht.typeIs,HT.getItem_tuple_whole ht hs pl pu (by rw[hl];exact hw) ⟨.ref a,H,I,rfl,q a H (aY.refl _) ?_⟩⟩;have e:qT xs lo hi=xs:=by unfold qT;rw[hw.1,hw.2];simp
  rw[e];exact t7
 ·exact base pins s σ H _ v vl vu lo hi sl Q I rx hs pl pu ⟨a,xs,rfl,hx,hw,λp hp=>q p _ (rj hp _) bT⟩
def Ew:R2:=λx y H Q=>∃a b xs ys,x=.ref a/\y=.ref b/\H a=some (.tup xs)/\H b=some (.tup ys)/\xs.length+ys.length<=WE/\∀r H',aY H H'->H' r=some (.tup (xs++ys))->Q (.ref r) H'
theorem Ex:j3 X (ZQ .Add) Ew:=by
 intro pins s σ H x y v u Q I rx ry h;obtain⟨a,b,xs,ys,rfl,rfl,AQ,qw,hz,q⟩:=h;have ha:gK X.K H a xs:=gK.of AQ;have hb:gK X.K H b ys:=gK.of qw;by_cases hx:xs=[]
 ·subst hx;cases rx;cases ry;obtain⟨its,r1,p1,_⟩:=I.tuple ha;obtain⟨its2,r2,p2,_⟩:=I.tuple hb;have e1:its=[]:=(a9.nil_iff r1).mpr rfl;subst e1;obtain⟨⟨cls,dd,data,sl⟩,ho,hc,n,hd⟩:=id p1;obtain⟨⟨cls2,Ky,data2,Kz⟩,ho2,hc2,n2,AR⟩:=id p2;simp only at hc hd hc2 AR;subst hc hd hc2 AR;exact concat_meets ⟨_,ho,rfl⟩ ⟨_,ho2,rfl⟩ noFill_tuple_add seq_tuple_add aaz aam (aae _ _)
   (tuple_addW0 a b ([]:List WB).toArray its2.toArray n n2 dd Ky sl Kz (by simp)) ⟨ho,ho2,⟨.ref b,H,I,rfl,q b H (aY.refl _) (by simpa using qw)⟩⟩
 ·refine Ht pins s σ H _ _ v u Q I rx ry ⟨a,b,xs,ys,rfl,rfl,ha,hb,hx,hz,λe=>?_,λ_ p hp=>q p _ (rj hp _) bT⟩;subst e;exact q a H (aY.refl _) (by simpa using AQ)
end L2
namespace L2
structure Fn (P:XF)(w:Zu)(K:Wv)(mg:Str->Option WB)(base:Y8)(x:Str)(k:Nat)(ps:List Str)(sp:Sp):Prop where
 ex:∃(f:WT) (fd:aaX),mg x=some (.ref f)/\Zw K (.ref f)=true/\uI K fd ps []/\lJ P w K mg base xx k f fd ps sp
structure Df (K:Wv)(mg:Str->Option WB)(x:Str)(st:aak):Prop where
 ex:∃(f:WT) (fd:aaX),mg x=some (.ref f)/\G3 K x x st f fd
section
variable {P:XF}{base:Y8}
theorem Df.fn (d:Df K mg x st)(S:aR N ps (aq st))(hb:∀(kV n9 pm:WB) (an:Option WT) (cP ct:WB) (us:List WB),us.length=ps.length->bindArgs (Yp x x (fD st) (cx st) (aq st) .none kV n9 pm an cP ct) ⟨us,[]⟩=pure (ps.zip us))(len:∀vs H Q E,sp vs H Q E->vs.length=ps.length)(i0:∀(f:WT) (cP:WB) (A:Xh) (outer:List Env) (s:WN) (H:Hp) (vs:List V) (Q:VK) (E:XK),fB k (A.deeper (abt x (aq st) s.heap.objs.size f cP))->sp vs H Q E->
   ∃t,ud (p7 xx P w K mg base N x (aq st) f cP A outer s H E).nox (cx st) t/\t {nx:=λ_ H'=>Q .non H',rt:=Q} (aaj N vs) H):Fn P w K mg base x (k+1) ps sp:=by
 obtain⟨f,fd,m,F⟩:=d.ex;exact⟨f,fd,m,F.kp,F.binds hb,F.ok S len (i0 f)⟩
end
section
variable {p:Pos}{e:Yv}{es:List Yv}{t:TA}
theorem xF (F:Fn X.prog X.w X.K X.mg X.base x k ps sp)(hr:fB k X.A)(ha:PA X (e::es) t)(hg:Gl X x:=by rfl)(AM:(x==("__debug__":Str))=false:=by decide)
  (he:WY (e::es) X.env=(false,Z0 e X.env)::WY es X.env:=by rfl) (t9:(Zc pos (WY es X.env)).any (·.1)=false:=by rfl) :
  PE X (.Call (.Name x p) (e::es) [] pos) (Ji sp [] E0 t):=by
 obtain⟨f,fd,hm,hk,hb,G⟩:=F.ex;exact Ho G hr hg hm hk hb .nil NY ha AM he t9
end
theorem aY.seqT (e:aY H H')(h:gK K H a xs):gK K H' a xs:=by
 rcases h with (h|⟨o,h⟩)|h
 ·exact .inl (.inl (e _ _ h))
 ·exact .inl (.inr ⟨o,e _ _ h⟩)
 ·exact .inr h
mutual
theorem aY.rep {K:Wv}{H H':Hp}(e:aY H H'):∀{d:D} {v:V},a6 K H d v->a6 K H' d v
 | .non,v,h=>by unfold a6 at h ⊢;exact h
 | .bl b,v,h=>by unfold a6 at h ⊢;exact h
 | .int b,v,h=>by unfold a6 at h ⊢;exact h
 | .str b,v,h=>by unfold a6 at h ⊢;exact h
 | .tup ds,v,h=>by
  unfold a6 at h ⊢;obtain⟨a,xs,r,q,z⟩:=h;exact⟨a,xs,r,e.seqT q,aY.reps e z⟩
 | .lst ds,v,h=>by
  unfold a6 at h ⊢;obtain⟨a,xs,r,q,z⟩:=h;exact⟨a,xs,r,e.seq q,aY.reps e z⟩
theorem aY.reps {K:Wv}{H H':Hp}(e:aY H H'):∀{ds:List D} {vs:List V},f9 K H ds vs->f9 K H' ds vs
 | [],vs,h=>by unfold f9 at h ⊢;exact h
 |d::ds,vs,h=>by
  unfold f9 at h ⊢;obtain⟨x,r,q,p,z⟩:=h;exact⟨x,r,q,aY.rep e p,aY.reps e z⟩
end
end L2
namespace L2
inductive U where
 |non|bl (b:Bool)|int (i:Int)|str (x:Str)|tup (xs:List U)|lst (xs:List U)|dct (ks vs:List U)|scr (xs:List U)
instance:Inhabited U:=⟨.non⟩
inductive R (α:Type) where
 |ok (a:α)|exc (c:String) (u:U)|stk
noncomputable def R.bind {α β:Type}:R α->(α->R β)->R β
 | .ok a,f=>f a
 | .exc c u,_=>.exc c u
 | .stk,_=>.stk
noncomputable abbrev Ev:=List (Option U)
inductive SR where
 |nx (ρ:Ev)|rt (u:U) (ρ:Ev)|bk (ρ:Ev)|ct (ρ:Ev)|exc (c:String) (u:U)|stk
end L2
variable {us ks:List L2.U}{P u u' row:L2.U}{es:List (List L2.U×WT×L2.V)}{ρ:L2.Ev}{sg:L2.U->L2.Ev->L2.R L2.Ev}{F:L2.U->L2.U}{y3 y5 y6 y0 y4:Option L2.U}
namespace L2
open Sem (wp)
mutual
noncomputable def uQ:U->U->Bool
 | .non,.non=>true
 | .bl a,.bl b=>decide (a=b)
 | .int a,.int b=>decide (a=b)
 | .str a,.str b=>decide (a=b)
 | .tup a,.tup b=>oq a b
 | .lst a,.lst b=>oq a b
 | .dct a b,.dct c d=>oq a c&&oq b d
 | .scr a,.scr b=>oq a b
 |_,_=>false
noncomputable def oq:List U->List U->Bool
 | [],[]=>true
 |x::xs,y::ys=>uQ x y&&oq xs ys
 |_,_=>false
end
mutual
theorem zA:∀{a b:U},uQ a b=true->a=b
 | .non,b,h=>by cases b<;>first|rfl|(unfold uQ at h;cases h)
 | .bl a,b,h=>by cases b<;>unfold uQ at h<;>first|(cases h;done)|rw[of_decide_eq_true h]
 | .int a,b,h=>by cases b<;>unfold uQ at h<;>first|(cases h;done)|rw[of_decide_eq_true h]
 | .str a,b,h=>by cases b<;>unfold uQ at h<;>first|(cases h;done)|rw[of_decide_eq_true h]
 | .tup a,b,h=>by cases b<;>unfold uQ at h<;>first|(cases h;done)|rw[k9 h]
 | .lst a,b,h=>by cases b<;>unfold uQ at h<;>first|(cases h;done)|rw[k9 h]
 | .scr a,b,h=>by cases b<;>unfold uQ at h<;>first|(cases h;done)|rw[k9 h]
 | .dct a c,b,h=>by
  cases b<;>unfold uQ at h<;>first|(cases h;done)|skip
  rw[WX] at h;rw[k9 h.1,k9 h.2]
theorem k9:∀{a b:List U},oq a b=true->a=b
 | [],[],_=>rfl
 | [],_::_,h=>by unfold oq at h;cases h
 |_::_,[],h=>by unfold oq at h;cases h
 |x::xs,y::ys,h=>by
  unfold oq at h;rw[WX] at h;rw[zA h.1,k9 h.2]
end
mutual
theorem xG:∀(a:U),uQ a a=true
 | .non=>rfl
 | .bl a=>by unfold uQ;exact hG rfl
 | .int a=>by unfold uQ;exact hG rfl
 | .str a=>by unfold uQ;exact hG rfl
 | .tup a=>by unfold uQ;exact iC a
 | .lst a=>by unfold uQ;exact iC a
 | .scr a=>by unfold uQ;exact iC a
 | .dct a b=>by unfold uQ;rw[iC a,iC b];rfl
theorem iC:∀(a:List U),oq a a=true
 | []=>by unfold oq;rfl
 |x::xs=>by unfold oq;rw[xG x,iC xs];rfl
end
noncomputable instance UO:DecidableEq U:=λa b=>if h:uQ a b=true then .isTrue (zA h) else .isFalse λe=>h (by rw[e];exact xG b)
mutual
def gN (h:Y8):U->WB->Prop
 | .int i,v=>∃t,v=.int i t
 | .tup us,v=>∃a items,v=.ref a/\h.IsTuple a items/\dz h us items.toList
 |_,_=>False
def dz (h:Y8):List U->List WB->Prop
 | [],vs=>vs=[]
 |u::us,vs=>∃v r,vs=v::r/\gN h u v/\dz h us r
end
mutual
noncomputable def hK:U->Int
 | .int i=>hashInt i
 | .tup us=>reduceHash (X9 (xo us))
 |_=>0
noncomputable def xo:List U->List Int
 | []=>[]
 |u::us=>hK u::xo us
end
mutual
noncomputable def DF:U->Nat
 | .tup us=>ou us+1
 |_=>1
noncomputable def ou:List U->Nat
 | []=>0
 |u::us=>DF u+ou us
end
mutual
noncomputable def xH:U->Nat
 | .tup us=>rk us+1
 |_=>0
noncomputable def rk:List U->Nat
 | []=>0
 |u::us=>max (xH u) (rk us)
end
theorem zB {x y:Array WB}(h1:h.IsTuple a x)(h2:h.IsTuple a y):x=y:=by
 obtain⟨o,e,_,n,d⟩:=h1;obtain⟨o',e',_,n',d'⟩:=h2;rw[e] at e';cases e';rw[d] at d';cases d';rfl
mutual
theorem gN.inj {h:Y8}:∀{x y:U} {v:WB},gN h x v->gN h y v->x=y
 | .int i,y,v,h1,h2=>by
  unfold gN at h1;obtain⟨t,rfl⟩:=h1;cases y<;>unfold gN at h2<;>first|exact h2.elim|skip
  ·obtain⟨u,e⟩:=h2;cases e;rfl
  ·obtain⟨_,_,e,_⟩:=h2;cases e
 | .str i,y,v,h1,h2=>by unfold gN at h1;exact h1.elim
 | .tup us,y,v,h1,h2=>by
  unfold gN at h1;obtain⟨a,its,rfl,q,z⟩:=h1;cases y<;>unfold gN at h2<;>first|exact h2.elim|skip
  ·obtain⟨u,e⟩:=h2;cases e
  ·obtain⟨a',its',e,q',z'⟩:=h2;cases e;have:=zB q q';subst this;rw[dz.inj z z']
 | .non,y,v,h1,h2=>by unfold gN at h1;exact h1.elim
 | .bl _,y,v,h1,h2=>by unfold gN at h1;exact h1.elim
 | .lst _,y,v,h1,h2=>by unfold gN at h1;exact h1.elim
 | .dct _ _,y,v,h1,h2=>by unfold gN at h1;exact h1.elim
 | .scr _,y,v,h1,h2=>by unfold gN at h1;exact h1.elim
theorem dz.inj {h:Y8}:∀{x y:List U} {vs:List WB},dz h x vs->dz h y vs->x=y
 | [],y,vs,h1,h2=>by
  unfold dz at h1;subst h1;cases y with
  |nil=>rfl
  |cons=>unfold dz at h2;obtain⟨_,_,e,_⟩:=h2;cases e
 |u::us,y,vs,h1,h2=>by
  unfold dz at h1;obtain⟨v,r,rfl,p,q⟩:=h1;cases y with
  |nil=>unfold dz at h2;cases h2
  |cons=>
   unfold dz at h2;obtain⟨v',r',e,p',q'⟩:=h2;cases e;rw[gN.inj p p',dz.inj q q']
end
mutual
theorem gN.keep {h h':Y8}(k:∀a its,h.IsTuple a its->h'.IsTuple a its):∀{x:U} {v:WB},gN h x v->gN h' x v
 | .int i,v,h1=>by unfold gN at h1 ⊢;exact h1
 | .str i,v,h1=>by unfold gN at h1;exact h1.elim
 | .tup us,v,h1=>by
  unfold gN at h1 ⊢;obtain⟨a,its,e,q,z⟩:=h1;exact⟨a,its,e,k a its q,dz.keep k z⟩
 | .non,v,h1=>by unfold gN at h1;exact h1.elim
 | .bl _,v,h1=>by unfold gN at h1;exact h1.elim
 | .lst _,v,h1=>by unfold gN at h1;exact h1.elim
 | .dct _ _,v,h1=>by unfold gN at h1;exact h1.elim
 | .scr _,v,h1=>by unfold gN at h1;exact h1.elim
theorem dz.keep {h h':Y8}(k:∀a its,h.IsTuple a its->h'.IsTuple a its):∀{x:List U} {vs:List WB},dz h x vs->dz h' x vs
 | [],vs,h1=>by unfold dz at h1 ⊢;exact h1
 |u::us,vs,h1=>by
  unfold dz at h1 ⊢;obtain⟨v,r,e,p,q⟩:=h1;exact⟨v,r,e,gN.keep k p,dz.keep k q⟩
end
theorem dz.length {h:Y8}:∀{us:List U} {vs:List WB},dz h us vs->us.length=vs.length
 | [],vs,h1=>by unfold dz at h1;subst h1;rfl
 |u::us,vs,h1=>by
  unfold dz at h1;obtain⟨v,r,rfl,p,q⟩:=h1;rw[Ww,Ww,dz.length q]
theorem dz.get {h:Y8}:∀{us:List U} {vs:List WB} {i:Nat} {u:U} {v:WB},dz h us vs->us[i]? = some u->vs[i]? = some v->gN h u v
 | [],_,_,_,_,_,e,_=>by simp at e
 |w::us,_,i,u,v,h,e1,e2=>by
  unfold dz at h;obtain⟨x,r,rfl,p,q⟩:=h;cases i with
  |zero=>simp at e1 e2;subst e1 e2;exact p
  |succ i=>exact dz.get q (by simpa using e1) (by simpa using e2)
theorem mO:∀{us:List U} {i:Nat} {u:U},us[i]? = some u->xH u<=rk us
 | [],_,_,e=>by simp at e
 |w::us,i,u,e=>by
  unfold rk;cases i with
  |zero=>simp at e;subst e;exact Nat.le_max_left _ _
  |succ i=>exact Xz (mO (us:=us) (by simpa using e)) (Nat.le_max_right _ _)
theorem rn:∀(a b:List U),xo (a++b)=xo a++xo b
 | [],b=>by unfold xo;rfl
 |x::a,b=>by rw[Yr,xo,xo,rn a b];rfl
theorem o3:∀(a b:List U),ou (a++b)=ou a+ou b
 | [],b=>by rw[XX];show _=0+_;lia
 |x::a,b=>by rw[Yr,ou,ou,o3 a b];lia
theorem Lw:∀(n:Nat) (u:U) (v:WB) (A:Xh) (E:WB->WN->Prop) (s:WN) (Q:Int->WN->Prop),xH u<=n->A.units+n<Yy->gN s.heap u v->Q (hK u) {s with toks:=s.toks+DF u} ->
  WU (W7 prog w) A (pyHash v) Q E s:=by
 intro n
 induction n with
 |zero=>
  intro u v A E s Q hd hu hk h;cases u<;>unfold gN at hk<;>first|exact hk.elim|skip
  ·obtain⟨t,rfl⟩:=hk;unfold hK DF at h;exact wpAny_pyHash_int h
  ·unfold xH at hd;lia
 |succ n ih=>
  intro u v A E s Q hd hu hk h;cases u<;>unfold gN at hk<;>first|exact hk.elim|skip
  ·obtain⟨t,rfl⟩:=hk;unfold hK DF at h;exact wpAny_pyHash_int h
  ·rename_i us;unfold xH at hd;obtain⟨a,items,rfl,ht,hi⟩:=hk;have hT:s.TypeIs (.ref a) "tuple":=let ⟨o,e,c,_⟩:=ht;⟨o,e,c⟩
   obtain⟨o,ho,_,nn,hdat⟩:=ht;unfold pyHash
   first|unfold pyHashByItsType|skip
   first|refine Wq (wpAny_cRoomFor_or (.inr (by lia)) ?_)|skip
   refine Wq (ZE hT F.slot_tuple_hash.lookup ?_);show WU _ _ (if (some (Value.builtin "tuple.__hash__")==some Value.none)=true then _ else _) Q E s;rw[hU (by rw[beq_builtin_none];exact WA)];refine Wq (ZE hT F.slot_tuple_hash.lookup ?_);show WU _ _ (callSpecialIfBoundUnlessNone? (.ref a) "__hash__" _ >>= _) Q E s;refine Wq (wpAny_callSpecialIfBoundUnlessNone?_slot hT F.slot_tuple_hash (Xl F.slot_tuple_hash hT F.entry_tuple_hash ?_ (F.args_tuple_hash_1 _)));show WU _ _ (ZW (.ref a) >>= _) _ _ s;refine Wq (wpAny_tupleItemsOf ho hdat ?_);refine Wq ?_;rw[←aby];refine aaS _
    (λrest (b:Array Int) s'=>∃done left,us=done++left/\dz s.heap left rest/\b.toList=xo done/\s'={s with toks:=s.toks+ou done})
    _ ?_ ?_ _ _ ⟨[],us,rfl,hi,by unfold xo;rfl,by unfold ou;rfl⟩
   ·rintro x rest b s' ⟨done,left,rfl,hl,hb,rfl⟩;cases left with
    |nil=>unfold dz at hl;cases hl
    |cons k ks'=>
     unfold dz at hl;obtain⟨v',r',e,h1,hl'⟩:=hl;cases e;have Td:xH k<=n:=by
      have:=mO (us:=done++k::ks') (i:=done.length) (u:=k) (by simp);lia
     refine Wq (ih k x A.in1 E _ _ Td (by show A.units+1+n<Yy;lia) h1 ?_);have e2:xo (done++[k])=xo done++[hK k]:=by rw[rn];unfold xo xo;rfl
     have e3:ou (done++[k])=ou done+DF k:=by rw[o3];show _+(DF k+ou [])=_;unfold ou;lia
     first
      |exact Wt ⟨done++[k],ks',by simp,hl',by simp[hb,e2],by simp[e3,Zr]⟩
      |exact Wq (Wt (Wt ⟨done++[k],ks',by simp,hl',by simp[hb,e2],by simp[e3,Zr]⟩))
   ·rintro b s' ⟨done,left,rfl,hl,hb,rfl⟩;cases left with
    |cons k ks'=>unfold dz at hl;obtain⟨_,_,e,_⟩:=hl;cases e
    |nil=>
     rw[Xj] at h;show WU _ _ (retInt (X9 b.toList)) _ _ _;rw[hb];refine wpAny_ret_mkInt ?_;show WU _ _ (if (decide (-(2:Int) ^ 63<=X9 (xo done))&&decide (X9 (xo done)<2 ^ 63))=true then _ else _) Q E _;unfold hK DF reduceHash at h;by_cases hr:(decide (-(2:Int) ^ 63<=X9 (xo done))&&decide (X9 (xo done)<2 ^ 63))=true
     ·rw[hV hr];rw[hV hr] at h;exact Wt (by simpa [Zr] using h)
     ·rw[hU hr];rw[hU hr] at h;exact Wq (YQ (Wt (by simpa [Zr] using h)))
theorem Rz:∀(n:Nat) (x y:U) (u v:WB) (A:Xh),xH x<=n->A.units+n<Yy->gN s.heap x u->gN s.heap y v->Zh A s u v (decide (x=y)):=by
 intro n
 induction n with
 |zero=>
  intro x y u v A hd hu h1 h2;have du:A.units<Yy:=by lia
  cases x<;>(try (unfold gN at h1;exact h1.elim))
  case int i=>
   unfold gN at h1;obtain⟨t,rfl⟩:=h1;cases y<;>(try (unfold gN at h2;exact h2.elim))
   case int j=>
    unfold gN at h2;obtain⟨t',rfl⟩:=h2;have:=abu (A:=A) (s:=s) i t j t';have e:decide (U.int i=U.int j)=(i==j):=by rw[ZF];simp
    rw[e];exact this
   case tup us=>
    unfold gN at h2;obtain⟨a,its,rfl,ht,_⟩:=h2;rw[hJ (by intro z;cases z)];exact SeqAt.EqAt.int_tuple i t ht du
  case tup us=>unfold xH at hd;lia
 |succ n ih=>
  intro x y u v A hd hu h1 h2;have du:A.units<Yy:=by lia
  cases x<;>(try (unfold gN at h1;exact h1.elim))
  case int i=>exact ih _ y u v A (by unfold xH;lia) (by lia) h1 h2
  case tup us=>
   unfold xH at hd;have Qm:=h1;unfold gN at h1;obtain⟨a,its,rfl,p1,z1⟩:=h1;cases y<;>(try (unfold gN at h2;exact h2.elim))
   case int j=>
    unfold gN at h2;obtain⟨t',rfl⟩:=h2;rw[hJ (by intro z;cases z)];exact SeqAt.EqAt.tuple_int j t' p1 du
   case tup ws=>
    have KG:=h2;unfold gN at h2;obtain⟨b,its2,rfl,p2,z2⟩:=h2;by_cases vJ:a=b
    ·subst vJ;rw[gN.inj Qm KG,hG rfl];exact aa_ _
    ·refine abw vJ ?_;have l1:its.size=us.length:=by rw[z1.length,Wx]
     have l2:its2.size=ws.length:=by rw[z2.length,Wx]
     have he:∀j (g1:j<its.size) (g2:j<its2.size),Zh A.in1 s its[j] its2[j] (decide (us[j]? = ws[j]?)):=λj g1 g2=>by
      have q1:us[j]? = some us[j]:=Wr (by lia);have q2:ws[j]? = some ws[j]:=Wr (by lia);have y1:its.toList[j]? = some its[j]:=by rw[WS];exact W5 g1
      have y2:its2.toList[j]? = some its2[j]:=by rw[WS];exact W5 g2
      have e:decide (us[j]? = ws[j]?)=decide (us[j]=ws[j]):=by rw[q1,q2,ZF];simp
      rw[e];refine ih us[j] ws[j] its[j] its2[j] A.in1 ?_ (by show A.units+1+n<Yy;lia) (z1.get q1 y1) (z2.get q2 y2);have:=mO q1;lia
     have q:=abQ (A:=A) p1 p2 du he;rw[l1,l2] at q;have fin:((Wu (min us.length ws.length)).all (λj=>decide (us[j]? = ws[j]?))&&us.length==ws.length)=decide (U.tup us=U.tup ws):=by
      rw[ZF,WX,WR,decide_eq_true_eq];constructor
      ·rintro⟨ha,hl⟩;have hl:us.length=ws.length:=by simpa using hl
       congr 1;refine Zk λj=>?_;by_cases hj:j<us.length
       ·exact of_decide_eq_true (ha j (Xb.mpr (by lia)))
       ·rw[X_.mpr (by lia),X_.mpr (by lia)]
      ·intro e;cases e;exact⟨λj _=>hG rfl,by simp⟩
     rw[←fin];exact q
theorem HD:∀(n:Nat) (x:U) (v:WB) (A:Xh) (E:WB->WN->Prop) (s:WN) (Q:Bool->WN->Prop),xH x<=n->gN s.heap x v->Q true s->WU (W7 prog w) A (eqIsQuiet n v) Q E s:=by
 intro n
 induction n with
 |zero=>
  intro x v A E s Q hd hk h;cases x<;>unfold gN at hk<;>first|exact hk.elim|skip
  ·obtain⟨t,rfl⟩:=hk;rw[eqIsQuiet_byValue _ rfl];exact Wt h
  ·unfold xH at hd;lia
 |succ n ih=>
  intro x v A E s Q hd hk h;cases x<;>unfold gN at hk<;>first|exact hk.elim|skip
  ·obtain⟨t,rfl⟩:=hk;rw[eqIsQuiet_byValue _ rfl];exact Wt h
  ·rename_i us;unfold xH at hd;obtain⟨a,items,rfl,ht,hi⟩:=hk;have hT:s.TypeIs (.ref a) "tuple":=let ⟨o,e,c,_⟩:=ht;⟨o,e,c⟩
   obtain⟨o,ho,_,nn,hdat⟩:=ht;unfold eqIsQuiet;refine Wq (ZE hT F.slot_tuple_eq.lookup ?_);show WU _ _ (isInstance (.ref a) (.type "tuple") >>= _) _ _ s;refine Wq (Z6 hT isSubtype_tuple_tuple ?_);simp only[ZU,W9,if_false];refine Wq (YL ho hdat ?_);refine Wq ?_;show WU _ _ (forIn items _ _) _ _ s;rw[←aby];refine aaS _ (λrest r s'=>r.1=none/\s'=s/\∃done left,us=done++left/\dz s.heap left rest) _ ?_ ?_ _ _ ⟨rfl,rfl,[],us,rfl,hi⟩
   ·rintro v rest r s' ⟨hr,rfl,done,left,rfl,hl⟩;cases left with
    |nil=>unfold dz at hl;cases hl
    |cons k ks'=>
     unfold dz at hl;obtain⟨v',r',e,h1,hl'⟩:=hl;cases e;have Td:xH k<=n:=by
      have:=mO (us:=done++k::ks') (i:=done.length) (u:=k) (by simp);lia
     refine Wq (ih k v A E _ _ Td h1 ?_);simp only[ZU,W9,if_false];exact Wt ⟨rfl,rfl,done++[k],ks',by simp,hl'⟩
   ·rintro⟨r1,r2⟩ s' ⟨hr,rfl,_⟩;simp only at hr;subst hr;exact Wt h
def TK (h:Y8)(us:List U)(a:WT):Prop:=rk us<=6/\∃items,h.IsTuple a items/\dz h us items.toList
theorem TK.is (x:TK h us a):xH (.tup us)<=7/\gN h (.tup us) (.ref a):=by
 obtain⟨l,its,t,z⟩:=x;exact⟨by unfold xH;lia,by unfold gN;exact⟨a,its,rfl,t,z⟩⟩
theorem mP {x y:List U}:(U.tup x=U.tup y)↔x=y:=⟨λh=>by cases h;rfl,λh=>by rw[h]⟩
noncomputable def cc (prog:XF)(w:Zu):aar prog w (List U) where
 is:=TK
 hash:=λus=>hK (.tup us)
 draws:=λus=>DF (.tup us)
 room:=λA=>A.units+20<Yy
 inj:=λhx hy=>mP.mp (gN.inj hx.is.2 hy.is.2)
 keeps:=λ{h h' k a d o es ep} x ho hd hs=>by
  have kp:∀b its,h.IsTuple b its->h'.IsTuple b its:=λb its h00=>by
   obtain⟨o',e,c,n,z⟩:=h00;have G6:b≠d:=by
    rintro rfl;obtain rfl:o'=o:=W0 (e.symm.trans ho);rw[hd] at z;exact nomatch z
   exact⟨o',(hs.2 b G6).trans e,c,n,z⟩
  obtain⟨l,its,t,z⟩:=x;exact⟨l,its,kp _ _ t,z.keep kp⟩
 pyHash:=λ{A E s k a Q} hu hk h=>Lw 7 (.tup k) (.ref a) A E s Q hk.is.1 (by lia) hk.is.2 h
 eqBool:=λ{A E s x y a b Q} hu hx hy h=>Rz 7 (.tup x) (.tup y) (.ref a) (.ref b) A hx.is.1 (by lia) hx.is.2 hy.is.2 prog w E Q (by
  have e:decide (U.tup x=U.tup y)=decide (x=y):=by rw[ZF,decide_eq_true_eq,decide_eq_true_eq];exact mP
  rw[e];exact h)
 quiet:=λ{A E s k a Q} hk h=>HD 8 (.tup k) (.ref a) A E s Q (Xz hk.is.1 (by lia)) hk.is.2 h
def Lx (p:List U×WT×V)(q:List U×WT×WB):Prop:=p.1=q.1/\p.2.1=q.2.1/\bu p.2.2 q.2.2
noncomputable def N3 (e:List U×WT×WB):DictEntry:=⟨hK (.tup e.1),.ref e.2.1,e.2.2⟩
def N4 (a:WT)(ep:Nat)(es:List (List U×WT×V))(h:Y8):Prop:=(a==YN)=false/\∃o ds,∃xs:List (List U×WT×WB),h.get? a=some o/\o.ExactDict/\o.data=.dict ds ep/\abk Lx es xs/\ds.toList=xs.map N3
noncomputable def DN (a:WT)(ep:Nat)(es:List (List U×WT×V)):HO:=.ext (N4 a ep es)
mutual
def KH (H:Hp):U->V->Prop
 | .int i,v=>v=.int i
 | .tup us,v=>∃b ys,v=.ref b/\H b=some (.tup ys)/\us.length<=WE/\rq H us ys
 |_,_=>False
def rq (H:Hp):List U->List V->Prop
 | [],vs=>vs=[]
 |u::us,vs=>∃v r,vs=v::r/\KH H u v/\rq H us r
end
mutual
theorem KH.to {H H':Hp}(e:∀b ys,H b=some (.tup ys)->H' b=some (.tup ys)):∀{u:U} {v:V},KH H u v->KH H' u v
 | .int i,v,h=>by unfold KH at h ⊢;exact h
 | .tup us,v,h=>by
  unfold KH at h ⊢;obtain⟨b,ys,r,q,l,z⟩:=h;exact⟨b,ys,r,e b ys q,l,rq.to e z⟩
 | .non,v,h=>by unfold KH at h;exact h.elim
 | .bl _,v,h=>by unfold KH at h;exact h.elim
 | .str _,v,h=>by unfold KH at h;exact h.elim
 | .lst _,v,h=>by unfold KH at h;exact h.elim
 | .dct _ _,v,h=>by unfold KH at h;exact h.elim
 | .scr _,v,h=>by unfold KH at h;exact h.elim
theorem rq.to {H H':Hp}(e:∀b ys,H b=some (.tup ys)->H' b=some (.tup ys)):∀{us:List U} {vs:List V},rq H us vs->rq H' us vs
 | [],vs,h=>by unfold rq at h ⊢;exact h
 |u::us,vs,h=>by
  unfold rq at h ⊢;obtain⟨v,r,q,p,z⟩:=h;exact⟨v,r,q,KH.to e p,rq.to e z⟩
end
section
variable {P:XF}
mutual
theorem KH.is (ok:lH P w H h):∀{u:U} {v:V} {x:WB},KH H u v->bu v x->gN h u x
 | .int i,v,x,k,r=>by
  unfold KH at k;subst k;obtain⟨t,rfl⟩:=r;unfold gN;exact⟨t,rfl⟩
 | .tup us,v,x,k,r=>by
  unfold KH at k;obtain⟨b,ys,rfl,q,_,z⟩:=k;cases r;obtain⟨_,its,rv,it,_⟩:=ok b _ q;unfold gN;exact⟨b,its.toArray,rfl,it,by simpa using rq.is ok z rv⟩
 | .non,v,x,k,r=>by unfold KH at k;exact k.elim
 | .bl _,v,x,k,r=>by unfold KH at k;exact k.elim
 | .str _,v,x,k,r=>by unfold KH at k;exact k.elim
 | .lst _,v,x,k,r=>by unfold KH at k;exact k.elim
 | .dct _ _,v,x,k,r=>by unfold KH at k;exact k.elim
 | .scr _,v,x,k,r=>by unfold KH at k;exact k.elim
theorem rq.is (ok:lH P w H h):∀{us:List U} {vs:List V} {xs:List WB},rq H us vs->a9 vs xs->dz h us xs
 | [],vs,xs,k,r=>by
  unfold rq at k;subst k;cases r;unfold dz;rfl
 |u::us,vs,xs,k,r=>by
  unfold rq at k;obtain⟨v,vr,rfl,p,z⟩:=k;cases r with
  |cons r1 r2=>
   unfold dz;exact⟨_,_,rfl,KH.is ok p r1,rq.is ok z r2⟩
end
def zC (H:Hp)(us:List U)(b:WT):Prop:=rk us<=6/\∃ys,H b=some (.tup ys)/\us.length<=WE/\rq H us ys
theorem zC.tk (ok:lH P w H h)(k:zC H us b):TK h us b:=by
 obtain⟨l,ys,q,_,z⟩:=k;obtain⟨_,its,rv,it,_⟩:=ok b _ q;exact⟨l,its.toArray,it,by simpa using rq.is ok z rv⟩
theorem zC.to (e:∀b ys,H b=some (.tup ys)->H' b=some (.tup ys))(k:zC H us b):zC H' us b:=by
 obtain⟨l,ys,q,n,z⟩:=k;exact⟨l,ys,e b ys q,n,z.to e⟩
structure fF (H:Hp)(a:WT)(es:List (List U×WT×V)):Prop where
 ob:(∃ep,H a=some (DN a ep es))\/(es=[]/\H a=some (.dK []))
 nd:(es.map (·.1)).Nodup
 key:∀e∈es,zC H e.1 e.2.1
theorem rA {α β:Type}{R:α->β->Prop}:∀{xs:List α} {ys:List β} {y:β},abk R xs ys->y∈ys->∃x∈xs,R x y
 |_,_,_,.nil,h=>by cases h
 |x::xs,y'::ys,y,.cons r t,h=>by
  rcases WK.mp h with e|h
  ·subst e;exact⟨x,Wz,r⟩
  ·obtain⟨x',m,q⟩:=rA t h;exact⟨x',WD _ m,q⟩
theorem rB:∀{es:List (List U×WT×V)} {xs:List (List U×WT×WB)},abk Lx es xs->es.map (·.1)=xs.map (·.1)
 |_,_,.nil=>rfl
 |_::_,_::_,.cons r t=>by rw[WQ,WQ,rB t,r.1]
theorem fF.of (ok:lH P w H h)(d:fF H a es):∃xs,abk Lx es xs/\h.DictOfH (cc P w) a xs:=by
 rcases d.ob with⟨ep,q⟩|⟨e,q⟩
 ·obtain⟨⟨_,o,ds,xs,h1,h2,h3,h4,h5⟩,_⟩:=ok a _ q;refine⟨xs,h4,o,ds,ep,h1,h2,h3,h5,λx hx=>?_,by rw[←rB h4];exact d.nd⟩;obtain⟨e,he,r⟩:=rA h4 hx;have:=(d.key e he).tk ok;rw[r.1,r.2.1] at this;exact this
 ·subst e;obtain⟨_,_,vs,rel,dd⟩:=ok a _ q;cases rel;obtain⟨o,ds,ep,h1,h2,h3,h4,h5,h6⟩:=dd;have e0:ds.toList=[]:=by
   generalize ds.toList=l at h5;cases h5;rfl
  exact⟨[],.nil,o,ds,ep,h1,h2,h3,by rw[e0];rfl,(λx hx=>by cases hx),aaN⟩
theorem fF.lo (ok:lH P w H h)(d:fF H a es):(a==YN)=false:=by
 rcases d.ob with⟨ep,q⟩|⟨e,q⟩
 ·obtain⟨⟨l,_⟩,_⟩:=ok a _ q;exact l
 ·obtain⟨_,l,_⟩:=ok a _ q;exact l
noncomputable def g8 (es:List (List U×WT×V))(k:List U):Option V:=(es.find? λe=>decide (e.1=k)).map (·.2.2)
noncomputable def zD (es:List (List U×WT×V))(k:List U)(b:WT)(v:V):List (List U×WT×V):=
 if (g8 es k).isSome then es.map (λe=>if e.1=k then (e.1,e.2.1,v) else e) else es++[(k,b,v)]
theorem kq (k:List U):∀{es:List (List U×WT×V)} {xs:List (List U×WT×WB)},abk Lx es xs->p0 (g8 es k) ((abP xs k).map (·.2))
 |_,_,.nil=>trivial
 |e::es,x::xs,.cons r t=>by
  have ih:=kq k t;unfold g8 abP at ih ⊢;rw[X8,X8];by_cases c:e.1=k
  ·have c':x.1=k:=by rw[←r.1];exact c
   rw[hG c,hG c'];exact r.2.2
  ·have c':¬x.1=k:=by rw[←r.1];exact c
   rw[hJ c,hJ c'];exact ih
theorem Ey (k:List U){u:WB}(rv:bu v u){xs:List (List U×WT×WB)}(p:abk Lx es xs):abk Lx (zD es k b v) (storedH xs k b u):=by
 have e:(g8 es k).isSome=(abP xs k).isSome:=by
  have:=(kq k p).isSome_eq;rw[Option.isSome_map] at this;exact this
 unfold zD storedH;rw[e];split
 ·rename_i hh;clear hh e
  induction p with
  |nil=>exact .nil
  | @cons q x es xs r t ih=>
   refine .cons ?_ ih;unfold putAt;dsimp only;by_cases c:q.1=k
   ·have c':x.1=k:=by rw[←r.1];exact c
    rw[hV c,hV c'];exact⟨r.1,r.2.1,rv⟩
   ·have c':¬x.1=k:=by rw[←r.1];exact c
    rw[hU c,hU c'];exact r
 ·rename_i hh;clear hh e
  induction p with
  |nil=>exact .cons ⟨rfl,rfl,rv⟩ .nil
  |cons r t ih=>exact .cons r ih
end
section
variable {d:V}{r:WB}{k:List U}{A:Xh}
theorem Ez (hu:A.units+64<Yy):(cc X.prog X.w).room A.in1:=by show A.units+1+20<Yy;lia
theorem CC (hu:A.units+64<Yy)(I:aN X pins σ H s)(g:fF H a es)(kb:zC H k b)(e:g8 es k=some v)(h:∀w' s',aN X pins σ H s'->bu v w'->Q w' s') :
  WU (W7 X.prog X.w) A (aa8 (.ref a) (.ref b)) Q E s:=by
 obtain⟨xs,rel,dd⟩:=g.of I.hok;obtain⟨w',hw,AN⟩:=p0.some_of (v:=v) (o:=(abP xs k).map (·.2)) (by rw[←e];exact kq k rel);obtain⟨p,hp,Ck⟩:=Option.map_eq_some_iff.mp hw;refine wpAny_getItem_heap (Ez hu) (kb.tk I.hok) dd hp ?_;rw[Ck];exact h w' _ (I.tok _) AN
theorem fF.typeIs (I:aN X pins σ H s)(g:fF H a es):s.TypeIs (.ref a) "dict":=by
 obtain⟨xs,rel,dd⟩:=g.of I.hok;exact dd.typeIs
theorem fF.noDict (I:aN X pins σ H s)(g:fF H a es):∀b,Value.ref a=.ref b->∃ob,s.heap.get? b=some ob/\ob.dict=none:=λb q=>by
 cases q;obtain⟨xs,rel,ob,_,_,h1,h2,_⟩:=g.of I.hok;exact⟨ob,h1,h2.2.1⟩
theorem fF.mut (g:fF H a es):Nb (H a):=by
 rcases g.ob with⟨ep,q⟩|⟨_,q⟩<;>(rw[q];exact True.intro)
end
end L2
namespace L2
noncomputable def kU:j2->U
 | .inl i=>.int i
 | .inr x=>.str x
def CD (H:Hp)(a:WT)(ks:List U)(xs:List V):Prop:=
 (∃cC:List (j2×V),H a=some (.dK cC)/\ks=cC.map (λp=>kU p.1)/\xs=cC.map (·.2)) \/
 ∃es:List (List U×WT×V),es≠[]/\fF H a es/\ks=es.map (λp=>.tup p.1)/\xs=es.map (·.2.2)
noncomputable abbrev N5:=CD
theorem CD.at (h:N5 H a ks xs):CD H a ks xs:=h
theorem fF.ne (h:fF H a es)(n:es≠[]):∃ep,H a=some (DN a ep es):=by
 rcases h.ob with q|⟨e,_⟩
 ·exact q
 ·exact absurd e n
def HF (K:Wv)(H:Hp)(a:WT)(xs:List V):Prop:=(∃o,H a=some (.frz o (.lst xs))) \/
  ∃(o:Obj) (its:Array WB) (n:Nat),K.lookup a=some o/\o.cls=.type "list"/\o.dict=none/\o.data=.seq its n/\its.size<=WE/\a9 xs its.toList
theorem HF.sq (h:HF K H a xs):f7 K H a xs:=by
 rcases h with⟨o,h⟩|h
 ·exact .inl (.inr ⟨o,h⟩)
 ·exact .inr h
theorem HF.to (h:HF K H a xs)(e:∀o y,H a=some (.frz o y)->H' a=some (.frz o y)):HF K H' a xs:=by
 rcases h with⟨o,h⟩|h
 ·exact .inl ⟨o,e _ _ h⟩
 ·exact .inr h
mutual
def Rp (K:Wv)(H:Hp)(A:WT->Prop):U->V->Prop
 | .non,v=>v=.non
 | .bl b,v=>v=.bl b
 | .int i,v=>v=.int i
 | .str x,v=>v=.str x
 | .tup us,v=>∃a xs,v=.ref a/\H a=some (.tup xs)/\us.length<=WE/\aO K H A us xs
 | .lst us,v=>∃a xs,v=.ref a/\¬A a/\H a=some (.lst xs)/\us.length<=WE/\aO K H A us xs
 | .dct ks us,v=>∃a xs,v=.ref a/\¬A a/\CD H a ks xs/\us.length<=WE/\aO K H A us xs
 | .scr us,v=>∃a xs,v=.ref a/\HF K H a xs/\us.length<=WE/\aO K H A us xs
def aO (K:Wv)(H:Hp)(A:WT->Prop):List U->List V->Prop
 | [],xs=>xs=[]
 |u::us,xs=>∃x r,xs=x::r/\Rp K H A u x/\aO K H A us r
end
def kr (K:Wv)(H:Hp)(A:WT->Prop):U->WT->Prop
 | .lst us,a=>∃xs,H a=some (.lst xs)/\us.length<=WE/\aO K H A us xs
 | .dct ks us,a=>∃xs,N5 H a ks xs/\us.length<=WE/\aO K H A us xs
 |_,_=>False
def Pk (K:Wv)(H:Hp)(A:WT->Prop):U->V->Prop
 | .non,v=>v=.non
 | .bl b,v=>v=.bl b
 | .int i,v=>v=.int i
 | .str x,v=>v=.str x
 | .tup us,v=>∃a xs,v=.ref a/\H a=some (.tup xs)/\us.length<=WE/\aO K H A us xs
 | .lst us,v=>∃a xs,v=.ref a/\H a=some (.lst xs)/\us.length<=WE/\aO K H A us xs
 | .dct ks us,v=>∃a xs,v=.ref a/\CD H a ks xs/\us.length<=WE/\aO K H A us xs
 | .scr us,v=>∃a xs,v=.ref a/\HF K H a xs/\us.length<=WE/\aO K H A us xs
def Mu:Option HO->Prop
 |some (.lst _)=>True
 |some (.dK _)=>True
 |some (.dT _)=>True
 |some (.ext _)=>True
 |_=>False
theorem Mu.ex {o:Option HO}(h:Mu o):∃x,o=.some x:=by
 cases o with
 |none=>exact h.elim
 |some x=>exact⟨x,rfl⟩
def fh (A:WT->Prop)(H H':Hp):Prop:=∀b o,¬A b->H b=some o->H' b=some o
theorem fh.refl:fh A H H:=λ_ _ _ h=>h
theorem fh.trans (a:fh A H H1)(b:fh A H1 H2):fh A H H2:=λc o n h=>b c o n (a c o n h)
theorem fh.same (h:aY H H'):fh A H H':=λb o _ e=>h b o e
section
variable {A':WT->Prop}
theorem CD.ex (h:CD H a ks xs):∃o,H a=some o:=by
 rcases h with⟨k,h,_⟩|⟨k,n,h,_⟩
 ·exact⟨_,h⟩
 ·obtain⟨ep,q⟩:=h.ne n;exact⟨_,q⟩
theorem CD.to (h:CD H a ks xs)(e:∀o,H a=some o->H' a=some o)(t:∀b ys,H b=some (.tup ys)->H' b=some (.tup ys)):CD H' a ks xs:=by
 rcases h with⟨k,h,z⟩|⟨k,n,h,z⟩
 ·exact .inl ⟨k,e _ h,z⟩
 ·exact .inr ⟨k,n,⟨h.ob.imp (fun⟨ep,q⟩=>⟨ep,e _ q⟩) (λq=>⟨q.1,e _ q.2⟩),h.nd,λy hy=>(h.key y hy).to t⟩,z⟩
mutual
theorem Rp.re (m:∀b,A b->Mu (H b))(e:fh A H H')(n:∀b,A' b->A b\/H b=none):∀{u:U} {v:V},Rp K H A u v->Rp K H' A' u v
 | .non,v,h=>by unfold Rp at h ⊢;exact h
 | .bl b,v,h=>by unfold Rp at h ⊢;exact h
 | .int b,v,h=>by unfold Rp at h ⊢;exact h
 | .str b,v,h=>by unfold Rp at h ⊢;exact h
 | .tup us,v,h=>by
  unfold Rp at h ⊢;obtain⟨a,xs,r,q,l,z⟩:=h;exact⟨a,xs,r,e a _ (λz=>by have:=m a z;rw[q] at this;exact this) q,l,aO.re m e n z⟩
 | .lst us,v,h=>by
  unfold Rp at h ⊢;obtain⟨a,xs,r,na,q,l,z⟩:=h;refine⟨a,xs,r,λy=>?_,e a _ na q,l,aO.re m e n z⟩;rcases n a y with y|y
  ·exact na y
  ·rw[q] at y;cases y
 | .scr us,v,h=>by
  unfold Rp at h ⊢;obtain⟨a,xs,r,q,l,z⟩:=h;exact⟨a,xs,r,q.to λo y w=>e a _ (λz=>by have:=m a z;rw[w] at this;exact this) w,l,aO.re m e n z⟩
 | .dct ks us,v,h=>by
  unfold Rp at h ⊢;obtain⟨a,xs,r,na,q,l,z⟩:=h;refine⟨a,xs,r,λy=>?_,q.to (λo w=>e a o na w) (λb ys w=>e b _ (λy=>by have:=m b y;rw[w] at this;exact this) w),l,aO.re m e n z⟩;obtain⟨o,w⟩:=q.ex;rcases n a y with y|y
  ·exact na y
  ·rw[w] at y;cases y
theorem aO.re (m:∀b,A b->Mu (H b))(e:fh A H H')(n:∀b,A' b->A b\/H b=none):∀{us:List U} {vs:List V},aO K H A us vs->aO K H' A' us vs
 | [],vs,h=>by unfold aO at h ⊢;exact h
 |u::us,vs,h=>by
  unfold aO at h ⊢;obtain⟨x,r,q,p,z⟩:=h;exact⟨x,r,q,Rp.re m e n p,aO.re m e n z⟩
end
mutual
theorem Rp.mono (n:∀b,A' b->A b):∀{u:U} {v:V},Rp K H A u v->Rp K H A' u v
 | .non,v,h=>by unfold Rp at h ⊢;exact h
 | .bl b,v,h=>by unfold Rp at h ⊢;exact h
 | .int b,v,h=>by unfold Rp at h ⊢;exact h
 | .str b,v,h=>by unfold Rp at h ⊢;exact h
 | .tup us,v,h=>by
  unfold Rp at h ⊢;obtain⟨a,xs,r,q,l,z⟩:=h;exact⟨a,xs,r,q,l,aO.mono n z⟩
 | .lst us,v,h=>by
  unfold Rp at h ⊢;obtain⟨a,xs,r,na,q,l,z⟩:=h;exact⟨a,xs,r,λy=>na (n a y),q,l,aO.mono n z⟩
 | .scr us,v,h=>by
  unfold Rp at h ⊢;obtain⟨a,xs,r,q,l,z⟩:=h;exact⟨a,xs,r,q,l,aO.mono n z⟩
 | .dct ks us,v,h=>by
  unfold Rp at h ⊢;obtain⟨a,xs,r,na,q,l,z⟩:=h;exact⟨a,xs,r,λy=>na (n a y),q,l,aO.mono n z⟩
theorem aO.mono (n:∀b,A' b->A b):∀{us:List U} {vs:List V},aO K H A us vs->aO K H A' us vs
 | [],vs,h=>by unfold aO at h ⊢;exact h
 |u::us,vs,h=>by
  unfold aO at h ⊢;obtain⟨x,r,q,p,z⟩:=h;exact⟨x,r,q,Rp.mono n p,aO.mono n z⟩
end
mutual
theorem Rp.same (e:aY H H'):∀{u:U} {v:V},Rp K H A u v->Rp K H' A u v
 | .non,v,h=>by unfold Rp at h ⊢;exact h
 | .bl b,v,h=>by unfold Rp at h ⊢;exact h
 | .int b,v,h=>by unfold Rp at h ⊢;exact h
 | .str b,v,h=>by unfold Rp at h ⊢;exact h
 | .tup us,v,h=>by
  unfold Rp at h ⊢;obtain⟨a,xs,r,q,l,z⟩:=h;exact⟨a,xs,r,e a _ q,l,aO.same e z⟩
 | .lst us,v,h=>by
  unfold Rp at h ⊢;obtain⟨a,xs,r,na,q,l,z⟩:=h;exact⟨a,xs,r,na,e a _ q,l,aO.same e z⟩
 | .scr us,v,h=>by
  unfold Rp at h ⊢;obtain⟨a,xs,r,q,l,z⟩:=h;exact⟨a,xs,r,q.to λo y w=>e a _ w,l,aO.same e z⟩
 | .dct ks us,v,h=>by
  unfold Rp at h ⊢;obtain⟨a,xs,r,na,q,l,z⟩:=h;exact⟨a,xs,r,na,q.to (λo w=>e a o w) (λb ys w=>e b _ w),l,aO.same e z⟩
theorem aO.same (e:aY H H'):∀{us:List U} {vs:List V},aO K H A us vs->aO K H' A us vs
 | [],vs,h=>by unfold aO at h ⊢;exact h
 |u::us,vs,h=>by
  unfold aO at h ⊢;obtain⟨x,r,q,p,z⟩:=h;exact⟨x,r,q,Rp.same e p,aO.same e z⟩
end
theorem aO.length:∀{us:List U} {vs:List V},aO K H A us vs->us.length=vs.length
 | [],_,h=>by unfold aO at h;subst h;rfl
 |u::us,_,h=>by
  unfold aO at h;obtain⟨x,r,rfl,_,q⟩:=h;rw[Ww,Ww,aO.length q]
theorem aO.get:∀{us:List U} {vs:List V} {i:Nat} {u:U},aO K H A us vs->us[i]? = some u->∃v,vs[i]? = some v/\Rp K H A u v
 | [],_,_,_,_,e=>by simp at e
 |w::us,_,i,u,h,e=>by
  unfold aO at h;obtain⟨x,r,rfl,p,q⟩:=h;cases i with
  |zero=>simp at e;subst e;exact⟨x,by simp,p⟩
  |succ i=>
   obtain⟨v,a,b⟩:=aO.get q (i:=i) (by simpa using e);exact⟨v,by simpa using a,b⟩
theorem aO.nil:aO K H A [] []:=by unfold aO;rfl
theorem aO.cons (h:Rp K H A u v)(t:aO K H A us vs):aO K H A (u::us) (v::vs):=by unfold aO;exact⟨v,vs,rfl,h,t⟩
theorem aO.append:∀{us ws:List U} {vs xs:List V},aO K H A us vs->aO K H A ws xs->aO K H A (us++ws) (vs++xs)
 | [],ws,vs,xs,h,t=>by unfold aO at h;subst h;exact t
 |u::us,ws,vs,xs,h,t=>by
  unfold aO at h;obtain⟨x,r,rfl,p,q⟩:=h;exact aO.cons p (aO.append q t)
theorem aO.take:∀{us:List U} {vs:List V} (n:Nat),aO K H A us vs->aO K H A (us.take n) (vs.take n)
 | [],vs,n,h=>by unfold aO at h;subst h;simp;exact aO.nil
 |u::us,vs,0,h=>by simp;exact aO.nil
 |u::us,vs,n+1,h=>by
  unfold aO at h;obtain⟨x,r,rfl,p,q⟩:=h;exact aO.cons p (aO.take n q)
theorem aO.drop:∀{us:List U} {vs:List V} (n:Nat),aO K H A us vs->aO K H A (us.drop n) (vs.drop n)
 | [],vs,n,h=>by unfold aO at h;subst h;simp;exact aO.nil
 |u::us,vs,0,h=>h
 |u::us,vs,n+1,h=>by
  unfold aO at h;obtain⟨x,r,rfl,p,q⟩:=h;exact aO.drop n q
theorem aO.set:∀{us:List U} {vs:List V} (n:Nat) {u:U} {v:V},Rp K H A u v->aO K H A us vs->aO K H A (us.set n u) (vs.set n v)
 | [],vs,n,_,_,_,h=>by unfold aO at h;subst h;simp;exact aO.nil
 |u::us,vs,0,_,_,p',h=>by
  unfold aO at h;obtain⟨x,r,rfl,p,q⟩:=h;exact aO.cons p' q
 |u::us,vs,n+1,_,_,p',h=>by
  unfold aO at h;obtain⟨x,r,rfl,p,q⟩:=h;exact aO.cons p (aO.set n p' q)
theorem Rp.pk (h:Rp K H A u v):Pk K H A u v:=by
 cases u<;>(unfold Rp at h;unfold Pk)
 case lst us=>obtain⟨a,xs,r,na,q⟩:=h;exact⟨a,xs,r,q⟩
 case dct ks us=>obtain⟨a,xs,r,na,q⟩:=h;exact⟨a,xs,r,q⟩
 all_goals exact h
theorem Pk.same (e:aY H H')(h:Pk K H A u v):Pk K H' A u v:=by
 cases u<;>(unfold Pk at h ⊢)
 case tup us=>obtain⟨a,xs,r,q,l,z⟩:=h;exact⟨a,xs,r,e a _ q,l,z.same e⟩
 case lst us=>obtain⟨a,xs,r,q,l,z⟩:=h;exact⟨a,xs,r,e a _ q,l,z.same e⟩
 case scr us=>obtain⟨a,xs,r,q,l,z⟩:=h;exact⟨a,xs,r,q.to λo y w=>e a _ w,l,z.same e⟩
 case dct ks us=>obtain⟨a,xs,r,q,l,z⟩:=h;exact⟨a,xs,r,q.to (λo w=>e a o w) (λb ys w=>e b _ w),l,z.same e⟩
 all_goals exact h
theorem kr.pk (h:kr K H A u a):Pk K H A u (.ref a):=by
 cases u<;>(unfold kr at h;unfold Pk)
 case lst us=>obtain⟨xs,q,l,z⟩:=h;exact⟨a,xs,rfl,q,l,z⟩
 case dct ks us=>obtain⟨xs,q,l,z⟩:=h;exact⟨a,xs,rfl,q.at,l,z⟩
 all_goals exact h.elim
theorem kr.rp (h:kr K H A u a)(n:∀b,A' b->A b)(na:¬A' a):Rp K H A' u (.ref a):=by
 cases u<;>(unfold kr at h;unfold Rp)
 case lst us=>obtain⟨xs,q,l,z⟩:=h;exact⟨a,xs,rfl,na,q,l,z.mono n⟩
 case dct ks us=>obtain⟨xs,q,l,z⟩:=h;exact⟨a,xs,rfl,na,q.at,l,z.mono n⟩
 all_goals exact h.elim
theorem kr.re (m:∀b,A b->Mu (H b))(e:fh A H H')(n:∀b,A' b->A b\/H b=none)(ea:∀o,H a=some o->H' a=some o)(h:kr K H A u a):kr K H' A' u a:=by
 cases u<;>(unfold kr at h ⊢)
 case lst us=>obtain⟨xs,q,l,z⟩:=h;exact⟨xs,ea _ q,l,z.re m e n⟩
 case dct ks us=>obtain⟨xs,q,l,z⟩:=h;exact⟨xs,q.to ea (λb ys w=>e b _ (λy=>by have:=m b y;rw[w] at this;exact this) w),l,z.re m e n⟩
 all_goals exact h.elim
theorem kr.mu (h:kr K H A u a):Mu (H a):=by
 cases u<;>(unfold kr at h)
 case lst us=>obtain⟨xs,q,_⟩:=h;rw[q];trivial
 case dct ks us=>
  obtain⟨xs,q,_⟩:=h;rcases q with⟨k,q,_⟩|⟨k,n,q,_⟩
  ·rw[q];trivial
  ·obtain⟨ep,q⟩:=q.ne n;rw[q];trivial
 all_goals exact h.elim
end
structure Pkg where
 A0:WT->Prop
 B:Hp
 a0:WT
structure Gm where
 own:List Bool
 io:Bool
 W:Hp->Prop
noncomputable def Gm.is (G:Gm)(i:Nat):Bool:=G.own.getD i false
structure cE (K:Wv)(G:Gm)(Z:Pkg)(A:WT->Prop)(ρ:Ev)(σ:St)(H:Hp):Prop where
 slot:∀i u,ρ[i]? = some (some u)->∃v,σ[i]? = some (some v)/\if G.is i=true then (∃a,v=.ref a/\A a/\Z.B a=none/\(¬Z.A0 a\/(G.io=true/\i=0))/\kr K H A u a) else Rp K H A u v
 dis:∀i j u w a,G.is i=true->G.is j=true->i≠j->ρ[i]? = some (some u)->ρ[j]? = some (some w)->σ[i]? = some (some (.ref a))->σ[j]? = some (some (.ref a))->False
 mu:∀a,A a->Mu (H a)
 sup:∀a,Z.A0 a->A a
 out:∀a,A a->Z.A0 a\/Z.B a=none
 bas:∀a o,Z.B a=some o->H a=some o
 io0:G.io=true->σ[0]? = some (some (.ref Z.a0))/\G.is 0=true
 len:ρ.length=σ.length
section
variable {A':WT->Prop}{G:Gm}{Z:Pkg}{ρ':Ev}
theorem cE.same (r:cE K G Z A ρ σ H)(e:aY H H'):cE K G Z A ρ σ H' where
 slot:=λi u h=>by
  obtain⟨v,h1,h2⟩:=r.slot i u h;refine⟨v,h1,?_⟩;by_cases c:G.is i=true
  ·rw[hV c] at h2 ⊢;obtain⟨a,e1,e2,e3,e4,e5⟩:=h2;exact⟨a,e1,e2,e3,e4,e5.re r.mu (fh.same e) (λb z=>.inl z) λo w=>e a o w⟩
  ·rw[hU c] at h2 ⊢;exact h2.same e
 dis:=r.dis
 mu:=λa h=>by
  have m:=r.mu a h;obtain⟨o,q⟩:=m.ex;rw[e a o q,←q];exact m
 sup:=r.sup
 out:=r.out
 bas:=λa o h=>e a o (r.bas a o h)
 io0:=r.io0
 len:=r.len
theorem cE.add (r:cE K G Z A ρ σ H)(e:aY H H')(n:H a=none)(m:Mu (H' a)):cE K G Z (λb=>A b\/b=a) ρ σ H' where
 slot:=λi u h=>by
  have q:∀b,(A b\/b=a)->A b\/H b=none:=λb z=>by
   rcases z with z|z
   ·exact .inl z
   ·subst z;exact .inr n
  obtain⟨v,h1,h2⟩:=r.slot i u h;refine⟨v,h1,?_⟩;by_cases c:G.is i=true
  ·rw[hV c] at h2 ⊢;obtain⟨b,e1,e2,e3,e4,e5⟩:=h2;exact⟨b,e1,.inl e2,e3,e4,e5.re r.mu (fh.same e) q λo w=>e b o w⟩
  ·rw[hU c] at h2 ⊢;exact h2.re r.mu (fh.same e) q
 dis:=r.dis
 mu:=λb h=>by
  rcases h with h|h
  ·exact (r.same e).mu b h
  ·subst h;exact m
 sup:=λb h=>.inl (r.sup b h)
 out:=λb h=>by
  rcases h with h|h
  ·exact r.out b h
  ·subst h;refine .inr ?_;cases q:Z.B b with
   |none=>rfl
   |some o=>rw[r.bas b o q] at n;cases n
 bas:=λa o h=>e a o (r.bas a o h)
 io0:=r.io0
 len:=r.len
theorem cE.notA (r:cE K G Z A ρ σ H)(n:H a=none):¬A a:=λz=>by
 have:=r.mu a z;rw[n] at this;exact this
theorem cE.notB (r:cE K G Z A ρ σ H)(n:H a=none):Z.B a=none:=by
 cases q:Z.B a with
 |none=>rfl
 |some o=>rw[r.bas a o q] at n;cases n
theorem cE.val (r:cE K G Z A ρ σ H)(c:G.is i=false)(h:ρ[i]? = some (some u)):∃v,σ[i]? = some (some v)/\Rp K H A u v:=by
 obtain⟨v,h1,h2⟩:=r.slot i u h;rw[hU (by rw[c];exact WA)] at h2;exact⟨v,h1,h2⟩
theorem cE.own (r:cE K G Z A ρ σ H)(c:G.is i=true)(h:ρ[i]? = some (some u)):∃a,σ[i]? = some (some (.ref a))/\A a/\Z.B a=none/\(¬Z.A0 a\/(G.io=true/\i=0))/\kr K H A u a:=by
 obtain⟨v,h1,h2⟩:=r.slot i u h;rw[hV c] at h2;obtain⟨a,rfl,z⟩:=h2;exact⟨a,h1,z⟩
end
end L2
variable {Z:L2.Pkg}{G:L2.Gm}
namespace L2
inductive Md where
 |S|O|P
 deriving DecidableEq
def zf (K:Wv)(G:Gm)(Z:Pkg)(m:Md)(A:WT->Prop)(ρ:Ev)(σ:St)(H:Hp)(u:U)(v:V):Prop:=match m with
 | .S=>Rp K H A u v
 | .P=>Pk K H A u v
 | .O=>∃a,v=.ref a/\¬A a/\Z.B a=none/\cE K G Z (λb=>A b\/b=a) ρ σ H/\kr K H (λb=>A b\/b=a) u a
def DH (K:Wv)(m:Md)(A:WT->Prop)(H H':Hp)(u:U)(v:V):Prop:=match m with
 | .S=>Rp K H' A u v
 | .P=>Pk K H' A u v
 | .O=>∃a,v=.ref a/\H a=none/\kr K H' (λb=>A b\/b=a) u a
def HG (K:Wv)(G:Gm)(Z:Pkg)(A:WT->Prop)(b:Bool)(m:Md)(ρ:Ev)(σ:St)(H:Hp):R (U×Ev)->VK->Prop
 | .ok (u,ρ'),Q=>∀v H',cE K G Z A ρ' σ H'->fh A H H'->(b=false->ρ'=ρ/\aY H H')->zf K G Z m A ρ' σ H' u v->Q v H'
 |_,_=>False
def tD (K:Wv)(G:Gm)(b:Bool)(m:Md)(g:Ev->R (U×Ev)):TE:=λσ H Q=>∃Z A ρ,cE K G Z A ρ σ H/\HG K G Z A b m ρ σ H (g ρ) Q
structure DE (X:Cx)(G:Gm)(e:Yv)(b:Bool)(m:Md)(g:Ev->R (U×Ev)):Prop where
 un:PE X e (tD X.K G b m g)
def HH (K:Wv)(G:Gm)(Z:Pkg)(A:WT->Prop)(b:Bool)(ρ:Ev)(σ:St)(H:Hp):R (Bool×Ev)->(Bool->Hp->Prop)->Prop
 | .ok (c,ρ'),Q=>∀H',cE K G Z A ρ' σ H'->fh A H H'->(b=false->ρ'=ρ/\aY H H')->Q c H'
 |_,_=>False
def DJ (K:Wv)(G:Gm)(b:Bool)(g:Ev->R (Bool×Ev)):TT:=λσ H Q=>∃Z A ρ,cE K G Z A ρ σ H/\HH K G Z A b ρ σ H (g ρ) Q
structure DT (X:Cx)(G:Gm)(e:Yv)(b:Bool)(g:Ev->R (Bool×Ev)):Prop where
 un:PT X e (DJ X.K G b g)
def zE (K:Wv)(H:Hp)(A:WT->Prop):List U->List V->Prop
 | [],vs=>vs=[]
 |u::us,vs=>∃x r,vs=x::r/\Pk K H A u x/\zE K H A us r
def HJ (K:Wv)(p:Bool)(A:WT->Prop)(H:Hp)(us:List U)(vs:List V):Prop:=if p=true then zE K H A us vs else aO K H A us vs
def HK (K:Wv)(G:Gm)(Z:Pkg)(A:WT->Prop)(b p:Bool)(ρ:Ev)(σ:St)(H:Hp):R (List U×Ev)->(List V->Hp->Prop)->Prop
 | .ok (us,ρ'),Q=>∀vs H',cE K G Z A ρ' σ H'->fh A H H'->(b=false->ρ'=ρ/\aY H H')->HJ K p A H' us vs->Q vs H'
 |_,_=>False
def RA (K:Wv)(G:Gm)(b p:Bool)(g:Ev->R (List U×Ev)):TA:=λσ H Q=>∃Z A ρ,cE K G Z A ρ σ H/\HK K G Z A b p ρ σ H (g ρ) Q
structure DA (X:Cx)(G:Gm)(es:List Yv)(b p:Bool)(g:Ev->R (List U×Ev)):Prop where
 un:PA X es (RA X.K G b p g)
section
variable {e:Yv}{t t':TE}
theorem PE.to (h:PE X e t)(i:∀σ H Q,t' σ H Q->t σ H Q):PE X e t':=λpins s σ H Q I q=>h pins s σ H Q I (i _ _ _ q)
theorem PT.to {t t':TT}(h:PT X e t)(i:∀σ H Q,t' σ H Q->t σ H Q):PT X e t':=λpins s σ H Q I q=>h pins s σ H Q I (i _ _ _ q)
theorem PW.to {t t':TT}(h:PW X e t)(i:∀σ H Q,t' σ H Q->t σ H Q):PW X e t':=λwhole pins s σ H Q I q=>h whole pins s σ H Q I (i _ _ _ q)
theorem PA.to {es:List Yv}{t t':TA}(h:PA X es t)(i:∀σ H Q,t' σ H Q->t σ H Q):PA X es t':=λpos pins s σ H Q I q=>h pos pins s σ H Q I (i _ _ _ q)
theorem PS.to {t t':TS}(h:PS X st t)(i:∀D σ H,t' D σ H->t D σ H):PS X st t':=λpins s σ H D I q=>h pins s σ H D I (i _ _ _ q)
theorem ud.to {st:List aak}{t t':TS}(h:ud X st t)(i:∀D σ H,t' D σ H->t D σ H):ud X st t':=λpins s σ H D I q=>h pins s σ H D I (i _ _ _ q)
theorem PG.to {t t':TG}(h:PG X e t)(i:∀v σ H Q,t' v σ H Q->t v σ H Q):PG X e t':=λpins s σ H v u Q I r q=>h pins s σ H v u Q I r (i _ _ _ _ q)
end
section
variable {A':WT->Prop}{ρ':Ev}{m:Md}{b:Bool}
theorem zf.rp (h:zf K G Z m A ρ σ H u v)(n:m≠.P):Rp K H A u v:=by
 cases m with
 |S=>exact h
 |O=>
  obtain⟨a,rfl,na,_,_,t⟩:=h;exact t.rp (λb z=>.inl z) na
 |P=>exact absurd rfl n
theorem zf.pk (h:zf K G Z m A ρ σ H u v):Pk K H A u v:=by
 by_cases c:m=.P
 ·subst c;exact h
 ·exact (h.rp c).pk
theorem DH.e (r:cE K G Z A ρ σ H)(s:aY H H')(h:DH K m A H H' u v):zf K G Z m A ρ σ H' u v:=by
 cases m with
 |S=>exact h
 |P=>exact h
 |O=>
  obtain⟨a,rfl,n,t⟩:=h;exact⟨a,rfl,r.notA n,r.notB n,r.add s n t.mu,t⟩
theorem zf.later (r:cE K G Z A ρ σ H)(h:zf K G Z m A ρ σ H u v)(x:fh A H H')(s:b=false->ρ'=ρ/\aY H H')(c:m=.P->b=false):Pk K H' A u v:=by
 by_cases d:m=.P
 ·exact h.pk.same (s (c d)).2
 ·exact ((h.rp d).re r.mu x λb z=>.inl z).pk
theorem zf.laterS (r:cE K G Z A ρ σ H)(h:zf K G Z m A ρ σ H u v)(x:fh A H H')(d:m≠.P):Rp K H' A u v:=(h.rp d).re r.mu x λb z=>.inl z
theorem two {b1 b2:Bool}{ρ1 ρ2:Ev}(h1:b1=false->ρ1=ρ/\aY H H1)(h2:b2=false->ρ2=ρ1/\aY H1 H2):(b1||b2)=false->ρ2=ρ/\aY H H2:=λh=>by
 rw[XC] at h;obtain⟨a,b⟩:=h1 h.1;obtain⟨c,d⟩:=h2 h.2;exact⟨c.trans a,b.trans d⟩
theorem p_ {b1:Bool}{ρ1:Ev}(h1:b1=false->ρ1=ρ/\aY H H1)(h2:aY H1 H2):b1=false->ρ1=ρ/\aY H H2:=λh=>⟨(h1 h).1,(h1 h).2.trans h2⟩
end
noncomputable def ag (i:Nat):Ev->R (U×Ev):=λρ=>match ρ[i]? with
 |some (some u)=>.ok (u,ρ)
 |_=>.stk
noncomputable def gC (u:U):Ev->R (U×Ev):=λρ=>.ok (u,ρ)
section
variable {e a b:Yv}{es:List Yv}
theorem N6 {b:Bool}{m:Md}(h:PE X e (KY i))(c:G.is i=false):DE X G e false .S (ag i):=by
 refine⟨h.to λσ H Q ⟨Z,A,ρ,r,f⟩=>?_⟩;unfold ag at f;split at f
 ·rename_i u hu;obtain⟨v,h1,h2⟩:=r.val c hu;exact⟨v,h1,f v H r fh.refl (λ_=>⟨rfl,aY.refl _⟩) h2⟩
 ·exact f.elim
theorem aj (i:Nat)(hN:X.N[i]? = some x:=by rfl)(hv:Ha X.env.scope x:=by first|exact Or.inl rfl|exact Or.inr (Or.inl rfl)|exact Or.inr (Or.inr rfl))(hd:(x==("__debug__":Str))=false:=by decide)
  (tW:(x==("__classdict__":Str))=false:=by decide) (c:G.is i=false:=by rfl):DE X G (.Name x pos) false .S (ag i):=N6 (b:=false) (m:=.S) (ma hN hv hd tW) c
theorem g9 (i:Nat)(hN:X.N[i]? = some x:=by rfl)(hv:Ha X.env.scope x:=by first|exact Or.inl rfl|exact Or.inr (Or.inl rfl)|exact Or.inr (Or.inr rfl))(hd:(x==("__debug__":Str))=false:=by decide)
  (tW:(x==("__classdict__":Str))=false:=by decide) (c:G.is i=true:=by rfl):DE X G (.Name x pos) false .P (ag i):=by
 refine⟨(ma hN hv hd tW).to λσ H Q ⟨Z,A,ρ,r,f⟩=>?_⟩;unfold ag at f;split at f
 ·rename_i u hu;obtain⟨a,h1,_,_,_,h2⟩:=r.own c hu;exact⟨.ref a,h1,f _ H r fh.refl (λ_=>⟨rfl,aY.refl _⟩) h2.pk⟩
 ·exact f.elim
theorem EA (h:PE X e (tC v))(r:∀K H A,Rp K H A u v):DE X G e false .S (gC u):=by
 refine⟨h.to λσ H Q ⟨Z,A,ρ,q,f⟩=>?_⟩;exact f v H q fh.refl (λ_=>⟨rfl,aY.refl _⟩) (r _ _ _)
theorem ak {i j pos}:DE X G (.Constant (.int i) j pos) false .S (gC (.int i)):=EA KZ λ_ _ _=>by unfold Rp;rfl
theorem rC {i j pos}:DE X G (.Constant (.bool i) j pos) false .S (gC (.bl i)):=EA Nt λ_ _ _=>by unfold Rp;rfl
theorem gj {j pos}:DE X G (.Constant .none j pos) false .S (gC .non):=EA K0 λ_ _ _=>by unfold Rp;rfl
theorem dA {i j pos}:DE X G (.Constant (.str i) j pos) false .S (gC (.str i)):=EA K1 λ_ _ _=>by unfold Rp;rfl
theorem EB {i:Int}{tk:Tok}(hg:Gl X x)(hm:X.mg x=some (.int i tk))(hd:(x==("__debug__":Str))=false:=by decide):DE X G (.Name x pos) false .S (gC (.int i)):=EA (v:=.int i) (Hb hg hm ⟨_,rfl⟩ hd) λ_ _ _=>by unfold Rp;rfl
noncomputable def aJ (p:U->U->R U)(g1 g2:Ev->R (U×Ev)):Ev->R (U×Ev):=λρ=>(g1 ρ).bind λx=>(g2 x.2).bind λy=>(p x.1 y.1).bind λz=>.ok (z,y.2)
def fG (K:Wv)(r:R2)(m:Md)(p:U->U->R U):Prop:=∀A H x y u w z Q,Pk K H A u x->Pk K H A w y->(∀a,A a->Mu (H a))->p u w=.ok z->(∀v H',aY H H'->DH K m A H H' z v->Q v H')->r x y H Q
variable {b1 b2 b3:Bool}{m1 m2 m3 mr:Md}{g1 g2 g3:Ev->R (U×Ev)}
theorem mQ {p:U->U->R U}(hp:fG X.K r mr p)(hm:m1=.P->b2=false){Q:VK}(h:tD X.K G (b1||b2) mr (aJ p g1 g2) σ H Q) :
  NF r (tD X.K G b1 m1 g1) (tD X.K G b2 m2 g2) σ H Q:=by
 obtain⟨Z,A,ρ,q,f⟩:=h;unfold aJ at f;refine⟨Z,A,ρ,q,?_⟩;cases e1:g1 ρ with
 |stk=>rw[e1] at f;exact f.elim
 |exc=>rw[e1] at f;exact f.elim
 |ok x=>
  obtain⟨u,ρ1⟩:=x;rw[e1] at f;intro v1 H1 q1 x1 s1 t_;refine⟨Z,A,ρ1,q1,?_⟩;cases e2:g2 ρ1 with
  |stk=>simp only[R.bind,e2] at f;exact f.elim
  |exc=>simp only[R.bind,e2] at f;exact f.elim
  |ok y=>
   obtain⟨w,ρ2⟩:=y;simp only[R.bind,e2] at f;intro v2 H2 q2 x2 s2 uc;cases e3:p u w with
   |stk=>rw[e3] at f;exact f.elim
   |exc=>rw[e3] at f;exact f.elim
   |ok z=>
    rw[e3] at f;refine hp A H2 v1 v2 u w z Q (t_.later q1 x2 s2 hm) uc.pk q2.mu e3 λv H' sm vm=>?_;exact f v H' (q2.same sm) ((x1.trans x2).trans (fh.same sm)) (p_ (two s1 s2) sm) (vm.e q2 sm)
theorem aS {op:Operator}{p:U->U->R U}(ho:j3 X (ZQ op) r)(hp:fG X.K r mr p)(ha:DE X G a b1 m1 g1)(hb:DE X G b b2 m2 g2)(hm:m1=.P->b2=false:=by first|exact λ_=>rfl|exact λh=>nomatch h) :
  DE X G (.BinOp a op b pos) (b1||b2) mr (aJ p g1 g2):=⟨(NG ho ha.un hb.un).to λ_ _ _=>mQ hp hm⟩
theorem vR {p:U->U->R U}(ho:j3 X (Yf op) r)(hp:fG X.K r mr p)(ha:DE X G a b1 m1 g1)(hb:DE X G b b2 m2 g2)(hk:ZO op b=false)(hm:m1=.P->b2=false:=by first|exact λ_=>rfl|exact λh=>nomatch h) :
  DE X G (.Compare a [op] [b] pos) (b1||b2) mr (aJ p g1 g2):=⟨(Hl ho ha.un hb.un hk).to λ_ _ _=>mQ hp hm⟩
theorem aL {p:U->U->R U}(ho:G2 X r)(hp:fG X.K r mr p)(ha:DE X G a b1 m1 g1)(hb:DE X G b b2 m2 g2)(hs:A5 b)(hm:m1=.P->b2=false:=by first|exact λ_=>rfl|exact λh=>nomatch h) :
  DE X G (.Subscript a b pos) (b1||b2) mr (aJ p g1 g2):=⟨(NR ho ha.un hb.un hs).to λ_ _ _=>mQ hp hm⟩
noncomputable def gB (g:Ev->R (U×Ev)):Ev->R (Bool×Ev):=λρ=>(g ρ).bind λx=>match x.1 with
 | .bl c=>.ok (c,x.2)
 |_=>.stk
theorem ow {g:Ev->R (U×Ev)}{m:Md}{Q:Bool->Hp->Prop}(h:DJ X.K G b1 (gB g) σ H Q):tD X.K G b1 m g σ H λx H'=>∃k,x=.bl k/\Q k H':=by
 obtain⟨Z,A,ρ,q,f⟩:=h;refine⟨Z,A,ρ,q,?_⟩;unfold gB at f;cases e1:g ρ with
 |stk=>rw[e1] at f;exact f.elim
 |exc=>rw[e1] at f;exact f.elim
 |ok x=>
  obtain⟨u,ρ1⟩:=x;rw[e1] at f;intro v H1 q1 x1 s1 vm;cases u with
  |bl c=>
   have e:v=.bl c:=by have:=vm.pk;unfold Pk at this;exact this
   exact⟨c,e,f H1 q1 x1 s1⟩
  |_=>exact f.elim
theorem vS (h:DE X G e b1 m1 g1)(he:∀whole,isTrue e X.env whole=(do let v ←whole;standAt e.pos;holding [v] (truthy v)):=by intro _;rfl):DT X G e b1 (gB g1):=⟨(K2 h.un he).to λ_ _ _ h=>ow h⟩
theorem aZ {p:U->U->R U}(ho:j3 X (Yf op) r)(hp:fG X.K r mr p)(ha:DE X G a b1 m1 g1)(hb:DE X G b b2 m2 g2)(hk:ZO op b=false)(hm:m1=.P->b2=false:=by first|exact λ_=>rfl|exact λh=>nomatch h) :
  DT X G (.Compare a [op] [b] pos) (b1||b2) (gB (aJ p g1 g2)):=⟨(Hm ho ha.un hb.un hk).to λ_ _ _ h=>mQ hp hm (ow (m:=mr) h)⟩
end
end L2
namespace L2
section
variable {A':WT->Prop}{ρ':Ev}{b p:Bool}{m:Md}{α:Type}
theorem HG.bind {x:R α}{k:α->R (U×Ev)}{Q:VK}(f:HG K G Z A b m ρ σ H (x.bind k) Q):∃a,x=.ok a/\HG K G Z A b m ρ σ H (k a) Q:=by
 cases x with
 |ok a=>exact⟨a,rfl,f⟩
 |exc=>exact f.elim
 |stk=>exact f.elim
theorem HH.bind {x:R α}{k:α->R (Bool×Ev)}{Q:Bool->Hp->Prop}(f:HH K G Z A b ρ σ H (x.bind k) Q):∃a,x=.ok a/\HH K G Z A b ρ σ H (k a) Q:=by
 cases x with
 |ok a=>exact⟨a,rfl,f⟩
 |exc=>exact f.elim
 |stk=>exact f.elim
theorem HK.bind {x:R α}{k:α->R (List U×Ev)}{Q:List V->Hp->Prop}(f:HK K G Z A b p ρ σ H (x.bind k) Q):∃a,x=.ok a/\HK K G Z A b p ρ σ H (k a) Q:=by
 cases x with
 |ok a=>exact⟨a,rfl,f⟩
 |exc=>exact f.elim
 |stk=>exact f.elim
theorem Pk.bl {c:Bool}(h:Pk K H A (.bl c) v):v=.bl c:=by unfold Pk at h;exact h
theorem Pk.int {i:Int}(h:Pk K H A (.int i) v):v=.int i:=by unfold Pk at h;exact h
theorem Pk.str {i:Str}(h:Pk K H A (.str i) v):v=.str i:=by unfold Pk at h;exact h
theorem o5 {c:Bool}:Rp K H A (.bl c) (.bl c):=by unfold Rp;rfl
theorem eR {c:Int}:Rp K H A (.int c) (.int c):=by unfold Rp;rfl
theorem zf.ofS (h:Rp K H A u v):zf K G Z .S A ρ σ H u v:=h
theorem rD:Rp K H A .non .non:=by unfold Rp;rfl
theorem Ly {c:Str}:Rp K H A (.str c) (.str c):=by unfold Rp;rfl
theorem aO.pks:∀{us:List U} {vs:List V},aO K H A us vs->zE K H A us vs
 | [],_,h=>by unfold aO at h;unfold zE;exact h
 |u::us,_,h=>by
  unfold aO at h;unfold zE;obtain⟨x,r,e,z,q⟩:=h;exact⟨x,r,e,z.pk,aO.pks q⟩
end
section
variable {e a b:Yv}{es rest:List Yv}{b1 b2 b3:Bool}{m1 m2 m3 mr:Md}{g1 g2 g3:Ev->R (U×Ev)}{h1 h2:Ev->R (Bool×Ev)}
noncomputable def ox (g1 g2:Ev->R (Bool×Ev)):Ev->R (Bool×Ev):=λρ=>(g1 ρ).bind λx=>if x.1=true then g2 x.2 else .ok (false,x.2)
noncomputable def HL (g1 g2:Ev->R (Bool×Ev)):Ev->R (Bool×Ev):=λρ=>(g1 ρ).bind λx=>if x.1=true then .ok (true,x.2) else g2 x.2
noncomputable def EC (g1:Ev->R (Bool×Ev)):Ev->R (Bool×Ev):=λρ=>(g1 ρ).bind λx=>.ok (!x.1,x.2)
structure DW (X:Cx)(G:Gm)(e:Yv)(b:Bool)(g:Ev->R (Bool×Ev)):Prop where
 un:PW X e (DJ X.K G b g)
theorem DW.dt (h:DW X G e b1 h1):DT X G e b1 h1:=⟨PW.pt h.un⟩
theorem ED {Q:Bool->Hp->Prop}(h:DJ X.K G (b1||b2) (ox h1 h2) σ H Q):Nu (DJ X.K G b1 h1) (DJ X.K G b2 h2) σ H Q:=by
 obtain⟨Z,A,ρ,q,f⟩:=h;obtain⟨⟨k,ρ1⟩,e1,f⟩:=f.bind;refine⟨Z,A,ρ,q,?_⟩;rw[e1];intro H1 q1 x1 s1;cases k with
 |true=>
  rw[hV rfl] at f ⊢;refine⟨Z,A,ρ1,q1,?_⟩;dsimp only at f;cases e2:h2 ρ1 with
  |ok y=>rw[e2] at f;exact λH2 q2 x2 s2=>f H2 q2 (x1.trans x2) (two s1 s2)
  |exc=>rw[e2] at f;exact f.elim
  |stk=>rw[e2] at f;exact f.elim
 |false=>
  rw[hU WA] at f ⊢;exact f H1 q1 x1 λz=>s1 (XC.mp z).1
theorem HM {Q:Bool->Hp->Prop}(h:DJ X.K G (b1||b2) (HL h1 h2) σ H Q):TL (DJ X.K G b1 h1) (DJ X.K G b2 h2) σ H Q:=by
 obtain⟨Z,A,ρ,q,f⟩:=h;obtain⟨⟨k,ρ1⟩,e1,f⟩:=f.bind;refine⟨Z,A,ρ,q,?_⟩;rw[e1];intro H1 q1 x1 s1;cases k with
 |false=>
  rw[hU WA] at f ⊢;refine⟨Z,A,ρ1,q1,?_⟩;dsimp only at f;cases e2:h2 ρ1 with
  |ok y=>rw[e2] at f;exact λH2 q2 x2 s2=>f H2 q2 (x1.trans x2) (two s1 s2)
  |exc=>rw[e2] at f;exact f.elim
  |stk=>rw[e2] at f;exact f.elim
 |true=>
  rw[hV rfl] at f ⊢;exact f H1 q1 x1 λz=>s1 (XC.mp z).1
theorem jQ (ha:DT X G a b1 h1):DW X G (.BoolOp .And [a] pos) b1 h1:=⟨Hd ha.un⟩
theorem vT (ha:DT X G a b1 h1):DW X G (.BoolOp .Or [a] pos) b1 h1:=⟨K3 ha.un⟩
theorem jR (ha:DT X G a b1 h1)(hb:DW X G (.BoolOp .And (b::rest) pos) b2 h2):DW X G (.BoolOp .And (a::b::rest) pos) (b1||b2) (ox h1 h2):=⟨(K4 ha.un hb.un).to λ_ _ _=>ED⟩
theorem xI (ha:DT X G a b1 h1)(hb:DW X G (.BoolOp .Or (b::rest) pos) b2 h2):DW X G (.BoolOp .Or (a::b::rest) pos) (b1||b2) (HL h1 h2):=⟨(Nv ha.un hb.un).to λ_ _ _=>HM⟩
theorem zF (ha:DT X G a b1 h1):DT X G (.UnaryOp .Not a pos) b1 (EC h1):=⟨(K5 ha.un).to λσ H Q h=>by
 obtain⟨Z,A,ρ,q,f⟩:=h;obtain⟨⟨k,ρ1⟩,e1,f⟩:=f.bind;refine⟨Z,A,ρ,q,?_⟩;rw[e1];exact λH1 q1 x1 s1=>f H1 q1 x1 s1⟩
noncomputable def CF (g1 g2:Ev->R (U×Ev)):Ev->R (U×Ev):=λρ=>(gB g1 ρ).bind λx=>if x.1=true then g2 x.2 else .ok (.bl false,x.2)
noncomputable def UP (g1 g2:Ev->R (U×Ev)):Ev->R (U×Ev):=λρ=>(gB g1 ρ).bind λx=>if x.1=true then .ok (.bl true,x.2) else g2 x.2
noncomputable def RB (g1:Ev->R (U×Ev)):Ev->R (U×Ev):=λρ=>(gB g1 ρ).bind λx=>.ok (.bl (!x.1),x.2)
theorem N7 {g:Ev->R (U×Ev)}{ρ1:Ev}{k:Bool}(h:gB g ρ=.ok (k,ρ1)):g ρ=.ok (.bl k,ρ1):=by
 unfold gB at h;cases e:g ρ with
 |ok y=>
  obtain⟨u,ρ2⟩:=y;rw[e] at h;cases u<;>simp[R.bind] at h;obtain⟨rfl,rfl⟩:=h;rfl
 |exc=>rw[e] at h;simp[R.bind] at h
 |stk=>rw[e] at h;simp[R.bind] at h
theorem zG (hn:m2≠.P:=by decide)(ha:DE X G a b1 m1 g1)(hb:DE X G (.BoolOp .And (b::rest) pos) b2 m2 g2):DE X G (.BoolOp .And (a::b::rest) pos) (b1||b2) .S (CF g1 g2):=⟨(K7 ha.un hb.un).to λσ H Q h=>by
 obtain⟨Z,A,ρ,q,f⟩:=h;obtain⟨⟨k,ρ1⟩,e1,f⟩:=f.bind;refine⟨Z,A,ρ,q,?_⟩;rw[N7 e1];intro v H1 q1 x1 s1 vm;refine⟨k,vm.pk.bl,?_⟩;cases k with
 |true=>
  rw[hV rfl] at f ⊢;refine⟨Z,A,ρ1,q1,?_⟩;dsimp only at f;cases e2:g2 ρ1 with
  |ok y=>rw[e2] at f;exact λv2 H2 q2 x2 s2 uc=>f v2 H2 q2 (x1.trans x2) (two s1 s2) (uc.rp hn)
  |exc=>rw[e2] at f;exact f.elim
  |stk=>rw[e2] at f;exact f.elim
 |false=>
  rw[hU WA] at f ⊢;exact f _ H1 q1 x1 (λz=>s1 (XC.mp z).1) (zf.ofS o5)⟩
theorem EE {op}(ha:DE X G a b1 m1 g1):DE X G (.BoolOp op [a] pos) b1 m1 g1:=⟨K6 ha.un⟩
noncomputable def RC (h:Ev->R (Bool×Ev))(g1 g2:Ev->R (U×Ev)):Ev->R (U×Ev):=λρ=>(h ρ).bind λx=>if x.1=true then g1 x.2 else g2 x.2
theorem EF (Vk:m1≠.P:=by decide)(KA:m2≠.P:=by decide)(hc:DT X G c b1 h1)(ha:DE X G a b2 m1 g1)(hb:DE X G b b3 m2 g2):DE X G (.IfExp c a b pos) (b1||(b2||b3)) .S (RC h1 g1 g2):=⟨(DP hc.un ha.un hb.un).to λσ H Q h=>by
 obtain⟨Z,A,ρ,q,f⟩:=h;obtain⟨⟨k,ρ1⟩,e1,f⟩:=f.bind;refine⟨Z,A,ρ,q,?_⟩;rw[e1];intro H1 q1 x1 s1;cases k with
 |true=>
  rw[hV rfl] at f ⊢;refine⟨Z,A,ρ1,q1,?_⟩;dsimp only at f;cases e2:g1 ρ1 with
  |ok y=>rw[e2] at f;exact λv2 H2 q2 x2 s2 uc=>f v2 H2 q2 (x1.trans x2) (two s1 λz=>s2 (XC.mp z).1) (uc.rp Vk)
  |exc=>rw[e2] at f;exact f.elim
  |stk=>rw[e2] at f;exact f.elim
 |false=>
  rw[hU WA] at f ⊢;refine⟨Z,A,ρ1,q1,?_⟩;dsimp only at f;cases e2:g2 ρ1 with
  |ok y=>rw[e2] at f;exact λv2 H2 q2 x2 s2 uc=>f v2 H2 q2 (x1.trans x2) (two s1 λz=>s2 (XC.mp z).2) (uc.rp KA)
  |exc=>rw[e2] at f;exact f.elim
  |stk=>rw[e2] at f;exact f.elim⟩
noncomputable def rE (p p':U->U->R U)(g1 g2 g3:Ev->R (U×Ev)):Ev->R (U×Ev):=λρ=>(g1 ρ).bind λx=>(g2 x.2).bind λy=>(p x.1 y.1).bind λz=>match z with
 | .bl k=>if k=true then (g3 y.2).bind λw=>(p' y.1 w.1).bind λz'=>.ok (z',w.2) else .ok (.bl false,y.2)
 |_=>.stk
theorem zH {p p':U->U->R U}(hp:fG X.K r .S p)(Ci:fG X.K r' .S p')(n1:m1≠.P)(n2:m2≠.P){Q:VK}(h:tD X.K G (b1||(b2||b3)) .S (rE p p' g1 g2 g3) σ H Q) :
  D6 r r' (tD X.K G b1 m1 g1) (tD X.K G b2 m2 g2) (tD X.K G b3 m3 g3) σ H Q:=by
 obtain⟨Z,A,ρ,q,f⟩:=h;obtain⟨⟨u,ρ1⟩,e1,f⟩:=f.bind;obtain⟨⟨w,ρ2⟩,e2,f⟩:=f.bind;obtain⟨z,e3,f⟩:=f.bind;refine⟨Z,A,ρ,q,?_⟩;rw[e1];intro v1 H1 q1 x1 s1 t_;refine⟨Z,A,ρ1,q1,?_⟩;dsimp only at e2;rw[e2];intro v2 H2 q2 x2 s2 uc;refine hp A H2 v1 v2 u w z _ (t_.laterS q1 x2 n1).pk uc.pk q2.mu e3 λv H3 sm vm=>?_;cases z with
 |bl k=>
  refine⟨k,(show Rp X.K H3 A (.bl k) v from vm).pk.bl,?_⟩;have q3:=q2.same sm;cases k with
  |false=>
   rw[hU WA];exact f _ H3 q3 ((x1.trans x2).trans (fh.same sm)) (λz=>by
    obtain⟨a,b⟩:=XC.mp z;exact p_ (two s1 s2) sm (by rw[a,(XC.mp b).1];rfl)) (zf.ofS o5)
  |true=>
   rw[hV rfl];dsimp only at f;rw[hV rfl] at f;obtain⟨⟨w3,ρ3⟩,e4,f⟩:=f.bind;obtain⟨z',e5,f⟩:=f.bind;refine⟨Z,A,ρ2,q3,?_⟩;rw[e4];intro v4 H4 q4 x4 s4 Vl;refine Ci A H4 v2 v4 w w3 z' Q ((uc.rp n2).same sm |>.re q3.mu x4 (λb z=>.inl z)).pk Vl.pk q4.mu e5 λv5 H5 KI Vm=>?_;refine f v5 H5 (q4.same KI) (((x1.trans x2).trans (fh.same sm)).trans (x4.trans (fh.same KI))) ?_ (Vm.e q4 KI);intro z;obtain⟨a,b⟩:=XC.mp z;obtain⟨b,c⟩:=XC.mp b;exact p_ (two (p_ (two s1 s2) sm) s4) KI (by rw[a,b,c];rfl)
 |_=>exact f.elim
theorem xJ {MQ:CmpOp}{p p':U->U->R U}(ho:j3 X (Yf op) r)(hp:fG X.K r .S p)(GK:j3 X (Yf MQ) r')(Ci:fG X.K r' .S p')(ha:DE X G a b1 m1 g1)(hb:DE X G b b2 m2 g2)(hc:DE X G c b3 m3 g3)(n1:m1≠.P:=by decide)(n2:m2≠.P:=by decide)(hm:lastMarks [op,MQ] [b,c]=false:=by with_unfolding_all rfl):DT X G (.Compare a [op,MQ] [b,c] pos) (b1||(b2||b3)) (gB (rE p p' g1 g2 g3)):=⟨(D7 ho GK ha.un hb.un hc.un hm).to λ_ _ _ h=>zH hp Ci n1 n2 (ow (m:=.S) h)⟩
noncomputable def UQ (p:U->R U)(g:Ev->R (U×Ev)):Ev->R (U×Ev):=λρ=>(g ρ).bind λx=>(p x.1).bind λz=>.ok (z,x.2)
noncomputable def ar:Ev->R (List U×Ev):=λρ=>.ok ([],ρ)
noncomputable def af (g:Ev->R (U×Ev))(ga:Ev->R (List U×Ev)):Ev->R (List U×Ev):=λρ=>(g ρ).bind λx=>(ga x.2).bind λy=>.ok (x.1::y.1,y.2)
variable {ga:Ev->R (List U×Ev)}{p:Bool}
theorem ah:DA X G [] false p ar:=⟨qO.to λσ H Q ⟨Z,A,ρ,q,f⟩=>f [] H q fh.refl (λ_=>⟨rfl,aY.refl _⟩) (by unfold HJ;split;exact rfl;exact aO.nil)⟩
theorem ae (ha:DE X G e b1 m1 g1)(hr:DA X G es b2 p ga)(hm:m1=.P->(p=true/\b2=false):=by first|exact λ_=>⟨rfl,rfl⟩|exact λh=>nomatch h)
  (hs:WY (e::es) X.env=(false,Z0 e X.env)::WY es X.env:=by rfl):DA X G (e::es) (b1||b2) p (af g1 ga):=⟨(mL ha.un hr.un hs).to λσ H Q h=>by
 obtain⟨Z,A,ρ,q,f⟩:=h;obtain⟨⟨u,ρ1⟩,e1,f⟩:=f.bind;obtain⟨⟨us,ρ2⟩,e2,f⟩:=f.bind;refine⟨Z,A,ρ,q,?_⟩;rw[e1];intro v1 H1 q1 x1 s1 t_;refine⟨Z,A,ρ1,q1,?_⟩;dsimp only at e2;rw[e2];intro vs H2 q2 x2 s2 uc;refine f (v1::vs) H2 q2 (x1.trans x2) (two s1 s2) ?_;unfold HJ at uc ⊢;cases p with
 |true=>
  rw[hV rfl] at uc ⊢;exact⟨v1,vs,rfl,t_.later q1 x2 s2 (λz=>(hm z).2),uc⟩
 |false=>
  rw[hU WA] at uc ⊢;exact aO.cons (t_.laterS q1 x2 λz=>WA (hm z).1) uc⟩
theorem HJ.pks (h:HJ K p A H us vs):zE K H A us vs:=by
 unfold HJ at h;cases p with
 |true=>rw[hV rfl] at h;exact h
 |false=>rw[hU WA] at h;exact h.pks
theorem HJ.rps (h:HJ K false A H us vs):aO K H A us vs:=by
 unfold HJ at h;rw[hU WA] at h;exact h
noncomputable def aQ (ga:Ev->R (List U×Ev)):Ev->R (U×Ev):=λρ=>(ga ρ).bind λx=>if x.1.length<=WE then .ok (.tup x.1,x.2) else .stk
noncomputable def bE (ga:Ev->R (List U×Ev)):Ev->R (U×Ev):=λρ=>(ga ρ).bind λx=>if x.1.length<=WE then .ok (.lst x.1,x.2) else .stk
theorem cW {p:WT}(h:H p=none)(o:HO):aY H (cY H p o):=λb u q=>by rw[bo (b9 q h)];exact q
theorem uR {a:WT}(h:aO K H A us vs)(n:H a=none)(l:us.length<=WE):Rp K (cY H a (.tup vs)) A (.tup us) (.ref a):=by
 unfold Rp;exact⟨a,vs,rfl,bT,l,h.same (cW n _)⟩
theorem bJ {a:WT}(m:∀b,A b->Mu (H b))(h:aO K H A us vs)(n:H a=none)(l:us.length<=WE):kr K (cY H a (.lst vs)) (λb=>A b\/b=a) (.lst us) a:=
 ⟨vs,bT,l,h.re m (fh.same (cW n _)) λb z=>by
  rcases z with z|z
  ·exact .inl z
  ·subst z;exact .inr n⟩
theorem aT {x1}(h:DA X G es b1 false ga):DE X G (.Tuple es x1 pos) b1 .S (aQ ga):=⟨(Lg h.un).to λσ H Q h=>by
 obtain⟨Z,A,ρ,q,f⟩:=h;obtain⟨⟨us,ρ1⟩,e1,f⟩:=f.bind;refine⟨Z,A,ρ,q,?_⟩;rw[e1];intro vs H1 q1 x1 s1 t_;dsimp only at f;split at f
 ·rename_i l;refine⟨by rw[←t_.rps.length];exact l,λa n=>?_⟩;exact f _ _ (q1.same (cW n _)) (x1.trans (fh.same (cW n _))) (p_ s1 (cW n _)) (zf.ofS (uR t_.rps n l))
 ·exact f.elim⟩
theorem bK (h:DA X G es b1 false ga):DE X G (.List es pos) b1 .O (bE ga):=⟨(D8 h.un).to λσ H Q h=>by
 obtain⟨Z,A,ρ,q,f⟩:=h;obtain⟨⟨us,ρ1⟩,e1,f⟩:=f.bind;refine⟨Z,A,ρ,q,?_⟩;rw[e1];intro vs H1 q1 x1 s1 t_;dsimp only at f;split at f
 ·rename_i l;refine⟨by rw[←t_.rps.length];exact l,λa n=>?_⟩;exact f _ _ (q1.same (cW n _)) (x1.trans (fh.same (cW n _))) (p_ s1 (cW n _)) (DH.e q1 (cW n _) ⟨a,rfl,n,bJ q1.mu t_.rps n l⟩)
 ·exact f.elim⟩
noncomputable def gG (p:List U->R U)(ga:Ev->R (List U×Ev)):Ev->R (U×Ev):=λρ=>(ga ρ).bind λx=>(p x.1).bind λz=>.ok (z,x.2)
def lK (K:Wv)(r:List V->Hp->VK->Prop)(m:Md)(p:List U->R U):Prop:=∀A H vs us z Q,zE K H A us vs->(∀a,A a->Mu (H a))->p us=.ok z->(∀v H',aY H H'->DH K m A H H' z v->Q v H')->r vs H Q
theorem qx {r:List V->Hp->VK->Prop}{f:List U->R U}(hp:lK X.K r mr f){Q:VK}(h:tD X.K G b1 mr (gG f ga) σ H Q):Ru r (RA X.K G b1 p ga) σ H Q:=by
 obtain⟨Z,A,ρ,q,f⟩:=h;obtain⟨⟨us,ρ1⟩,e1,f⟩:=f.bind;obtain⟨z,e2,f⟩:=f.bind;refine⟨Z,A,ρ,q,?_⟩;rw[e1];intro vs H1 q1 x1 s1 t_;exact hp A H1 vs us z Q t_.pks q1.mu e2 λv H' sm vm=>f v H' (q1.same sm) (x1.trans (fh.same sm)) (p_ s1 sm) (vm.e q1 sm)
theorem a7 {id:String}{p1:Pos}{r:List V->Hp->VK->Prop}{f:List U->R U}(hc:eT X (.builtin id) r)(hp:lK X.K r mr f)(hg:Gl X x)(hm:X.mg x=none)(hv:XG x=some (.builtin id))(ha:DA X G (e::es) b1 true ga)(hn:x≠"__name__":=by decide)(AM:(x==("__debug__":Str))=false:=by decide)
  (he:WY (e::es) X.env=(false,Z0 e X.env)::WY es X.env:=by rfl) (t9:(Zc pos (WY es X.env)).any (·.1)=false:=by rfl):DE X G (.Call (.Name x p1) (e::es) [] pos) b1 mr (gG f ga):=⟨(qP hc hg hm hv ha.un hn AM he t9).to λ_ _ _=>qx hp⟩
theorem eG {T:String}{p1:Pos}{r:List V->Hp->VK->Prop}{f:List U->R U}(hc:eT X (.type T) r)(hp:lK X.K r mr f)(hg:Gl X x)(hm:X.mg x=none)(hv:XG x=some (.type T))(ha:DA X G (e::es) b1 true ga)(hn:x≠"__name__":=by decide)(AM:(x==("__debug__":Str))=false:=by decide)
  (he:WY (e::es) X.env=(false,Z0 e X.env)::WY es X.env:=by rfl) (t9:(Zc pos (WY es X.env)).any (·.1)=false:=by rfl):DE X G (.Call (.Name x p1) (e::es) [] pos) b1 mr (gG f ga):=⟨(jz hc hg hm hv ha.un hn AM he t9).to λ_ _ _=>qx hp⟩
end
end L2
namespace L2
section
variable {A':WT->Prop}{ρ':Ev}{b p:Bool}{m:Md}{α:Type}
theorem kr.mono (n:∀b,A' b->A b)(h:kr K H A u a):kr K H A' u a:=by
 cases u<;>(unfold kr at h ⊢)
 case lst us=>obtain⟨xs,q,l,z⟩:=h;exact⟨xs,q,l,z.mono n⟩
 case dct ks us=>obtain⟨xs,q,l,z⟩:=h;exact⟨xs,q,l,z.mono n⟩
 all_goals exact h.elim
theorem cZ {α:Type}{l:List (Option α)}{x:Option α}{y:α}(h:(l.set i x)[j]? = some (some y)):(i=j/\x=some y)\/(i≠j/\l[j]? = some (some y)):=by
 by_cases e:i=j
 ·subst e;rw[List.getElem?_set_self'] at h;refine .inl ⟨rfl,?_⟩;cases q:l[i]? with
  |none=>rw[q] at h;cases h
  |some w=>rw[q] at h;exact W0 h
 ·rw[W_ e] at h;exact .inr ⟨e,h⟩
theorem qy {α:Type}{l l':List (Option α)}{x:α}{β:Type}{k:List (Option β)}{y:Option β}{z:β}(hl:k.length=l.length)(h:(k.set i y)[i]? = some (some z)):(l.set i (some x))[i]? = some (some x):=by
 have:i<l.length:=by
  have:=(WH.mp h).1;rw[XA] at this;lia
 rw[YX this]
theorem cE.set (r:cE K G Z A ρ σ H)(c:G.is i=false)(h:Rp K H A u v):cE K G Z A (ρ.set i (some u)) (σ.set i (some v)) H where
 slot:=λj w hj=>by
  rcases cZ hj with⟨rfl,e⟩|⟨ne,e⟩
  ·cases e;refine⟨v,qy (l':=σ) r.len hj,?_⟩;rw[hU (by rw[c];exact WA)];exact h
  ·rw[W_ ne];exact r.slot j w e
 dis:=λj k w w' a cj ck ne hj hk sj sk=>by
  rcases cZ hj with⟨rfl,_⟩|⟨n1,e1⟩
  ·rw[c] at cj;cases cj
  ·rcases cZ hk with⟨rfl,_⟩|⟨n2,e2⟩
   ·rw[c] at ck;cases ck
   ·rw[W_ n1] at sj;rw[W_ n2] at sk;exact r.dis j k w w' a cj ck ne e1 e2 sj sk
 mu:=r.mu
 sup:=r.sup
 out:=r.out
 bas:=r.bas
 io0:=λh0=>by
  obtain⟨a,b⟩:=r.io0 h0;refine⟨?_,b⟩;have:i≠0:=λz=>by subst z;rw[b] at c;cases c
  rw[W_ this];exact a
 len:=by rw[XA,XA];exact r.len
theorem cE.drop (r:cE K G Z A ρ σ H)(i:Nat):cE K G Z A (ρ.set i none) σ H where
 slot:=λj w hj=>by
  rcases cZ hj with⟨rfl,e⟩|⟨ne,e⟩
  ·cases e
  ·exact r.slot j w e
 dis:=λj k w w' a cj ck ne hj hk sj sk=>by
  rcases cZ hj with⟨rfl,e⟩|⟨n1,e1⟩
  ·cases e
  ·rcases cZ hk with⟨rfl,e⟩|⟨n2,e2⟩
   ·cases e
   ·exact r.dis j k w w' a cj ck ne e1 e2 sj sk
 mu:=r.mu
 sup:=r.sup
 out:=r.out
 bas:=r.bas
 io0:=r.io0
 len:=by rw[XA];exact r.len
theorem cE.setO (r:cE K G Z A ρ σ H)(c:G.is i=true)(hi:G.io=true->i≠0)(na:¬A a)(nb:Z.B a=none)(r':cE K G Z (λb=>A b\/b=a) ρ σ H)(h:kr K H (λb=>A b\/b=a) u a) :
  cE K G Z (λb=>A b\/b=a) (ρ.set i (some u)) (σ.set i (some (.ref a))) H where
 slot:=λj w hj=>by
  rcases cZ hj with⟨rfl,e⟩|⟨ne,e⟩
  ·cases e;refine⟨.ref a,qy (l':=σ) r.len hj,?_⟩;rw[hV c];exact⟨a,rfl,.inr rfl,nb,.inl λz=>na (r.sup a z),h⟩
  ·rw[W_ ne];exact r'.slot j w e
 dis:=λj k w w' b cj ck ne hj hk sj sk=>by
  have key:∀k w',G.is k=true->i≠k->ρ[k]? = some (some w')->σ[k]? ≠ some (some (.ref a)):=λk w' ck _ e q=>by
   obtain⟨b,h1,h2,_⟩:=r.own ck e;rw[h1] at q;cases q;exact na h2
  rcases cZ hj with⟨rfl,e1⟩|⟨n1,e1⟩
  ·rcases cZ hk with⟨rfl,_⟩|⟨n2,e2⟩
   ·exact ne rfl
   ·rw[qy (l':=σ) r.len hj] at sj;cases sj;rw[W_ n2] at sk;exact key k w' ck n2 e2 sk
  ·rcases cZ hk with⟨rfl,e2⟩|⟨n2,e2⟩
   ·rw[qy (l':=σ) r.len hk] at sk;cases sk;rw[W_ n1] at sj;exact key j w cj n1 e1 sj
   ·rw[W_ n1] at sj;rw[W_ n2] at sk;exact r.dis j k w w' b cj ck ne e1 e2 sj sk
 mu:=r'.mu
 sup:=r'.sup
 out:=r'.out
 bas:=r'.bas
 io0:=λh0=>by
  obtain⟨a,b⟩:=r.io0 h0;exact⟨by rw[W_ (hi h0)];exact a,b⟩
 len:=by rw[XA,XA];exact r.len
theorem cE.put (r:cE K G Z A ρ σ H){w:U}(c:G.is i=true)(h:ρ[i]? = some (some u))(ha:σ[i]? = some (some (.ref a)))(e:∀b o,b≠a->H b=some o->H' b=some o)(t:kr K H' A w a) :
  cE K G Z A (ρ.set i (some w)) σ H':=by
 obtain⟨a',h1,h2,h3,h4,h5⟩:=r.own c h;rw[ha] at h1;cases h1;have x:fh A H H':=λb o nb z=>e b o (λq=>nb (q▸h2)) z;exact {
  slot:=λj y hj=>by
   rcases cZ hj with⟨rfl,q⟩|⟨ne,q⟩
   ·cases q;refine⟨.ref a,ha,?_⟩;rw[hV c];exact⟨a,rfl,h2,h3,h4,t⟩
   ·obtain⟨v,s1,s2⟩:=r.slot j y q;refine⟨v,s1,?_⟩;by_cases cj:G.is j=true
    ·rw[hV cj] at s2 ⊢;obtain⟨b,e1,e2,e3,e4,e5⟩:=s2;refine⟨b,e1,e2,e3,e4,e5.re r.mu x (λb z=>.inl z) λo z=>e b o (λq'=>?_) z⟩;subst q' e1;exact r.dis i j u y b c cj ne h q ha s1
    ·rw[hU cj] at s2 ⊢;exact s2.re r.mu x λb z=>.inl z
  dis:=λj k y y' b cj ck ne hj hk sj sk=>by
   have f:∀j y,(ρ.set i (some w))[j]? = some (some y)->∃y',ρ[j]? = some (some y'):=λj y hj=>by
    rcases cZ hj with⟨rfl,q⟩|⟨ne,q⟩
    ·exact⟨u,h⟩
    ·exact⟨y,q⟩
   obtain⟨y1,hj⟩:=f j y hj;obtain⟨y2,hk⟩:=f k y' hk;exact r.dis j k y1 y2 b cj ck ne hj hk sj sk
  mu:=λb z=>by
   by_cases q:b=a
   ·subst q;exact t.mu
   ·have m:=r.mu b z;obtain⟨o,z⟩:=m.ex;rw[e b o q z,←z];exact m
  sup:=r.sup
  out:=r.out
  bas:=λb o z=>e b o (λq=>by subst q;rw[h3] at z;cases z) (r.bas b o z)
  io0:=r.io0
  len:=by rw[XA];exact r.len}
end
def N8 (K:Wv)(m:Md)(A:WT->Prop)(H:Hp):R U->VK->Prop
 | .ok u,Q=>∀v H',aY H H'->DH K m A H H' u v->Q v H'
 |_,_=>False
noncomputable def zI {α:Type}(n:Nat)(g:List U->R α)(us:List U):R α:=if us.length=n then g us else .stk
def fb (K:Wv)(n:Nat)(f:List U->R U)(m:Md):Sp:=λvs H Q _=>∃us A,aO K H A us vs/\(∀a,A a->Mu (H a))/\N8 K m A H (zI n f us) Q
def A8 (K:Wv)(n:Nat)(f:List U->R (U×U)):Sp:=λvs H Q _=>∃u0 us a0 vs' A,vs=.ref a0::vs'/\A a0/\kr K H A u0 a0/\aO K H A us vs'/\(∀a,A a->Mu (H a))/\match zI n f (u0::us) with
 | .ok (u,w)=>∀v H',(∀b o,b≠a0->H b=some o->H' b=some o)->kr K H' A w a0->Rp K H' A u v->Q v H'
 |_=>False
section
variable {e a b:Yv}{es rest:List Yv}{p1:Pos}{b1 b2 b3:Bool}{m1 m2 m3 mr:Md}{g1 g2 g3:Ev->R (U×Ev)}{h1 h2:Ev->R (Bool×Ev)}{ga:Ev->R (List U×Ev)}
noncomputable def dQ (n:Nat)(f:List U->R U)(ga:Ev->R (List U×Ev)):Ev->R (U×Ev):=λρ=>(ga ρ).bind λx=>(zI n f x.1).bind λz=>.ok (z,x.2)
theorem aH {f:List U->R U}(F:Fn X.prog X.w X.K X.mg X.base x k ps (fb X.K n f mr))(hr:fB k X.A)(ha:DA X G (e::es) b1 false ga)(hg:Gl X x:=by rfl)(AM:(x==("__debug__":Str))=false:=by decide)(he:WY (e::es) X.env=(false,Z0 e X.env)::WY es X.env:=by rfl)(t9:(Zc pos (WY es X.env)).any (·.1)=false:=by rfl):DE X G (.Call (.Name x p1) (e::es) [] pos) b1 mr (dQ n f ga):=⟨(xF F hr ha.un hg AM he t9).to λσ H Q h=>by
 obtain⟨Z,A,ρ,q,f⟩:=h;obtain⟨⟨us,ρ1⟩,e1,f⟩:=f.bind;obtain⟨z,e2,f⟩:=f.bind;refine⟨Z,A,ρ,q,?_⟩;rw[e1];intro vs H1 q1 x1 s1 t_;show fb _ _ _ _ _ _ _ _;rw[Xj];refine⟨us,A,t_.rps,q1.mu,?_⟩;dsimp only at e2;rw[e2];exact λv H' sm vm=>f v H' (q1.same sm) (x1.trans (fh.same sm)) (p_ s1 sm) (vm.e q1 sm)⟩
noncomputable def live (ρ:Ev)(i:Nat):Bool:=match ρ[i]? with
 |some (some _)=>true
 |_=>false
theorem A9 (h:live ρ i=true):∃u,ρ[i]? = some (some u):=by
 unfold live at h;split at h
 ·rename_i u hu;exact⟨u,hu⟩
 ·cases h
noncomputable def uS (n i:Nat)(f:List U->R (U×U))(ga:Ev->R (List U×Ev)):Ev->R (U×Ev):=λρ=>if live ρ i=true then (ga ρ).bind λx=>match x.2[i]? with
 |some (some u0)=>(zI n f (u0::x.1)).bind λz=>.ok (z.1,x.2.set i (some z.2))
 |_=>.stk
 else .stk
theorem eU {y:Str}{p2:Pos}{f:List U->R (U×U)}(F:Fn X.prog X.w X.K X.mg X.base x k ps (A8 X.K n f))(hr:fB k X.A)(ha:DA X G es b1 false ga)(hN:X.N[i]? = some y:=by rfl)(hv:Ha X.env.scope y:=by first|exact Or.inl rfl|exact Or.inr (Or.inl rfl)|exact Or.inr (Or.inr rfl))(c:G.is i=true:=by rfl)(hd:(y==("__debug__":Str))=false:=by decide)(tW:(y==("__classdict__":Str))=false:=by decide)(hs:WY (.Name y p2::es) X.env=(false,Z0 (.Name y p2) X.env)::WY es X.env:=by rfl)(hg:Gl X x:=by rfl)(AM:(x==("__debug__":Str))=false:=by decide)(t9:(Zc pos (WY es X.env)).any (·.1)=false:=by rfl):DE X G (.Call (.Name x p1) (.Name y p2::es) [] pos) true .S (uS n i f ga):=⟨(xF F hr (mL (ma hN hv hd tW) ha.un hs) hg AM hs t9).to λσ H Q h=>by
 obtain⟨Z,A,ρ,q,f⟩:=h;unfold uS at f;split at f
 ·rename_i hl;obtain⟨u00,hu0⟩:=A9 hl;obtain⟨a0,h0,_⟩:=q.own c hu0;obtain⟨⟨us,ρ1⟩,e1,f⟩:=f.bind;dsimp only at f;split at f
  ·rename_i u0 hu;obtain⟨⟨z,w⟩,e2,f⟩:=f.bind;refine⟨.ref a0,h0,Z,A,ρ,q,?_⟩;rw[e1];intro vs H1 q1 x1 s1 t_;obtain⟨a0',k1,k2,_,_,k3⟩:=q1.own c hu;rw[h0] at k1;cases k1;show A8 _ _ _ _ _ _ _;rw[Xj];refine⟨u0,us,a0,vs,A,rfl,k2,k3,t_.rps,q1.mu,?_⟩;rw[e2];intro v H' em tp rp;exact f v H' (q1.put c hu h0 em tp) (x1.trans λb o nb z=>em b o (λy=>nb (y▸k2)) z) (λz=>nomatch z) rp
  ·exact f.elim
 ·exact f.elim⟩
def EG (K:Wv)(T:String)(r:V->List V->Hp->VK->Prop)(p:U->List U->R (U×U)):Prop:=∀A H a u vs us z w Q,kr K H A u a->A a->aO K H A us vs->(∀a,A a->Mu (H a))->p u us=.ok (z,w)->
 (∀v H',(∀b o,b≠a->H b=some o->H' b=some o)->kr K H' A w a->Rp K H' A z v->Q v H')->r (.ref a) vs H Q
noncomputable def CG:U->String->Bool
 | .lst _,T=>T=="list"
 |_,_=>false
theorem Lz {a:WT}{T:String}(h:kr K H A u a)(t:CG u T=true):Rv K T (.ref a) H:=by
 cases u<;>(unfold CG at t;unfold kr at h)
 case lst us=>
  obtain⟨xs,q,_⟩:=h;exact .inl ⟨by simpa using t,xs,.inl (.inl q)⟩
 all_goals cases t
noncomputable def gM (T:String)(i:Nat)(p:U->List U->R (U×U))(ga:Ev->R (List U×Ev)):Ev->R (U×Ev):=λρ=>match ρ[i]? with
 |some (some u1)=>if CG u1 T=true then (ga ρ).bind λx=>match x.2[i]? with
  |some (some u0)=>(p u0 x.1).bind λz=>.ok (z.1,x.2.set i (some z.2))
  |_=>.stk
  else .stk
 |_=>.stk
theorem EH {T:String}{r:V->List V->Hp->VK->Prop}{p:U->List U->R (U×U)}(hp:EG X.K T r p)(c:G.is i=true){Q:VK}(h:tD X.K G true .S (gM T i p ga) σ H Q) :
  TQ X.K T r (KY i) (RA X.K G b1 false ga) σ H Q:=by
 obtain⟨Z,A,ρ,q,f⟩:=h;unfold gM at f;split at f
 ·rename_i u1 kg;split at f
  ·rename_i ht;obtain⟨a0,h0,_,_,_,t0⟩:=q.own c kg;obtain⟨⟨us,ρ1⟩,e1,f⟩:=f.bind;dsimp only at f;split at f
   ·rename_i u0 hu;obtain⟨⟨z,w⟩,e2,f⟩:=f.bind;refine⟨.ref a0,h0,Lz t0 ht,Z,A,ρ,q,?_⟩;rw[e1];intro vs H1 q1 x1 s1 t_;obtain⟨a0',k1,k2,_,_,k3⟩:=q1.own c hu;rw[h0] at k1;cases k1;exact hp A H1 a0 u0 vs us z w Q k3 k2 t_.rps q1.mu e2 λv H' em tp rp=>f v H' (q1.put c hu h0 em tp) (x1.trans λb o nb z=>em b o (λy=>nb (y▸k2)) z) (λz=>nomatch z) rp
   ·exact f.elim
  ·exact f.elim
 ·exact f.elim
theorem md {T id:String}{y name:Str}{p2 gR:Pos}{r:V->List V->Hp->VK->Prop}{p:U->List U->R (U×U)}(pa:PlainAttrs T)(slot:Slot T name id)(S2:typeOf (.builtin id)=pure (.type "method_descriptor"))(hm:Jj X id r)(hp:EG X.K T r p)(ha:DA X G (e::es) b1 false ga)(hN:X.N[i]? = some y:=by rfl)(hv:Ha X.env.scope y:=by first|exact Or.inl rfl|exact Or.inr (Or.inl rfl)|exact Or.inr (Or.inr rfl))(c:G.is i=true:=by rfl)(hd:(y==("__debug__":Str))=false:=by decide)(tW:(y==("__classdict__":Str))=false:=by decide)(yZ:aan (.Name y p2) name X.env (Z0 (.Name y p2) X.env)=Z0 (.Name y p2) X.env:=by rfl)(GL:((Zc pos (WY (e::es) X.env)).all (λx=> !x.1)&&(backToKw pos (aa9 [] X.env)).all (λx=>x.1.isSome)
   && decide ((e::es).length+([]:List aaR).length+(if ([]:List aaR).isEmpty then 0 else 1)<30))=true:=by rfl)(y_:(gR.endLine==pos.line)=true:=by rfl)(hs:WY (e::es) X.env=(false,Z0 e X.env)::WY es X.env:=by rfl)(tX:(Zc pos (WY es X.env)).any (·.1)=false:=by rfl) :
  DE X G (.Call (.Attribute (.Name y p2) name gR) (e::es) [] pos) true .S (gM T i p ga):=⟨(Jk pa slot S2 hm (ma hN hv hd tW) ha.un yZ GL y_ hs tX).to λ_ _ _=>EH hp c⟩
def EI (K:Wv)(r:V->Option Int->Option Int->Hp->VK->Prop)(m:Md)(p:U->Option Int->Option Int->R U):Prop:=∀A H x u lo hi z Q,Pk K H A u x->(∀a,A a->Mu (H a))->p u lo hi=.ok z->(∀v H',aY H H'->DH K m A H H' z v->Q v H')->r x lo hi H Q
def RD (K:Wv)(G:Gm)(Z:Pkg)(A:WT->Prop)(b:Bool)(ρ:Ev)(σ:St)(H:Hp):R (Option Int×Ev)->(Option Int->Hp->Prop)->Prop
 | .ok (c,ρ'),Q=>∀H',cE K G Z A ρ' σ H'->fh A H H'->(b=false->ρ'=ρ/\aY H H')->Q c H'
 |_,_=>False
def UR (K:Wv)(G:Gm)(b:Bool)(g:Ev->R (Option Int×Ev)):TO:=λσ H Q=>∃Z A ρ,cE K G Z A ρ σ H/\RD K G Z A b ρ σ H (g ρ) Q
structure DO (X:Cx)(G:Gm)(e:Option Yv)(b:Bool)(g:Ev->R (Option Int×Ev)):Prop where
 un:PO X e (UR X.K G b g)
noncomputable def o7:Ev->R (Option Int×Ev):=λρ=>.ok (none,ρ)
noncomputable def mR (g:Ev->R (U×Ev)):Ev->R (Option Int×Ev):=λρ=>(g ρ).bind λx=>match x.1 with
 | .int i=>.ok (some i,x.2)
 |_=>.stk
theorem PO.to {e:Option Yv}{t t':TO}(h:PO X e t)(i:∀σ H Q,t' σ H Q->t σ H Q):PO X e t':=λpins s σ H Q I q=>h pins s σ H Q I (i _ _ _ q)
theorem vU:DO X G none false o7:=⟨Hr.to λσ H Q ⟨Z,A,ρ,q,f⟩=>f H q fh.refl λ_=>⟨rfl,aY.refl _⟩⟩
theorem vV (h:DE X G e b1 m1 g1):DO X G (some e) b1 (mR g1):=⟨(Hs h.un).to λσ H Q h00=>by
 obtain⟨Z,A,ρ,q,f⟩:=h00;refine⟨Z,A,ρ,q,?_⟩;unfold mR at f;cases e1:g1 ρ with
 |stk=>rw[e1] at f;exact f.elim
 |exc=>rw[e1] at f;exact f.elim
 |ok x=>
  obtain⟨u,ρ1⟩:=x;rw[e1] at f;intro v H1 q1 x1 s1 vm;cases u with
  |int c=>exact⟨c,vm.pk.int,f H1 q1 x1 s1⟩
  |_=>exact f.elim⟩
noncomputable def Jo (p:U->Option Int->Option Int->R U)(g:Ev->R (U×Ev))(lo hi:Ev->R (Option Int×Ev)):Ev->R (U×Ev):=λρ=>(g ρ).bind λx=>(lo x.2).bind λl=>(hi l.2).bind λh=>(p x.1 l.1 h.1).bind λz=>.ok (z,h.2)
theorem rF {r:V->Option Int->Option Int->Hp->VK->Prop}{p:U->Option Int->Option Int->R U}{lo hi:Option Yv}{p2:Pos}{gl gh:Ev->R (Option Int×Ev)}(hr:Eb X r)(hp:EI X.K r mr p)(he:DE X G e b1 m1 g1)(hl:DO X G lo b2 gl)(hu:DO X G hi b3 gh)
  (hm:m1=.P->(b2||b3)=false:=by first|exact λ_=>rfl|exact λh=>nomatch h):DE X G (.Subscript e (.Slice lo hi none p2) pos) (b1||(b2||b3)) mr (Jo p g1 gl gh):=⟨(Ec hr he.un hl.un hu.un).to λσ H Q h=>by
 obtain⟨Z,A,ρ,q,f⟩:=h;obtain⟨⟨u,ρ1⟩,e1,f⟩:=f.bind;obtain⟨⟨l,ρ2⟩,e2,f⟩:=f.bind;obtain⟨⟨h,ρ3⟩,e3,f⟩:=f.bind;obtain⟨z,e4,f⟩:=f.bind;dsimp only at e2 e3 e4 f;refine⟨Z,A,ρ,q,?_⟩;rw[e1];intro v1 H1 q1 x1 s1 t_;refine⟨Z,A,ρ1,q1,?_⟩;rw[e2];intro H2 q2 x2 s2;refine⟨Z,A,ρ2,q2,?_⟩;rw[e3];intro H3 q3 x3 s3;exact hp A H3 v1 u l h z Q (t_.later q1 (x2.trans x3) (two s2 s3) hm) q3.mu e4 λv H' sm vm=>f v H' (q3.same sm) ((x1.trans (x2.trans x3)).trans (fh.same sm)) (p_ (two s1 (two s2 s3)) sm) (vm.e q3 sm)⟩
end
end L2
namespace L2
def RE (K:Wv)(G:Gm)(sg:U->Ev->R Ev):TG:=λv σ H Q=>∃Z A ρ u,cE K G Z A ρ σ H/\Rp K H A u v/\match sg u ρ with
 | .ok ρ'=>∀σ',cE K G Z A ρ' σ' H->(∀i,G.is i=true->σ'[i]? = σ[i]?)->Q σ' H
 |_=>False
structure DG (X:Cx)(G:Gm)(tg:Yv)(sg:U->Ev->R Ev):Prop where
 un:PG X tg (RE X.K G sg)
def RF (K:Wv)(G:Gm)(sg:List U->Ev->R Ev):He:=λvs σ H Q=>∃Z A ρ us,cE K G Z A ρ σ H/\aO K H A us vs/\match sg us ρ with
 | .ok ρ'=>∀σ',cE K G Z A ρ' σ' H->(∀i,G.is i=true->σ'[i]? = σ[i]?)->Q σ' H
 |_=>False
structure QG (X:Cx)(G:Gm)(tgs:List Yv)(sg:List U->Ev->R Ev):Prop where
 un:Jf X tgs (RF X.K G sg)
noncomputable def bD (i:Nat):U->Ev->R Ev:=λu ρ=>.ok (ρ.set i (some u))
noncomputable def cn:List U->Ev->R Ev:=λus ρ=>match us with
 | []=>.ok ρ
 |_=>.stk
noncomputable def aI (s:U->Ev->R Ev)(t:List U->Ev->R Ev):List U->Ev->R Ev:=λus ρ=>match us with
 |u::r=>(s u ρ).bind λρ1=>t r ρ1
 |_=>.stk
noncomputable def cq (n:Nat)(t:List U->Ev->R Ev):U->Ev->R Ev:=λu ρ=>match u with
 | .tup us=>if us.length=n then t us ρ else .stk
 |_=>.stk
theorem Jf.to {es:List Yv}{t t':He}(h:Jf X es t)(i:∀v σ H Q,t' v σ H Q->t v σ H Q):Jf X es t':=λpins s σ H v u Q I r q=>h pins s σ H v u Q I r (i _ _ _ _ q)
theorem aB (hN:X.N.Nodup)(hi:X.N[i]? = some x:=by rfl)(hx:G1 X.env.scope x:=by first|exact Or.inl rfl|exact Or.inr rfl)(c:G.is i=false:=by rfl)(hf:X.fn x=true\/X.env.scope.names.lookup x=some .local:=by first|exact .inl rfl|exact .inr rfl|assumption):DG X G (.Name x pos) (bD i):=⟨(Hg hN hi hx hf).to λv σ H Q ⟨Z,A,ρ,u,q,r,f⟩=>f _ (q.set c r) λj cj=>by
  have:i≠j:=λz=>by subst z;rw[c] at cj;cases cj
  rw[W_ this]⟩
theorem dB:QG X G [] cn:=⟨Hh.to λvs σ H Q h00=>by
 obtain⟨Z,A,ρ,us,q,r,f⟩:=h00;unfold cn at f;cases us with
 |nil=>unfold aO at r;exact⟨r,f σ q λ_ _=>rfl⟩
 |cons=>exact f.elim⟩
theorem aP {e:Yv}{es:List Yv}{s:U->Ev->R Ev}{t:List U->Ev->R Ev}(h1:DG X G e s)(h2:QG X G es t)
  (hs:(Zf (e::es) X.env).map (·.2)=assign e X.env::(Zf es X.env).map (·.2):=by rfl):QG X G (e::es) (aI s t):=⟨(DR h1.un h2.un hs).to λvs σ H Q h00=>by
 obtain⟨Z,A,ρ,us,q,r,f⟩:=h00;unfold aI at f;cases us with
 |nil=>exact f.elim
 |cons u us=>
  unfold aO at r;obtain⟨v,vr,rfl,r1,r2⟩:=r;dsimp only at f;refine⟨v,vr,rfl,Z,A,ρ,u,q,r1,?_⟩;cases e1:s u ρ with
  |ok ρ1=>
   rw[e1] at f;simp only[R.bind] at f;intro σ1 q1 o1;refine⟨Z,A,ρ1,us,q1,r2,?_⟩;cases e2:t us ρ1 with
   |ok ρ2=>rw[e2] at f;exact λσ2 q2 o2=>f σ2 q2 λi c=>(o2 i c).trans (o1 i c)
   |exc=>rw[e2] at f;exact f.elim
   |stk=>rw[e2] at f;exact f.elim
  |exc=>rw[e1] at f;exact f.elim
  |stk=>rw[e1] at f;exact f.elim⟩
theorem fi {es:List Yv}{t:List U->Ev->R Ev}(hc:X.calm=true)(h:QG X G es t)(hn:(Zf es X.env).length=n:=by rfl)(jl:(Zf es X.env).findIdx? (·.1)=none:=by rfl):DG X G (.Tuple es k pos) (cq n t):=⟨(K9 hc h.un hn jl).to λv σ H Q h00=>by
 obtain⟨Z,A,ρ,u,q,r,f⟩:=h00;unfold cq at f;cases u with
 |tup us=>
  unfold Rp at r;obtain⟨a,xs,rfl,sq,l,rs⟩:=r;dsimp only at f;by_cases hl:us.length=n
  ·rw[hV hl] at f;exact⟨a,xs,rfl,gK.of sq,by rw[←rs.length];exact hl,Z,A,ρ,us,q,rs,f⟩
  ·rw[hU hl] at f;exact f.elim
 |_=>exact f.elim⟩
def US (K:Wv)(Z:Pkg)(m:Md)(H:Hp)(u:U)(v:V):Prop:=match m with
 | .S=>Rp K H Z.A0 u v
 | .O=>∃a,v=.ref a/\Z.B a=none/\¬Z.A0 a/\kr K H (λb=>Z.A0 b\/b=a) u a
 | .P=>False
def rG (K:Wv)(G:Gm)(Z:Pkg)(m:Md):SR->l_->Prop
 | .nx ρ',D=>∀A' σ' H',cE K G Z A' ρ' σ' H'->D.nx σ' H'
 | .bk ρ',D=>∀A' σ' H',cE K G Z A' ρ' σ' H'->D.bk σ' H'
 | .ct ρ',D=>∀A' σ' H',cE K G Z A' ρ' σ' H'->D.ct σ' H'
 | .rt u ρ',D=>∀A' σ' H' v,cE K G Z A' ρ' σ' H'->US K Z m H' u v->D.rt v H'
 | .exc _ _,_=>∀H',(∀a o,Z.B a=some o->H' a=some o)->G.W H'
 | .stk,_=>False
def Nc (K:Wv)(G:Gm)(m:Md)(g:Ev->SR):TS:=λD σ H=>∃Z A ρ,cE K G Z A ρ σ H/\rG K G Z m (g ρ) D
structure DS (X:Cx)(G:Gm)(m:Md)(st:aak)(g:Ev->SR):Prop where
 un:PS X st (Nc X.K G m g)
structure zJ (X:Cx)(G:Gm)(m:Md)(st:List aak)(g:Ev->SR):Prop where
 un:ud X st (Nc X.K G m g)
noncomputable def bF:Ev->SR:=.nx
noncomputable def aK (g1 g2:Ev->SR):Ev->SR:=λρ=>match g1 ρ with
 | .nx ρ'=>g2 ρ'
 |r=>r
noncomputable def SR.of {α:Type}:R α->(α->SR)->SR
 | .ok a,f=>f a
 |_,_=>.stk
section
variable {m:Md}{α:Type}
theorem rG.of {x:R α}{k:α->SR}{D:l_}(f:rG K G Z m (SR.of x k) D):∃a,x=.ok a/\rG K G Z m (k a) D:=by
 cases x with
 |ok a=>exact⟨a,rfl,f⟩
 |exc=>exact f.elim
 |stk=>exact f.elim
end
section
variable {e a b:Yv}{Qp rest:List aak}{es:List Yv}{p1:Pos}{b1 b2 b3:Bool}{m m1 m2 m3 mr:Md}{g1 g2 g3:Ev->R (U×Ev)}{h1 h2:Ev->R (Bool×Ev)}{ga:Ev->R (List U×Ev)}{s1 s2:Ev->SR}
theorem bt:zJ X G m [] bF:=⟨AW.to λD σ H ⟨Z,A,ρ,q,f⟩=>f A σ H q⟩
theorem aw (h:DS X G m st s1):zJ X G m [st] s1:=⟨AX h.un⟩
theorem ao (ha:DS X G m st s1)(hb:zJ X G m rest s2):zJ X G m (st::rest) (aK s1 s2):=⟨(DQ ha.un hb.un).to λD σ H h00=>by
 obtain⟨Z,A,ρ,q,f⟩:=h00;refine⟨Z,A,ρ,q,?_⟩;unfold aK at f;cases e:s1 ρ with
 |nx ρ1=>rw[e] at f;exact λA1 σ1 H1 q1=>⟨Z,A1,ρ1,q1,f⟩
 |rt=>rw[e] at f;exact f
 |bk=>rw[e] at f;exact f
 |ct=>rw[e] at f;exact f
 |exc=>rw[e] at f;exact f
 |stk=>rw[e] at f;exact f⟩
noncomputable def LA:Ev->SR:=.bk
noncomputable def N9:Ev->SR:=.ct
noncomputable def lU (g:Ev->R (U×Ev)):Ev->SR:=λρ=>SR.of (g ρ) λx=>.nx x.2
theorem k_ (h:DE X G e b1 m1 g1)(hs:aaP e none pos.line X.env=pure false:=by rfl):DS X G m (.Expr e pos) (lU g1):=⟨(AY h.un hs).to λD σ H h00=>by
 obtain⟨Z,A,ρ,q,f⟩:=h00;obtain⟨⟨u,ρ1⟩,e1,f⟩:=f.of;refine⟨Z,A,ρ,q,?_⟩;rw[e1];exact λv H1 q1 _ _ _=>f A σ H1 q1⟩
noncomputable def bg (g:Ev->R (U×Ev)):Ev->SR:=λρ=>SR.of (g ρ) λx=>.rt x.1 x.2
theorem aW (h:DE X G e b1 m1 g1)(hn:m1≠.P:=by decide):DS X G .S (.Return (some e) pos) (bg g1):=⟨(zj h.un).to λD σ H h00=>by
 obtain⟨Z,A,ρ,q,f⟩:=h00;obtain⟨⟨u,ρ1⟩,e1,f⟩:=f.of;refine⟨Z,A,ρ,q,?_⟩;rw[e1];exact λv H1 q1 _ _ vm=>f A σ H1 v q1 ((vm.rp hn).mono q1.sup)⟩
theorem vW (h:DE X G e b1 .O g1):DS X G .O (.Return (some e) pos) (bg g1):=⟨(zj h.un).to λD σ H h00=>by
 obtain⟨Z,A,ρ,q,f⟩:=h00;obtain⟨⟨u,ρ1⟩,e1,f⟩:=f.of;refine⟨Z,A,ρ,q,?_⟩;rw[e1];intro v H1 q1 _ _ vm;obtain⟨a,rfl,na,nb,_,t⟩:=vm;exact f A σ H1 _ q1 ⟨a,rfl,nb,λz=>na (q1.sup a z),t.mono λb z=>z.imp (q1.sup b) id⟩⟩
theorem A_ (hm:m≠.P:=by decide)(hi:G.io=true->i≠0)(hN:X.N[i]? = some x:=by rfl)(hv:Ha X.env.scope x:=by first|exact Or.inl rfl|exact Or.inr (Or.inl rfl)|exact Or.inr (Or.inr rfl))(hd:(x==("__debug__":Str))=false:=by decide)(tW:(x==("__classdict__":Str))=false:=by decide)(c:G.is i=true:=by rfl):DS X G m (.Return (some (.Name x p1)) pos) (bg (ag i)):=⟨(zj (ma hN hv hd tW)).to λD σ H h00=>by
 obtain⟨Z,A,ρ,q,f⟩:=h00;obtain⟨⟨u,ρ1⟩,e1,f⟩:=f.of;unfold ag at e1;split at e1
 ·rename_i u' hu;cases e1;obtain⟨a,h1,h2,h3,h4,h5⟩:=q.own c hu;have na:¬Z.A0 a:=by
   rcases h4 with h4|⟨h4,h6⟩
   ·exact h4
   ·exact absurd h6 (hi h4)
  refine⟨.ref a,h1,f A σ H _ q ?_⟩;cases m with
  |S=>exact h5.rp q.sup na
  |O=>exact⟨a,rfl,h3,na,h5.mono λb z=>by
    rcases z with z|z
    ·exact q.sup b z
    ·subst z;exact h2⟩
  |P=>exact absurd rfl hm
 ·cases e1⟩
noncomputable def a8 (i:Nat)(g:Ev->R (U×Ev)):Ev->SR:=λρ=>SR.of (g ρ) λx=>.nx (x.2.set i (some x.1))
theorem xK (c:G.is i=false)(hn:m1≠.P)(hi:∀σ H Q,tD X.K G b1 m1 g1 σ H Q->te σ H Q){D:l_}(h:Nc X.K G m (a8 i g1) D σ H):DU te (xt i) D σ H:=by
 obtain⟨Z,A,ρ,q,f⟩:=h;obtain⟨⟨u,ρ1⟩,e1,f⟩:=f.of;refine hi _ _ _ ⟨Z,A,ρ,q,?_⟩;rw[e1];exact λv H1 q1 _ _ vm=>f A _ H1 (q1.set c (vm.rp hn))
theorem uT (c:G.is i=true)(h0:G.io=true->i≠0)(hi:∀σ H Q,tD X.K G b1 .O g1 σ H Q->te σ H Q){D:l_}(h:Nc X.K G m (a8 i g1) D σ H):DU te (xt i) D σ H:=by
 obtain⟨Z,A,ρ,q,f⟩:=h;obtain⟨⟨u,ρ1⟩,e1,f⟩:=f.of;refine hi _ _ _ ⟨Z,A,ρ,q,?_⟩;rw[e1];intro v H1 q1 _ _ vm;obtain⟨a,rfl,na,nb,r,t⟩:=vm;exact f _ _ H1 (q1.setO c h0 na nb r t)
theorem bq (hN:X.N.Nodup)(h:DE X G e b1 m1 g1)(hi:X.N[i]? = some x:=by rfl)(hx:G1 X.env.scope x:=by first|exact Or.inl rfl|exact Or.inr rfl)(c:G.is i=false:=by rfl)(hn:m1≠.P:=by decide)(hs:aaP e (some (.Name x p1)) pos.line X.env=pure false:=by rfl)(hf:X.fn x=true\/X.env.scope.names.lookup x=some .local:=by first|exact .inl rfl|exact .inr rfl|assumption):DS X G m (.Assign [.Name x p1] e pos) (a8 i g1):=⟨(DX hN hi hx h.un hs hf).to λ_ _ _=>xK c hn λ_ _ _ h=>h⟩
theorem fH (hN:X.N.Nodup)(h:DE X G e b1 .O g1)(h0:G.io=true->i≠0:=by decide)(hi:X.N[i]? = some x:=by rfl)(hx:G1 X.env.scope x:=by first|exact Or.inl rfl|exact Or.inr rfl)(c:G.is i=true:=by rfl)(hs:aaP e (some (.Name x p1)) pos.line X.env=pure false:=by rfl)(hf:X.fn x=true\/X.env.scope.names.lookup x=some .local:=by first|exact .inl rfl|exact .inr rfl|assumption):DS X G m (.Assign [.Name x p1] e pos) (a8 i g1):=⟨(DX hN hi hx h.un hs hf).to λ_ _ _=>uT c h0 λ_ _ _ h=>h⟩
noncomputable def N_ (i j:Nat):Ev->SR:=λρ=>match ρ[j]? with
 |some (some u)=>.nx ((ρ.set j none).set i (some u))
 |_=>.stk
noncomputable def xM (sg:U->Ev->R Ev)(g:Ev->R (U×Ev)):Ev->SR:=λρ=>SR.of (g ρ) λx=>SR.of (sg x.1 x.2) .nx
theorem EJ (h:DE X G e b1 m1 g1)(hg:DG X G tg sg)(hn:m1≠.P:=by decide)(hs:aaY [tg] e pos.line X.env=pure false:=by rfl)(hw:aaZ [tg] e X.env=pure none:=by rfl)(h1:(Zf [tg] X.env).map (·.2)=[assign tg X.env]:=by rfl):DS X G m (.Assign [tg] e pos) (xM sg g1):=⟨(DV h.un hg.un hs hw h1).to λD σ H h00=>by
 obtain⟨Z,A,ρ,q,f⟩:=h00;obtain⟨⟨u,ρ1⟩,e1,f⟩:=f.of;obtain⟨ρ2,e2,f⟩:=f.of;refine⟨Z,A,ρ,q,?_⟩;rw[e1];intro v H1 q1 _ _ vm;refine⟨Z,A,ρ1,u,q1,vm.rp hn,?_⟩;dsimp only at e2;rw[e2];exact λσ' q' _=>f A σ' H1 q'⟩
noncomputable def LB (i j:Nat)(ga:Ev->R (List U×Ev)):Ev->SR:=λρ=>SR.of (ga ρ) λx=>match x.1 with
 | [u,w]=>.nx ((x.2.set i (some u)).set j (some w))
 |_=>.stk
theorem LC {y:Str}{a b:Yv}{px py pt:Pos}{kt k2 pt2}(hc:X.calm=true)(hN:X.N.Nodup)(ha:DA X G [a,b] b1 false ga)(hi:X.N[i]? = some x:=by rfl)(hj:X.N[j]? = some y:=by rfl)(uE:i≠j:=by decide)(hx:X.env.scope.names.lookup x=some .local:=by rfl)(hy:X.env.scope.names.lookup y=some .local:=by rfl)(ci:G.is i=false:=by rfl)(cj:G.is j=false:=by rfl)(hw:aaZ [.Tuple [.Name x px,.Name y py] kt pt] (.Tuple [a,b] k2 pt2) X.env=pure (some [x,y]):=by rfl)(hs:aaY [.Tuple [.Name x px,.Name y py] kt pt] (.Tuple [a,b] k2 pt2) pos.line X.env=pure false:=by rfl) :
  DS X G m (.Assign [.Tuple [.Name x px,.Name y py] kt pt] (.Tuple [a,b] k2 pt2) pos) (LB i j ga):=⟨(La hc hN hi hj uE hx hy ha.un hw hs).to λD σ H h00=>by
 obtain⟨Z,A,ρ,q,f⟩:=h00;obtain⟨⟨us,ρ1⟩,e1,f⟩:=f.of;refine⟨Z,A,ρ,q,?_⟩;rw[e1];intro vs H1 q1 _ _ vm;dsimp only at f;split at f
 ·rename_i u w;have r:=vm.rps;unfold aO at r;obtain⟨v,vr,rfl,r1,r2⟩:=r;unfold aO at r2;obtain⟨v2,vr2,rfl,r3,r4⟩:=r2;unfold aO at r4;subst r4;exact⟨v,v2,rfl,f A _ H1 ((q1.set ci r1).set cj r3)⟩
 ·exact f.elim⟩
noncomputable def ku (h:Ev->R (Bool×Ev))(s1 s2:Ev->SR):Ev->SR:=λρ=>SR.of (h ρ) λx=>if x.1=true then s1 x.2 else s2 x.2
theorem dk {a b:List aak}(hc:DT X G c b1 h1)(ha:zJ X G m a s1)(hb:zJ X G m b s2):DS X G m (.If c a b pos) (ku h1 s1 s2):=⟨(Je hc.un ha.un hb.un).to λD σ H h00=>by
 obtain⟨Z,A,ρ,q,f⟩:=h00;obtain⟨⟨k,ρ1⟩,e1,f⟩:=f.of;refine⟨Z,A,ρ,q,?_⟩;rw[e1];intro H1 q1 _ _;cases k with
 |true=>rw[hV rfl] at f ⊢;exact⟨Z,A,ρ1,q1,f⟩
 |false=>rw[hU WA] at f ⊢;exact⟨Z,A,ρ1,q1,f⟩⟩
noncomputable def mf (h:Ev->R (Bool×Ev))(s:Ev->SR):Nat->Ev->SR
 |0,_=>.stk
 |n+1,ρ=>SR.of (h ρ) λx=>if x.1=true then match s x.2 with
   | .nx ρ2=>mf h s n ρ2
   | .ct ρ2=>mf h s n ρ2
   | .bk ρ2=>.nx ρ2
   |r=>r
  else .nx x.2
theorem EK (hp:abX (W7 X.prog X.w) X.A X.env X.xe)(hc:DT X G c b1 h1)(hb:zJ X G m body s1):DS X G m (.While c body [] pos) (mf h1 s1 n):=⟨(DY hp hc.un hb.un).to λD σ H h00=>by
 obtain⟨Z,A,ρ,q,f⟩:=h00;refine⟨λk σ H=>∃A ρ,cE X.K G Z A ρ σ H/\rG X.K G Z m (mf h1 s1 k ρ) D,⟨n,A,ρ,q,f⟩,?_⟩;rintro k σ H ⟨A,ρ,q,f⟩;cases k with
 |zero=>exact f.elim
 |succ k=>
  unfold mf at f;obtain⟨⟨t,ρ1⟩,e1,f⟩:=f.of;refine⟨Z,A,ρ,q,?_⟩;rw[e1];intro H1 q1 _ _;cases t with
  |false=>rw[hU WA] at f ⊢;exact f A σ H1 q1
  |true=>
   rw[hV rfl] at f ⊢;refine⟨λσ H=>∃A ρ,cE X.K G Z A ρ σ H/\rG X.K G Z m (mf h1 s1 k ρ) D,λσ' H' z=>⟨k,aaT k,z⟩,Z,A,ρ1,q1,?_⟩;dsimp only at f;cases e2:s1 ρ1 with
   |nx ρ2=>rw[e2] at f;exact λA2 σ2 H2 q2=>⟨A2,ρ2,q2,f⟩
   |ct ρ2=>rw[e2] at f;exact λA2 σ2 H2 q2=>⟨A2,ρ2,q2,f⟩
   |bk ρ2=>rw[e2] at f;exact f
   |rt=>rw[e2] at f;exact f
   |exc=>rw[e2] at f;exact f
   |stk=>rw[e2] at f;exact f⟩
end
end L2
namespace L2
def Wk (K:Wv)(p:Bool)(A:WT->Prop)(us:List U)(J:It)(H1:Hp):Prop:=us.length<=WE/\
 ∀H A',(if p=true then aY H1 H else fh A H1 H)->(∀b,A' b->A b\/H1 b=none)->(∀(i:Nat) (u:U),us[i]? = some u->J.go i H/\∀x H',J.yld i H x H'->aY H H'/\Rp K H' A' u x)/\J.stop us.length H
def RG (K:Wv)(G:Gm)(b p:Bool)(gi:Ev->R (List U×Ev)):TI:=λσ H R=>∃Z A ρ,cE K G Z A ρ σ H/\match gi ρ with
 | .ok (us,ρ')=>∀J H1,cE K G Z A ρ' σ H1->fh A H H1->(b=false->ρ'=ρ/\aY H H1)->Wk K p A us J H1->R J H1
 |_=>False
structure DI (X:Cx)(G:Gm)(tg iter:Yv)(b p:Bool)(gi:Ev->R (List U×Ev)):Prop where
 un:PI X tg iter (RG X.K G b p gi)
section
variable {e a b:Yv}{es:List Yv}{p1:Pos}{b1 b2 b3:Bool}{m m1 m2 m3 mr:Md}{g1 g2 g3:Ev->R (U×Ev)}{h1 h2:Ev->R (Bool×Ev)}{ga:Ev->R (List U×Ev)}{s1 s2:Ev->SR}
theorem PI.to {t t':TI}(h:PI X tg e t)(i:∀σ H Q,t' σ H Q->t σ H Q):PI X tg e t':=λpins s σ H Q I q=>h pins s σ H Q I (i _ _ _ q)
theorem PI.or {t t':TI}(h:PI X tg e t)(h':PI X tg e t'):PI X tg e (λσ H R=>t σ H R\/t' σ H R):=λpins s σ H Q I q=>by
 rcases q with q|q
 ·exact h pins s σ H Q I q
 ·exact h' pins s σ H Q I q
noncomputable def Oa:Md->Bool
 | .P=>true
 |_=>false
noncomputable def bW (g:Ev->R (U×Ev)):Ev->R (List U×Ev):=λρ=>(g ρ).bind λx=>match x.1 with
 | .lst us=>.ok (us,x.2)
 | .tup us=>.ok (us,x.2)
 | .scr us=>.ok (us,x.2)
 |_=>.stk
theorem HN (q:cE K G Z A ρ σ H1)(h:zf K G Z m1 A ρ σ H1 (.lst us) v):∃a,v=.ref a/\(∃xs,f7 K H1 a xs)/\Wk K (Oa m1) A us (QC K a) H1:=by
 have hp:=h.pk;unfold Pk at hp;obtain⟨a,xs,rfl,rd,l,rs⟩:=hp;refine⟨a,rfl,⟨xs,f7.of rd⟩,l,λH A' hs ha=>?_⟩;have st:H a=some (.lst xs)/\∀(i:Nat) (u:U),us[i]? = some u->∃x,xs[i]? = some x/\Rp K H A' u x:=by
  cases hm:Oa m1 with
  |true=>
   rw[hm,hV rfl] at hs;refine⟨hs a _ rd,λi u hu=>?_⟩;obtain⟨x,h1,h2⟩:=rs.get hu;exact⟨x,h1,h2.re q.mu (fh.same hs) ha⟩
  |false=>
   rw[hm,hU WA] at hs;have hn:m1≠.P:=λz=>by subst z;cases hm
   have hr:=h.rp hn;unfold Rp at hr;obtain⟨a',xs',e,na,rd',_,rs'⟩:=hr;cases e;refine⟨hs a _ na rd,λi u hu=>?_⟩;obtain⟨x,h1,h2⟩:=rs.get hu;exact⟨x,h1,h2.re q.mu hs ha⟩
 obtain⟨rd2,get⟩:=st;refine⟨λi u hu=>?_,⟨xs,f7.of rd2,by rw[←rs.length];exact WI _⟩⟩;obtain⟨x,h1,h2⟩:=get i u hu;refine⟨⟨xs,x,f7.of rd2,h1⟩,λy H' yl=>?_⟩;obtain⟨e,yl⟩:=yl;have e2:=yl xs (f7.of rd2);rw[h1] at e2;cases e2;subst e;exact⟨aY.refl _,h2⟩
theorem LD {p:Bool}(q:cE K G Z A ρ σ H1)(h:Pk K H1 A (.tup us) v):∃a,v=.ref a/\(∃xs,gK K H1 a xs)/\Wk K p A us (Ri K a) H1:=by
 unfold Pk at h;obtain⟨a,xs,rfl,sq,l,rs⟩:=h;refine⟨a,rfl,⟨xs,gK.of sq⟩,l,λH A' hs ha=>?_⟩;have ex:fh A H1 H:=by
  cases p with
  |true=>rw[hV rfl] at hs;exact fh.same hs
  |false=>rw[hU WA] at hs;exact hs
 have MZ:gK K H a xs:=gK.of (ex a _ (λz=>by have:=q.mu a z;rw[sq] at this;exact this) sq);refine⟨λi u hu=>?_,⟨xs,MZ,by rw[←rs.length];exact WI _⟩⟩;obtain⟨x,h1,h2⟩:=rs.get hu;refine⟨⟨xs,x,MZ,h1⟩,λy H' yl=>?_⟩;obtain⟨e,yl⟩:=yl;have e2:=yl xs MZ;rw[h1] at e2;cases e2;subst e;exact⟨aY.refl _,h2.re q.mu ex ha⟩
theorem LF {p:Bool}(q:cE K G Z A ρ σ H1)(h:Pk K H1 A (.scr us) v):∃a,v=.ref a/\(∃xs,f7 K H1 a xs)/\Wk K p A us (QC K a) H1:=by
 unfold Pk at h;obtain⟨a,xs,rfl,sq,l,rs⟩:=h;refine⟨a,rfl,⟨xs,sq.sq⟩,l,λH A' hs ha=>?_⟩;have ex:fh A H1 H:=by
  cases p with
  |true=>rw[hV rfl] at hs;exact fh.same hs
  |false=>rw[hU WA] at hs;exact hs
 have MZ:f7 K H a xs:=(sq.to λo y w=>ex a _ (λz=>by have:=q.mu a z;rw[w] at this;exact this) w).sq;refine⟨λi u hu=>?_,⟨xs,MZ,by rw[←rs.length];exact WI _⟩⟩;obtain⟨x,h1,h2⟩:=rs.get hu;refine⟨⟨xs,x,MZ,h1⟩,λy H' yl=>?_⟩;obtain⟨e,yl⟩:=yl;have e2:=yl xs MZ;rw[h1] at e2;cases e2;subst e;exact⟨aY.refl _,h2.re q.mu ex ha⟩
theorem bh (h:DE X G e b1 m1 g1):DI X G tg e b1 (Oa m1) (bW g1):=⟨((Hi h.un).or (Lc h.un)).to λσ H RR h00=>by
 obtain⟨Z,A,ρ,q,f⟩:=h00;unfold bW at f;cases e1:g1 ρ with
 |stk=>rw[e1] at f;exact f.elim
 |exc=>rw[e1] at f;exact f.elim
 |ok y=>
  obtain⟨u,ρ1⟩:=y;rw[e1] at f;cases u with
  |lst us=>
   refine .inl ⟨Z,A,ρ,q,?_⟩;rw[e1];intro v H1 q1 x1 s1 vm;obtain⟨a,e,l,wk⟩:=HN q1 vm;exact⟨a,e,l,f _ H1 q1 x1 s1 wk⟩
  |tup us=>
   refine .inr ⟨Z,A,ρ,q,?_⟩;rw[e1];intro v H1 q1 x1 s1 vm;obtain⟨a,e,l,wk⟩:=LD (p:=Oa m1) q1 vm.pk;exact⟨a,e,l,f _ H1 q1 x1 s1 wk⟩
  |scr us=>
   refine .inl ⟨Z,A,ρ,q,?_⟩;rw[e1];intro v H1 q1 x1 s1 vm;obtain⟨a,e,l,wk⟩:=LF (p:=Oa m1) q1 vm.pk;exact⟨a,e,l,f _ H1 q1 x1 s1 wk⟩
  |_=>exact f.elim⟩
noncomputable def cu (lo:Int)(n:Nat):List U:=(Wu n).map λi=>.int (lo+(i:Nat))
theorem EL {lo:Int}{p:Bool}(h:n<=WE):Wk K p A (cu lo n) (QD lo n) H1:=by
 have hl:(cu lo n).length=n:=by unfold cu;rw[WC,X6]
 refine⟨by rw[hl];exact h,λH A' _ _=>⟨λi u hu=>?_,by rw[hl];exact WI _⟩⟩;unfold cu at hu;rw[Xc] at hu;cases e:(Wu n)[i]? with
 |none=>rw[e] at hu;cases hu
 |some j=>
  rw[e] at hu;obtain⟨l1,l2⟩:=WH.mp e;rw[X6] at l1;rw[List.getElem_range] at l2;subst l2;cases hu;refine⟨l1,λx H' y=>?_⟩;obtain⟨rfl,rfl⟩:=y;exact⟨aY.refl _,eR⟩
noncomputable def lV (ga:Ev->R (List U×Ev)):Ev->R (List U×Ev):=λρ=>(ga ρ).bind λx=>match x.1 with
 | [.int j]=>if -1000000<=j/\j<=1000000 then .ok (cu 0 j.toNat,x.2) else .stk
 |_=>.stk
theorem iD {a:Yv}(ha:DA X G [a] b1 false ga)(hm:X.mg "range"=none)(hg:Gl X "range":=by rfl)(hs:WY [a] X.env=[(false,Z0 a X.env)]:=by rfl):DI X G tg (.Call (.Name "range" p1) [a] [] pos) b1 false (lV ga):=⟨(Cs hg hm ha.un hs).to λσ H RR h00=>by
 obtain⟨Z,A,ρ,q,f⟩:=h00;unfold lV at f;cases e1:ga ρ with
 |stk=>rw[e1] at f;exact f.elim
 |exc=>rw[e1] at f;exact f.elim
 |ok y=>
  obtain⟨us,ρ1⟩:=y;rw[e1] at f;dsimp only[L2.R.bind] at f;refine⟨Z,A,ρ,q,?_⟩;rw[e1];intro vs H1 q1 x1 s1 vm;split at f
  ·rename_i Vn ρ' e2;split at e2
   ·rename_i j;split at e2
    ·rename_i hl;cases e2;have r:=vm.rps;unfold aO at r;obtain⟨v,vr,rfl,r1,r2⟩:=r;unfold aO at r2;subst r2;unfold Rp at r1;subst r1;exact⟨j,rfl,by lia,by lia,f _ H1 q1 x1 s1 (EL (by have:WE=16777216:=rfl;lia))⟩
    ·cases e2
   ·cases e2
  ·exact f.elim⟩
noncomputable def gb (sg:U->Ev->R Ev)(s:Ev->SR):List U->Ev->SR
 | [],ρ=>.nx ρ
 |u::us,ρ=>SR.of (sg u ρ) λρ1=>match s ρ1 with
   | .nx ρ2=>gb sg s us ρ2
   | .ct ρ2=>gb sg s us ρ2
   | .bk ρ2=>.nx ρ2
   |r=>r
noncomputable def g_ (gi:Ev->R (List U×Ev))(sg:U->Ev->R Ev)(s:Ev->SR):Ev->SR:=λρ=>SR.of (gi ρ) λx=>gb sg s x.1 x.2
open Classical in
noncomputable def Pkg.lp (Z:Pkg)(A:WT->Prop)(H:Hp):Pkg:={Z with B:=λb=>if A b/\Z.B b=none then none else H b}
theorem lh {b:WT}(h1:A b)(h2:Z.B b=none):(Z.lp A H).B b=none:=by
 unfold Pkg.lp;dsimp only;exact hV ⟨h1,h2⟩
theorem jc {b:WT}(h:¬(A b/\Z.B b=none)):(Z.lp A H).B b=H b:=by
 unfold Pkg.lp;dsimp only;exact hU h
theorem rH {b:WT}(h:(Z.lp A H).B b=none):(A b/\Z.B b=none)\/H b=none:=by
 by_cases c:A b/\Z.B b=none
 ·exact .inl c
 ·rw[jc c] at h;exact .inr h
theorem cE.lp (q:cE K G Z A ρ σ H):cE K G (Z.lp A H) A ρ σ H where
 slot:=λi u h=>by
  obtain⟨v,h1,h2⟩:=q.slot i u h;refine⟨v,h1,?_⟩;by_cases c:G.is i=true
  ·rw[hV c] at h2 ⊢;obtain⟨a,e1,e2,e3,e4,e5⟩:=h2;exact⟨a,e1,e2,lh e2 e3,e4,e5⟩
  ·rw[hU c] at h2 ⊢;exact h2
 dis:=q.dis
 mu:=q.mu
 sup:=q.sup
 out:=λa h=>(q.out a h).imp id λz=>lh h z
 bas:=λa o h=>by
  by_cases c:A a/\Z.B a=none
  ·rw[lh c.1 c.2] at h;cases h
  ·rw[jc c] at h;exact h
 io0:=q.io0
 len:=q.len
theorem cE.unlp {A':WT->Prop}{ρ':Ev}{σ':St}(q:cE K G Z A ρ σ H)(q':cE K G (Z.lp A H) A' ρ' σ' H'):cE K G Z A' ρ' σ' H':=by
 have sub:∀a,(Z.lp A H).B a=none->Z.B a=none:=λa h=>by
  rcases rH h with z|h
  ·exact z.2
  ·cases e:Z.B a with
   |none=>rfl
   |some o=>rw[q.bas a o e] at h;cases h
 exact {
  slot:=λi u h=>by
   obtain⟨v,h1,h2⟩:=q'.slot i u h;refine⟨v,h1,?_⟩;by_cases c:G.is i=true
   ·rw[hV c] at h2 ⊢;obtain⟨a,e1,e2,e3,e4,e5⟩:=h2;exact⟨a,e1,e2,sub a e3,e4,e5⟩
   ·rw[hU c] at h2 ⊢;exact h2
  dis:=q'.dis
  mu:=q'.mu
  sup:=q'.sup
  out:=λa h=>(q'.out a h).imp id (sub a)
  bas:=λa o h=>q'.bas a o (by
   rw[jc (λz=>by rw[h] at z;exact nomatch z.2)];exact q.bas a o h)
  io0:=q'.io0
  len:=q'.len}
theorem rG.lp {r:SR}{D:l_}(q:cE K G Z A ρ σ H)(f:rG K G Z m r D):rG K G (Z.lp A H) m r D:=by
 cases r with
 |nx=>exact λA' σ' H' q'=>f A' σ' H' (q.unlp q')
 |bk=>exact λA' σ' H' q'=>f A' σ' H' (q.unlp q')
 |ct=>exact λA' σ' H' q'=>f A' σ' H' (q.unlp q')
 |rt u ρ'=>
  intro A' σ' H' v q' vm;refine f A' σ' H' v (q.unlp q') ?_;cases m with
  |S=>exact vm
  |P=>exact vm
  |O=>
   obtain⟨a,e,nb,na,t⟩:=vm;refine⟨a,e,?_,na,t⟩;rcases rH nb with z|h
   ·exact z.2
   ·cases e:Z.B a with
    |none=>rfl
    |some o=>rw[q.bas a o e] at h;cases h
 |exc=>exact λH' hb=>f H' λa o h=>hb a o (by
   rw[jc (λz=>by rw[h] at z;exact nomatch z.2)];exact q.bas a o h)
 |stk=>exact f.elim
theorem fI {gi:Ev->R (List U×Ev)}(hp:abX (W7 X.prog X.w) X.A X.env X.xe)(hc:X.calm=true)(hi:DI X G tg iter b1 false gi)(hg:DG X G tg sg)(hb:zJ X G m body s1)(hs:∀x,X5 iter X.env x=pure x:=by intro _;rfl):DS X G m (.For tg iter body [] pos) (g_ gi sg s1):=⟨(A7 hp hc hi.un hg.un hb.un hs).to λD σ H h00=>by
 obtain⟨Z,A,ρ,q,f⟩:=h00;obtain⟨⟨us,ρ1⟩,e1,f⟩:=f.of;refine⟨Z,A,ρ,q,?_⟩;rw[e1];intro J H1 q1 x1 za wk;dsimp only at f;obtain⟨hz,wk⟩:=wk;refine⟨λi k σ H=>i+k=us.length/\∃A' ρ',cE X.K G (Z.lp A H1) A' ρ' σ H/\rG X.K G (Z.lp A H1) m (gb sg s1 (us.drop i) ρ') D,⟨us.length,by lia,A,ρ1,q1.lp,by rw[aaO];exact f.lp q1⟩,?_⟩;rintro i k σ H ⟨hk,A',ρ',q',f'⟩;have ex:fh A H1 H:=λb o nb z=>q'.bas b o (by
  rw[jc (λy=>nb y.1)];exact z)
 have nw:∀b,A' b->A b\/H1 b=none:=λb z=>by
  rcases q'.out b z with y|y
  ·exact .inl (q1.sup b y)
  ·rcases rH y with w|h
   ·exact .inl w.1
   ·exact .inr h
 obtain⟨w1,w2⟩:=wk H A' (by rw[hU WA];exact ex) nw;by_cases zi:i<us.length
 ·have eu:us[i]? = some us[i]:=Wr zi;obtain⟨go,yl⟩:=w1 i _ eu;rw[XS zi] at f';unfold gb at f';obtain⟨ρ2,e2,f2⟩:=f'.of;refine .inr ⟨go,λσ H=>∃A' ρ',cE X.K G (Z.lp A H1) A' ρ' σ H/\rG X.K G (Z.lp A H1) m (gb sg s1 (us.drop (i+1)) ρ') D,λσ' H' z=>⟨k-1,by lia,by lia,z⟩,λx H' y=>?_⟩;obtain⟨sm,rp⟩:=yl x H' y;refine⟨Z.lp A H1,A',ρ',us[i],q'.same sm,rp,?_⟩;rw[e2];intro σ2 q2 _;refine⟨Z.lp A H1,A',ρ2,q2,?_⟩;cases e3:s1 ρ2 with
  |nx ρ3=>rw[e3] at f2;exact λA3 σ3 H3 q3=>⟨A3,ρ3,q3,f2⟩
  |ct ρ3=>rw[e3] at f2;exact λA3 σ3 H3 q3=>⟨A3,ρ3,q3,f2⟩
  |bk ρ3=>rw[e3] at f2;exact f2
  |rt=>rw[e3] at f2;exact f2
  |exc=>rw[e3] at f2;exact f2
  |stk=>rw[e3] at f2;exact f2
 ·have e:i=us.length:=by lia
  subst e;rw[Z7] at f';exact .inl ⟨w2,f' A' σ H q'⟩⟩
end
end L2
namespace L2
noncomputable def jS (js:List (Option Nat))(ρ:Ev):Ev:=js.map λo=>match o with
 |none=>none
 |some j=>match ρ[j]? with
  |some v=>v
  |none=>none
noncomputable def qa (G:Gm)(js:List (Option Nat)):Gm:=⟨js.map λo=>match o with
 |none=>false
 |some j=>G.is j,false,λ_=>False⟩
noncomputable def mS:List (Option Nat)->Bool
 | []=>true
 |none::r=>mS r
 |some j::r=> !(r.contains (some j))&&mS r
theorem rJ:∀{js:List (Option Nat)} {i k j:Nat},mS js=true->js[i]? = some (some j)->js[k]? = some (some j)->i=k
 | [],_,_,_,_,h,_=>by simp at h
 |none::r,i,k,j,ok,h1,h2=>by
  unfold mS at ok;cases i with
  |zero=>simp at h1
  |succ i=>
   cases k with
   |zero=>simp at h2
   |succ k=>exact congrArg (·+1) (rJ (j:=j) ok (by simpa using h1) (by simpa using h2))
 |some j'::r,i,k,j,ok,h1,h2=>by
  unfold mS at ok;rw[WX] at ok;have nm:∀n:Nat,r[n]? ≠ some (some j'):=λn h=>by
   have:=Xw h;simp at ok;exact ok.1 this
  cases i with
  |zero=>
   cases k with
   |zero=>rfl
   |succ k=>simp at h1 h2;subst h1;exact absurd h2 (nm k)
  |succ i=>
   cases k with
   |zero=>simp at h1 h2;subst h2;exact absurd h1 (nm i)
   |succ k=>exact congrArg (·+1) (rJ (j:=j) ok.2 (by simpa using h1) (by simpa using h2))
theorem mT (h:(jS js ρ)[i]? = some (some u)):∃j,js[i]? = some (some j)/\ρ[j]? = some (some u):=by
 unfold jS at h;rw[Xc] at h;cases e:js[i]? with
 |none=>rw[e] at h;cases h
 |some o=>
  rw[e] at h;cases o with
  |none=>cases h
  |some j=>
   refine⟨j,rfl,?_⟩;have h:=W0 h;dsimp only at h;split at h
   ·rename_i v hv;rw[hv,h]
   ·cases h
theorem mU (h:js[i]? = some (some j))(hv:σ[j]? = some (some v)):(uP js σ)[i]? = some (some v):=by
 unfold uP;rw[Xc,h];dsimp only[Option.map];rw[hv]
theorem rK (h:js[i]? = some (some j)):(qa G js).is i=G.is j:=by
 unfold qa Gm.is;dsimp only;rw[aas,Xc,h];rfl
theorem Ba (js:List (Option Nat))(ρ:Ev)(σ:St):(jS js ρ).length=(uP js σ).length:=by
 unfold jS uP;rw[WC,WC]
section
variable {ρi:Ev}
theorem Bb (q:cE K G Z A ρ σ H)(ok:mS js=true):cE K (qa G js) ⟨λ_=>False,λ_=>none,0⟩ A (jS js ρ) (uP js σ) H where
 slot:=λi u h=>by
  obtain⟨j,h1,h2⟩:=mT h;obtain⟨v,h3,h4⟩:=q.slot j u h2;refine⟨v,mU h1 h3,?_⟩;rw[rK h1];by_cases c:G.is j=true
  ·rw[hV c] at h4 ⊢;obtain⟨a,e1,e2,_,_,e5⟩:=h4;exact⟨a,e1,e2,rfl,.inl id,e5⟩
  ·rw[hU c] at h4 ⊢;exact h4
 dis:=λi k u w a ci ck ne hi hk si sk=>by
  obtain⟨j,h1,h2⟩:=mT hi;obtain⟨j',Qm,KG⟩:=mT hk;rw[rK h1] at ci;rw[rK Qm] at ck;obtain⟨b,e1,_⟩:=q.own ci h2;obtain⟨b',zc,_⟩:=q.own ck KG;rw[mU h1 e1] at si;rw[mU Qm zc] at sk;cases si;cases sk;exact q.dis j j' u w a ci ck (λz=>ne (by subst z;exact rJ ok h1 Qm)) h2 KG e1 zc
 mu:=q.mu
 sup:=λ_ h=>h.elim
 out:=λ_ _=>.inr rfl
 bas:=λ_ _ h=>by cases h
 io0:=λh=>by cases h
 len:=Ba js ρ σ
def HP (G:Gm)(js:List (Option Nat))(ρ:Ev)(σ:St)(a:WT):Prop:=∃(i j:Nat) (u:U),js[i]? = some (some j)/\G.is j=true/\ρ[j]? = some (some u)/\σ[j]? = some (some (.ref a))
open Classical in
noncomputable def LG (G:Gm)(js:List (Option Nat))(A:WT->Prop)(ρ:Ev)(σ:St)(H:Hp):Pkg:=⟨λa=>A a/\¬HP G js ρ σ a,λa=>if HP G js ρ σ a then none else H a,0⟩
theorem rL (h:HP G js ρ σ a):(LG G js A ρ σ H).B a=none:=by
 unfold LG;dsimp only;exact hV h
theorem mV (h:¬HP G js ρ σ a):(LG G js A ρ σ H).B a=H a:=by
 unfold LG;dsimp only;exact hU h
theorem LH (q:cE K G Z A ρ σ H)(ok:mS js=true):cE K (qa G js) (LG G js A ρ σ H) A (jS js ρ) (uP js σ) H where
 slot:=λi u h=>by
  obtain⟨j,h1,h2⟩:=mT h;obtain⟨v,h3,h4⟩:=q.slot j u h2;refine⟨v,mU h1 h3,?_⟩;rw[rK h1];by_cases c:G.is j=true
  ·rw[hV c] at h4 ⊢;obtain⟨a,e1,e2,_,_,e5⟩:=h4;subst e1;have cp:HP G js ρ σ a:=⟨i,j,u,h1,c,h2,h3⟩;exact⟨a,rfl,e2,rL cp,.inl λz=>z.2 cp,e5⟩
  ·rw[hU c] at h4 ⊢;exact h4
 dis:=(Bb q ok).dis
 mu:=q.mu
 sup:=λ_ h=>h.1
 out:=λa h=>by
  by_cases c:HP G js ρ σ a
  ·exact .inr (rL c)
  ·exact .inl ⟨h,c⟩
 bas:=λa o h=>by
  by_cases c:HP G js ρ σ a
  ·rw[rL c] at h;cases h
  ·rw[mV c] at h;exact h
 io0:=λh=>by cases h
 len:=Ba js ρ σ
noncomputable def ky:List (Option Nat)->Nat->Option Nat
 | [],_=>none
 |o::r,j=>if o=some j then some 0 else (ky r j).map (·+1)
theorem uU:∀{js:List (Option Nat)} {i j:Nat},ky js j=some i->js[i]? = some (some j)
 | [],_,_,h=>by cases h
 |o::r,i,j,h=>by
  unfold ky at h;split at h
  ·rename_i e;cases h;rw[e];rfl
  ·cases e:ky r j with
   |none=>rw[e] at h;cases h
   |some k=>
    rw[e] at h;cases h;rw[XI];exact uU e
theorem rM:∀{js:List (Option Nat)} {i j:Nat},ky js j=none->js[i]? ≠ some (some j)
 | [],_,_,_=>by simp
 |o::r,i,j,h=>by
  unfold ky at h;split at h
  ·cases h
  ·rename_i ne;cases e:ky r j with
   |some k=>rw[e] at h;cases h
   |none=>
    cases i with
    |zero=>intro z;exact ne (W0 z)
    |succ i=>rw[XI];exact rM e
noncomputable def wb (G:Gm)(js:List (Option Nat))(ρi ρ:Ev):Ev:=ρ.mapIdx λj x=>if (G.is j&&x.isSome)=true then (match ky js j with
 |some i=>(ρi[i]?).getD none
 |none=>x) else x
theorem zK (h:(wb G js ρi ρ)[j]? = some (some u)):∃u0,ρ[j]? = some (some u0)/\((G.is j=true/\∃i,ky js j=some i/\ρi[i]? = some (some u))\/(u0=u/\(G.is j=false\/ky js j=none))):=by
 unfold wb at h;rw[List.getElem?_mapIdx] at h;cases e:ρ[j]? with
 |none=>rw[e] at h;cases h
 |some x=>
  rw[e] at h;have h:=W0 h;cases x with
  |none=>simp at h
  |some u0=>
   refine⟨u0,rfl,?_⟩;dsimp only at h;by_cases c:G.is j=true
   ·rw[hV (by rw[c];rfl)] at h;split at h
    ·rename_i i hi;refine .inl ⟨c,i,hi,?_⟩;cases e2:ρi[i]? with
     |none=>rw[e2] at h;cases h
     |some y=>rw[e2] at h;simp at h;rw[h]
    ·rename_i hi;exact .inr ⟨W0 h,.inr hi⟩
   ·have c:G.is j=false:=ZS.mpr c;rw[hU (by rw[c];exact WA)] at h;exact .inr ⟨W0 h,.inl c⟩
theorem cE.wb {σ4:St}(q:cE K G Z A ρ σ H)(ok:mS js=true)(q':cE K (qa G js) (LG G js A ρ σ H) A ρi σ4 H')(ho:∀i,(qa G js).is i=true->σ4[i]? = (uP js σ)[i]?):cE K G Z A (L2.wb G js ρi ρ) σ H'/\fh A H H':=by
 have Qn:∀a,HP G js ρ σ a->A a/\Z.B a=none:=λa h00=>by
  obtain⟨i,j,u,h1,h2,h3,h4⟩:=h00;obtain⟨b,e1,e2,e3,_⟩:=q.own h2 h3;rw[h4] at e1;cases e1;exact⟨e2,e3⟩
 have ex:fh A H H':=λb o nb z=>q'.bas b o (by rw[mV λc=>nb (Qn b c).1];exact z);refine⟨{
  slot:=λj u h=>?_
  dis:=λi k u w a ci ck ne hi hk si sk=>by
   obtain⟨u1,h1,_⟩:=zK hi;obtain⟨u2,h2,_⟩:=zK hk;exact q.dis i k u1 u2 a ci ck ne h1 h2 si sk
  mu:=q'.mu
  sup:=q.sup
  out:=q.out
  bas:=λa o h=>q'.bas a o (by
   rw[mV λc=>by rw[(Qn a c).2] at h;cases h];exact q.bas a o h)
  io0:=q.io0
  len:=by unfold L2.wb;rw[List.length_mapIdx];exact q.len},ex⟩
 obtain⟨u0,h0,hh⟩:=zK h;rcases hh with⟨c,i,hi,hu⟩|⟨rfl,hc⟩
 ·have hj:=uU hi;obtain⟨a,e1,e2,e3,e4,_⟩:=q.own c h0;have ci:(qa G js).is i=true:=by rw[rK hj];exact c
  obtain⟨a',k1,k2,_,_,k5⟩:=q'.own ci hu;rw[ho i ci,mU hj e1] at k1;cases k1;refine⟨.ref a,e1,?_⟩;rw[hV c];exact⟨a,rfl,e2,e3,e4,k5⟩
 ·obtain⟨v,h1,h2⟩:=q.slot j u0 h0;refine⟨v,h1,?_⟩;by_cases c:G.is j=true
  ·rw[hV c] at h2 ⊢;obtain⟨a,rfl,e2,e3,e4,e5⟩:=h2;have hc:ky js j=none:=by
    rcases hc with hc|hc
    ·rw[c] at hc;cases hc
    ·exact hc
   have nc:¬HP G js ρ σ a:=λh00=>by
    obtain⟨i,j',u,z1,z2,z3,z4⟩:=h00;have ne:j≠j':=λz=>by subst z;exact rM hc z1
    exact q.dis j j' u0 u a c z2 ne h0 z3 h1 z4
   exact⟨a,rfl,e2,e3,e4,e5.re q.mu ex (λb z=>.inl z) λo z=>q'.bas a o (by rw[mV nc];exact z)⟩
  ·rw[hU c] at h2 ⊢;exact h2.re q.mu ex λb z=>.inl z
end
noncomputable def Nf (f:U->R (Option U)):List U->R (List U)
 | []=>.ok []
 |u::us=>(f u).bind λo=>(Nf f us).bind λr=>.ok (match o with
  |some y=>y::r
  |none=>r)
noncomputable def Ng (js:List (Option Nat))(sg:U->Ev->R Ev)(gt:Ev->R (Bool×Ev))(ge:Ev->R (U×Ev))(ρ:Ev)(u:U):R (Option U):=
 (sg u (jS js ρ)).bind λρi=>(gt ρi).bind λc=>if c.1=true then (ge ρi).bind λy=>.ok (some y.1) else .ok none
noncomputable def dO (gi:Ev->R (List U×Ev))(js:List (Option Nat))(sg:U->Ev->R Ev)(gt:Ev->R (Bool×Ev))(ge:Ev->R (U×Ev)):Ev->R (U×Ev):=λρ=>
 (gi ρ).bind λx=>(Nf (Ng js sg gt ge x.2) x.1).bind λys=>.ok (.lst ys,x.2)
noncomputable def oy (G:Gm)(js:List (Option Nat))(sg:U->Ev->R Ev)(gt:Ev->R (Bool×Ev))(ge:Ev->R (U×Ev)):List U->Ev->R (List U×Ev)
 | [],ρ=>.ok ([],ρ)
 |u::us,ρ=>(sg u (jS js ρ)).bind λρi=>(gt ρi).bind λc=>if c.1=true then (ge c.2).bind λy=>(oy G js sg gt ge us (wb G js y.2 ρ)).bind λr=>.ok (y.1::r.1,r.2) else oy G js sg gt ge us (wb G js c.2 ρ)
noncomputable def zL (G:Gm)(gi:Ev->R (List U×Ev))(js:List (Option Nat))(sg:U->Ev->R Ev)(gt:Ev->R (Bool×Ev))(ge:Ev->R (U×Ev)):Ev->R (U×Ev):=λρ=>
 (gi ρ).bind λx=>(oy G js sg gt ge x.1 x.2).bind λy=>.ok (.lst y.1,y.2)
theorem R.bind_ok {α β:Type}{x:R α}{k:α->R β}{b:β}(h:x.bind k=.ok b):∃a,x=.ok a/\k a=.ok b:=by
 cases x with
 |ok a=>exact⟨a,rfl,h⟩
 |exc=>cases h
 |stk=>cases h
section
variable {e:Yv}{b1 b2 b3 p:Bool}{m me:Md}{gi:Ev->R (List U×Ev)}{gt:Ev->R (Bool×Ev)}{ge:Ev->R (U×Ev)}
theorem xN (ok:mS js=true)(hn:me≠.P){Q:VK}(h:tD X.K G b1 .O (dO gi js sg gt ge) σ H Q) :
  QF (RG X.K G b1 p gi) js (λ_=>RE X.K (qa G js) sg) (λ_=>DJ X.K (qa G js) false gt) (λ_=>tD X.K (qa G js) false me ge) σ H Q:=by
 obtain⟨Z,A,ρ,q,f⟩:=h;obtain⟨⟨us,ρ1⟩,e1,f⟩:=f.bind;obtain⟨all,e2,f⟩:=f.bind;refine⟨Z,A,ρ,q,?_⟩;rw[e1];intro J H1 q1 x1 s1 ⟨hz,wk⟩ Y;dsimp only at e2 f;refine⟨λi k ys H2=>i+k=us.length/\aY H1 H2/\∃done rest,Nf (Ng js sg gt ge ρ1) (us.drop i)=.ok rest/\done++rest=all/\aO X.K H2 A done ys/\done.length<=i,
  ⟨us.length,by lia,aY.refl _,[],all,by rw[aaO];exact e2,rfl,aO.nil,WI _⟩,?_⟩
 rintro i k ys H2 ⟨hk,sm,done,rest,e3,e4,rs,hd⟩;have q2:=q1.same sm;obtain⟨w1,w2⟩:=wk H2 A (by split;exact sm;exact fh.same sm) λb z=>.inl z;by_cases zi:i<us.length
 ·have eu:us[i]? = some us[i]:=Wr zi;obtain⟨go,yl⟩:=w1 i _ eu;rw[XS zi] at e3;unfold Nf at e3;obtain⟨o,e5,e3⟩:=R.bind_ok e3;obtain⟨r,e6,e3⟩:=R.bind_ok e3;unfold Ng at e5;obtain⟨ρi,e7,e5⟩:=R.bind_ok e5;obtain⟨⟨c,ρc⟩,e8,e5⟩:=R.bind_ok e5;refine .inr ⟨go,by rw[←rs.length];lia,λKJ H'=>aY H1 H'/\∃done,done++r=all/\aO X.K H' A done KJ/\done.length<=i+1,λKJ H' ⟨z1,dn,z2,z3,z4⟩=>⟨k-1,by lia,by lia,z1,dn,r,e6,z2,z3,z4⟩,λx H3 y=>?_⟩;obtain⟨sm3,rp⟩:=yl x H3 y;refine⟨_,A,jS js ρ1,us[i],(Bb (q2.same sm3) ok),rp,?_⟩;rw[e7];intro σ4 q4 _;refine⟨_,A,ρi,q4,?_⟩;rw[e8];intro H5 q5 x5 s5;obtain⟨rfl,KI⟩:=s5 rfl;cases c with
  |false=>
   rw[hU WA] at e5 ⊢;cases e5;cases e3;exact⟨(sm.trans sm3).trans KI,done,e4,(rs.same sm3).same KI,by lia⟩
  |true=>
   rw[hV rfl] at e5 ⊢;obtain⟨⟨y1,ρy⟩,e9,e5⟩:=R.bind_ok e5;cases e5;cases e3;refine⟨_,A,ρc,q5,?_⟩;rw[e9];intro v H6 q6 x6 s6 vm;obtain⟨rfl,sm6⟩:=s6 rfl;have Uq:=sm3.trans (KI.trans sm6);exact⟨sm.trans Uq,done++[y1],by rw[W4];exact e4,(rs.same Uq).append (aO.cons (vm.rp hn) aO.nil),by rw[WG];simp;lia⟩
 ·have e:i=us.length:=by lia
  subst e;rw[Z7] at e3;cases e3;rw[Xj] at e4;subst e4;refine .inl ⟨w2,λa na=>?_⟩;have sn:=cW na (.lst ys);exact f _ _ (q2.same sn) ((x1.trans (fh.same sm)).trans (fh.same sn)) (p_ (p_ s1 sm) sn) (DH.e q2 sn ⟨a,rfl,na,bJ q2.mu rs na (by lia)⟩)
theorem xO (ok:mS js=true)(hn:me≠.P){Q:VK}(h:tD X.K G true .O (zL G gi js sg gt ge) σ H Q) :
  QF (RG X.K G b1 false gi) js (λ_=>RE X.K (qa G js) sg) (λ_=>DJ X.K (qa G js) b2 gt) (λ_=>tD X.K (qa G js) b3 me ge) σ H Q:=by
 obtain⟨Z,A,ρ,q,f⟩:=h;obtain⟨⟨us,ρ1⟩,e1,f⟩:=f.bind;obtain⟨⟨all,ρe⟩,e2,f⟩:=f.bind;refine⟨Z,A,ρ,q,?_⟩;rw[e1];intro J H1 q1 x1 s1 ⟨hz,wk⟩ Y;dsimp only at e2 f;refine⟨λi k ys H2=>i+k=us.length/\fh A H1 H2/\∃ρ2 done rest,cE X.K G Z A ρ2 σ H2/\oy G js sg gt ge (us.drop i) ρ2=.ok (rest,ρe)/\done++rest=all/\aO X.K H2 A done ys/\done.length<=i,
  ⟨us.length,by lia,fh.refl,ρ1,[],all,q1,by rw[aaO];exact e2,rfl,aO.nil,WI _⟩,?_⟩
 rintro i k ys H2 ⟨hk,ex,ρ2,done,rest,q2,e3,e4,rs,hd⟩;obtain⟨w1,w2⟩:=wk H2 A (by rw[hU WA];exact ex) λb z=>.inl z;by_cases zi:i<us.length
 ·have eu:us[i]? = some us[i]:=Wr zi;obtain⟨go,yl⟩:=w1 i _ eu;rw[XS zi] at e3;unfold oy at e3;obtain⟨ρi,e7,e3⟩:=R.bind_ok e3;obtain⟨⟨c,ρc⟩,e8,e3⟩:=R.bind_ok e3;refine .inr ⟨go,by rw[←rs.length];lia,λKJ H'=>fh A H1 H'/\∃ρ2 done rest,cE X.K G Z A ρ2 σ H'/\oy G js sg gt ge (us.drop (i+1)) ρ2=.ok (rest,ρe)/\done++rest=all/\aO X.K H' A done KJ/\done.length<=i+1,λKJ H' z=>⟨k-1,by lia,by lia,z⟩,λx H3 y=>?_⟩;obtain⟨sm3,rp⟩:=yl x H3 y;have q3:=q2.same sm3;refine⟨LG G js A ρ2 σ H3,A,jS js ρ2,us[i],LH q3 ok,rp,?_⟩;rw[e7];intro σ4 q4 o4;refine⟨_,A,ρi,q4,?_⟩;rw[e8];intro H5 q5 x5 s5;dsimp only at e3;cases c with
  |false=>
   rw[hU WA] at e3 ⊢;obtain⟨q6,x6⟩:=q3.wb ok q5 o4;exact⟨ex.trans ((fh.same sm3).trans x6),_,done,rest,q6,e3,e4,(rs.same sm3).re q3.mu x6 (λb z=>.inl z),by lia⟩
  |true=>
   rw[hV rfl] at e3 ⊢;obtain⟨⟨y1,ρy⟩,e9,e3⟩:=R.bind_ok e3;obtain⟨⟨r,ρr⟩,e10,e3⟩:=R.bind_ok e3;cases e3;refine⟨_,A,ρc,q5,?_⟩;rw[e9];intro v H6 q6 x6 s6 vm;obtain⟨q7,x7⟩:=q3.wb ok q6 o4;exact⟨ex.trans ((fh.same sm3).trans x7),_,done++[y1],r,q7,e10,by rw[W4];exact e4,((rs.same sm3).re q3.mu x7 (λb z=>.inl z)).append (aO.cons (vm.rp hn) aO.nil),by rw[WG];simp;lia⟩
 ·have e:i=us.length:=by lia
  subst e;rw[Z7] at e3;cases e3;rw[Xj] at e4;subst e4;refine .inl ⟨w2,λa na=>?_⟩;have sn:=cW na (.lst ys);exact f _ _ (q2.same sn) ((x1.trans ex).trans (fh.same sn)) (λz=>nomatch z) (DH.e q2 sn ⟨a,rfl,na,bJ q2.mu rs na (by lia)⟩)
structure CH (X:Cx)(G:Gm)(pZ:List Yv)(b:Bool)(h:Ev->R (Bool×Ev)):Prop where
 un:CB X pZ (DJ X.K G b h)
noncomputable def fJ:Ev->R (Bool×Ev):=λρ=>.ok (true,ρ)
theorem bB:CH X G [] false fJ:=⟨λpins s σ H Q I ⟨Z,A,ρ,q,f⟩=>Em pins s σ H Q I (f H q fh.refl λ_=>⟨rfl,aY.refl _⟩)⟩
theorem fK {h:Ev->R (Bool×Ev)}(hc:DT X G e b1 h):CH X G [e] b1 h:=⟨En hc.un⟩
theorem dP (ke:abC)(NX N:List Str)(js:List (Option Nat))(hc:X.calm=true)(hi:DI X G tg iter b1 p gi)(tY:∀Y:p9,DG (dX X scope N Y) (qa G js) tg sg/\CH (dX X scope N Y) (qa G js) pZ false gt/\DE (dX X scope N Y) (qa G js) elt false me ge)(hn:me≠.P:=by decide)(ok:mS js=true:=by rfl)(kj:X.env.scope=ke:=by rfl)(GQ:X.N=NX:=by rfl)(hS:qY ke NX scope N js=true:=by decide+kernel)(hs:∀x,X5 iter X.env x=pure x:=by intro _;rfl):DE X G (.ListComp elt [⟨tg,iter,pZ,0⟩] scope pos) b1 .O (dO gi js sg gt ge):=⟨(Jn ke NX N js hc hi.un (λY=>⟨(tY Y).1.un,(tY Y).2.1.un,(tY Y).2.2.un⟩) kj GQ hS hs).to λ_ _ _=>xN ok hn⟩
theorem LJ (ke:abC)(NX N:List Str)(js:List (Option Nat))(hc:X.calm=true)(hi:DI X G tg iter b1 false gi)(tY:∀Y:p9,DG (dX X scope N Y) (qa G js) tg sg/\CH (dX X scope N Y) (qa G js) pZ b2 gt/\DE (dX X scope N Y) (qa G js) elt b3 me ge)(hn:me≠.P:=by decide)(ok:mS js=true:=by rfl)(kj:X.env.scope=ke:=by rfl)(GQ:X.N=NX:=by rfl)(hS:qY ke NX scope N js=true:=by decide+kernel)(hs:∀x,X5 iter X.env x=pure x:=by intro _;rfl):DE X G (.ListComp elt [⟨tg,iter,pZ,0⟩] scope pos) true .O (zL G gi js sg gt ge):=⟨(Jn ke NX N js hc hi.un (λY=>⟨(tY Y).1.un,(tY Y).2.1.un,(tY Y).2.2.un⟩) kj GQ hS hs).to λ_ _ _=>xO ok hn⟩
variable {lT kl:Pos}
theorem eH (ke:abC)(NX N:List Str)(js:List (Option Nat))(hN:X.N.Nodup)(hc:X.calm=true)(hi:DI X G tg iter b1 p gi)(tY:∀Y:p9,DG (dX X scope N Y) (qa G js) tg sg/\CH (dX X scope N Y) (qa G js) pZ false gt/\DE (dX X scope N Y) (qa G js) elt false me ge)(hx:X.N[i]? = some x:=by rfl)(hl:G1 X.env.scope x:=by first|exact Or.inl rfl|exact Or.inr rfl)(c:G.is i=false:=by rfl)(hn:me≠.P:=by decide)(ok:mS js=true:=by rfl)(kj:X.env.scope=ke:=by rfl)(GQ:X.N=NX:=by rfl)(hS:qY ke NX scope N js=true:=by decide+kernel)(hw:aaP (.ListComp elt [⟨tg,iter,pZ,0⟩] scope kl) (some (.Name x lT)) pos.line X.env=pure true:=by rfl)(hf:X.fn x=true\/X.env.scope.names.lookup x=some .local:=by first|exact .inl rfl|exact .inr rfl|assumption)(hs:∀x,X5 iter X.env x=pure x:=by intro _;rfl):DS X G m (.Assign [.Name x lT] (.ListComp elt [⟨tg,iter,pZ,0⟩] scope kl) pos) (a8 i (dO gi js sg gt ge)):=⟨(xB ke NX N js hN hx hl hc hi.un (λY=>⟨(tY Y).1.un,(tY Y).2.1.un,(tY Y).2.2.un⟩) kj GQ hS hw hf hs).to λ_ _ _=>xK (b1:=b1) c (by decide) λ_ _ _=>xN ok hn⟩
theorem zM (ke:abC)(NX N:List Str)(js:List (Option Nat))(hN:X.N.Nodup)(hc:X.calm=true)(hi:DI X G tg iter b1 false gi)(tY:∀Y:p9,DG (dX X scope N Y) (qa G js) tg sg/\CH (dX X scope N Y) (qa G js) pZ b2 gt/\DE (dX X scope N Y) (qa G js) elt b3 me ge)(h0:G.io=true->i≠0:=by decide)(hx:X.N[i]? = some x:=by rfl)(hl:G1 X.env.scope x:=by first|exact Or.inl rfl|exact Or.inr rfl)(c:G.is i=true:=by rfl)(hn:me≠.P:=by decide)(ok:mS js=true:=by rfl)(kj:X.env.scope=ke:=by rfl)(GQ:X.N=NX:=by rfl)(hS:qY ke NX scope N js=true:=by decide+kernel)(hw:aaP (.ListComp elt [⟨tg,iter,pZ,0⟩] scope kl) (some (.Name x lT)) pos.line X.env=pure true:=by rfl)(hf:X.fn x=true\/X.env.scope.names.lookup x=some .local:=by first|exact .inl rfl|exact .inr rfl|assumption)(hs:∀x,X5 iter X.env x=pure x:=by intro _;rfl):DS X G m (.Assign [.Name x lT] (.ListComp elt [⟨tg,iter,pZ,0⟩] scope kl) pos) (a8 i (zL G gi js sg gt ge)):=⟨(xB ke NX N js hN hx hl hc hi.un (λY=>⟨(tY Y).1.un,(tY Y).2.1.un,(tY Y).2.2.un⟩) kj GQ hS hw hf hs).to λ_ _ _=>uT (b1:=true) c h0 λ_ _ _=>xO (b1:=b1) (b2:=b2) (b3:=b3) ok hn⟩
end
end L2
namespace L2
noncomputable def i9 (n:Nat)(us:List U):Ev:=us.map some++Xv (n-us.length) none
noncomputable def dC (m:Md)(n:Nat)(s:Ev->SR):List U->R U:=λus=>match s (i9 n us) with
 | .rt u _=>.ok u
 | .nx _=>if m=.S then .ok .non else .stk
 | .exc c u=>.exc c u
 |_=>.stk
noncomputable def xP (n:Nat)(s:Ev->SR):List U->R (U×U):=λus=>match s (i9 n us) with
 | .rt u ρ=>match ρ[0]? with
  |some (some w)=>.ok (u,w)
  |_=>.stk
 | .nx ρ=>match ρ[0]? with
  |some (some w)=>.ok (.non,w)
  |_=>.stk
 | .exc c u=>.exc c u
 |_=>.stk
theorem mW (h:(i9 n us)[i]? = some (some u)):us[i]? = some u:=by
 unfold i9 at h;by_cases c:i<(us.map some).length
 ·rw[XR c,Xc] at h;cases e:us[i]? with
  |none=>rw[e] at h;cases h
  |some w=>rw[e] at h;simp at h;rw[h]
 ·rw[Xx (by lia),List.getElem?_replicate] at h;split at h
  ·cases h
  ·cases h
theorem lj (h:vs[i]? = some v):(aaj N vs)[i]? = some (some v):=by
 unfold aaj;have c:i<(vs.map some).length:=by rw[WC];exact (WH.mp h).1
 rw[XR c,Xc,h];rfl
theorem Bc (h:us.length=vs.length):(i9 N.length us).length=(aaj N vs).length:=by
 unfold i9 aaj;rw[WG,WG,WC,WC,ZC,ZC,h]
section
variable {P:XF}{base:Y8}
theorem vX (G:Gm)(m:Md)(s:Ev->SR)(G7:G.io=false)(qu:∀i,i<ps.length->G.is i=false)(i0:∀(f:WT) (cP:WB) (A:Xh) (outer:List Env) (s0:WN) (H:Hp) (E:XK),fB k (A.deeper (abt x (aq st) s0.heap.objs.size f cP))->
   zJ (p7 xx P w K mg base N x (aq st) f cP A outer s0 H E).nox G m (cx st) s) :
  (∀vs H Q E,fb K ps.length (dC m N.length s) m vs H Q E->vs.length=ps.length)/\∀(f:WT) (cP:WB) (A:Xh) (outer:List Env) (s0:WN) (H:Hp) (vs:List V) (Q:VK) (E:XK),fB k (A.deeper (abt x (aq st) s0.heap.objs.size f cP))->fb K ps.length (dC m N.length s) m vs H Q E->
   ∃t,ud (p7 xx P w K mg base N x (aq st) f cP A outer s0 H E).nox (cx st) t/\t {nx:=λ_ H'=>Q .non H',rt:=Q} (aaj N vs) H:=by
 have hl:∀(us:List U) (A:WT->Prop) (H:Hp) (Q:VK),N8 K m A H (zI ps.length (dC m N.length s) us) Q->us.length=ps.length:=λus A H Q h=>by
  unfold zI at h;split at h
  ·assumption
  ·exact h.elim
 refine⟨λvs H Q E ⟨us,A,r,_,h⟩=>by rw[←r.length];exact hl us A H Q h,λf cP A outer s0 H vs Q E hr ⟨us,A0,r,mu,h⟩=>⟨_,(i0 f cP A outer s0 H E hr).un,?_⟩⟩;have l:=hl us A0 H Q h;unfold zI at h;rw[hV l] at h;refine⟨⟨A0,H,0⟩,A0,i9 N.length us,?_,?_⟩
 ·exact {
   slot:=λi u hu=>by
    have hu:=mW hu;obtain⟨v,h1,h2⟩:=r.get hu;refine⟨v,lj h1,?_⟩;rw[hU (by rw[qu i (by rw[←l];exact (WH.mp hu).1)];exact WA)];exact h2
   dis:=λi j u w a ci cj ne hi hj si sj=>by
    rw[qu i (by rw[←l];exact (WH.mp (mW hi)).1)] at ci;cases ci
   mu:=mu
   sup:=λa h=>h
   out:=λa h=>.inl h
   bas:=λa o h=>h
   io0:=λh=>by rw[G7] at h;cases h
   len:=Bc r.length}
 ·unfold dC at h;cases e:s (i9 N.length us) with
  |nx ρ'=>
   rw[e] at h;dsimp only at h;intro A' σ' H' q;split at h
   ·rename_i hm;subst hm;exact h _ H' q.bas (show Rp K H' A0 .non .non from rD)
   ·exact h.elim
  |rt u ρ'=>
   rw[e] at h;intro A' σ' H' v q vm;refine h v H' q.bas ?_;cases m with
   |S=>exact vm
   |P=>exact vm.elim
   |O=>
    obtain⟨a,e1,e2,e3,e4⟩:=vm;exact⟨a,e1,e2,e4⟩
  |bk=>rw[e] at h;exact h.elim
  |ct=>rw[e] at h;exact h.elim
  |exc=>rw[e] at h;exact h.elim
  |stk=>rw[e] at h;exact h.elim
theorem Df.fnD (G:Gm)(m:Md)(s:Ev->SR)(d:Df K mg x st)(S:aR N ps (aq st))(hb:∀(kV n9 pm:WB) (an:Option WT) (cP ct:WB) (us:List WB),us.length=ps.length->bindArgs (Yp x x (fD st) (cx st) (aq st) .none kV n9 pm an cP ct) ⟨us,[]⟩=pure (ps.zip us))(G7:G.io=false)(qu:∀i,i<ps.length->G.is i=false)(i0:∀(f:WT) (cP:WB) (A:Xh) (outer:List Env) (s0:WN) (H:Hp) (E:XK),fB k (A.deeper (abt x (aq st) s0.heap.objs.size f cP))->
   zJ (p7 xx P w K mg base N x (aq st) f cP A outer s0 H E).nox G m (cx st) s):Fn P w K mg base x (k+1) ps (fb K ps.length (dC m N.length s) m):=
 d.fn S hb (vX G m s G7 qu i0).1 (vX G m s G7 qu i0).2
theorem G3.okD (G:Gm)(m:Md)(s:Ev->SR)(F:G3 K x x st f fd)(S:aR N ps (aq st))(G7:G.io=false)(qu:∀i,i<ps.length->G.is i=false)(i0:∀(f:WT) (cP:WB) (A:Xh) (outer:List Env) (s0:WN) (H:Hp) (E:XK),fB k (A.deeper (abt x (aq st) s0.heap.objs.size f cP))->
   zJ (p7 xx P w K mg base N x (aq st) f cP A outer s0 H E).nox G m (cx st) s):lJ P w K mg base xx (k+1) f fd ps (fb K ps.length (dC m N.length s) m):=
 F.ok S (vX G m s G7 qu i0).1 ((vX G m s G7 qu i0).2 f)
def xQ (K:Wv):Sp:=λvs H Q _=>∃(a:WT) (ns:List Int),vs=[.ref a]/\HF K H a (ns.map V.int)/\ns.length<=63/\∀H',Q (.bl true) H'
theorem LK (hO:Hx H)(h:f7 K H a xs):HF K H a xs:=by
 rcases h with (h|h)|h
 ·rcases hO a with z|⟨o,ys,z⟩
  ·rw[h] at z;cases z
  ·rw[h] at z;cases z
 ·exact .inl h
 ·exact .inr h
theorem xR {H:Hp}{A:WT->Prop}:∀(ns:List Int),aO K H A (ns.map .int) (ns.map V.int)
 | []=>aO.nil
 |n::ns=>aO.cons eR (xR ns)
theorem LL {f:List U->R U}{fa:WT}(F:lJ P w K mg base xx k fa fd ["script"] (fb K 1 f .S))(h:∀ns:List Int,ns.length<=63->f [.scr (ns.map .int)]=.ok (.bl true)):lJ P w K mg base xx k fa fd ["script"] (xQ K):=by
 refine F.imp λvs H Q E ⟨a,ns,e,sc,l,q⟩=>?_;subst e;have hl:(ns.map U.int).length<=WE:=by rw[WC];have:WE=16777216:=rfl;lia
 refine⟨[.scr (ns.map .int)],λ_=>False,aO.cons ?_ aO.nil,λ_ h=>h.elim,?_⟩
 ·unfold Rp;exact⟨a,_,rfl,sc,hl,xR ns⟩
 ·have e:zI 1 f [.scr (ns.map .int)]=.ok (.bl true):=(hV rfl).trans (h ns l);rw[e];intro v H' sm vm;have vm:Rp K H' (λ_=>False) (.bl true) v:=vm;unfold Rp at vm;subst vm;exact q H'
theorem Df.fnI (G:Gm)(s:Ev->SR)(d:Df K mg x st)(S:aR N ps (aq st))(hb:∀(kV n9 pm:WB) (an:Option WT) (cP ct:WB) (us:List WB),us.length=ps.length->bindArgs (Yp x x (fD st) (cx st) (aq st) .none kV n9 pm an cP ct) ⟨us,[]⟩=pure (ps.zip us))(G7:G.io=true)(h0:G.is 0=true)(qu:∀i,i<ps.length->i≠0->G.is i=false)(i0:∀(f:WT) (cP:WB) (A:Xh) (outer:List Env) (s0:WN) (H:Hp) (E:XK),fB k (A.deeper (abt x (aq st) s0.heap.objs.size f cP))->
   zJ (p7 xx P w K mg base N x (aq st) f cP A outer s0 H E).nox G .S (cx st) s):Fn P w K mg base x (k+1) ps (A8 K ps.length (xP N.length s)):=by
 refine d.fn S hb ?_ ?_
 ·rintro vs H Q E ⟨u0,us,a0,vs',A,rfl,_,_,r,_,h⟩;unfold zI at h;split at h
  ·rename_i e;split at e
   ·rename_i l;rw[Ww,←r.length,←l];rfl
   ·cases e
  ·exact h.elim
 ·rintro f cP A outer s0 H vs Q E hr ⟨u0,us,a0,vs',A0,rfl,ha,t0,r,mu,h⟩;refine⟨_,(i0 f cP A outer s0 H E hr).un,?_⟩;have l:(u0::us).length=ps.length:=by
   unfold zI at h;by_cases c:(u0::us).length=ps.length
   ·exact c
   ·rw[hU c] at h;exact h.elim
  unfold zI at h;rw[hV l] at h
  let Z:Pkg:=⟨A0,λb=>if b=a0 then none else H b,a0⟩
  have zb:∀b o,b≠a0->H b=some o->Z.B b=some o:=λb o nb z=>by
   show (if b=a0 then none else H b)=some o;rw[hU nb];exact z
  have rel:cE K G Z A0 (i9 N.length (u0::us)) (aaj N (.ref a0::vs')) H:={
   slot:=λi u hu=>by
    have hu:=mW hu;cases i with
    |zero=>
     simp at hu;subst hu;refine⟨.ref a0,lj (by simp),?_⟩;rw[hV h0];exact⟨a0,rfl,ha,by show (if a0=a0 then none else H a0)=none;rw[hV rfl],.inr ⟨G7,rfl⟩,t0⟩
    |succ i=>
     have hl:=(WH.mp hu).1;rw[XI] at hu;obtain⟨v,h1,h2⟩:=r.get hu;refine⟨v,lj (by rw[XI];exact h1),?_⟩;rw[hU (by rw[qu (i+1) (by rw[←l];exact hl) (by lia)];exact WA)];exact h2
   dis:=λi j u w a ci cj ne hi hj si sj=>by
    have hi:=(WH.mp (mW hi)).1;have hj:=(WH.mp (mW hj)).1;by_cases e:i=0
    ·rw[qu j (by rw[←l];exact hj) (by lia)] at cj;cases cj
    ·rw[qu i (by rw[←l];exact hi) e] at ci;cases ci
   mu:=mu
   sup:=λa h=>h
   out:=λa h=>.inl h
   bas:=λa o h=>by
    by_cases c:a=a0
    ·have h:(if a=a0 then none else H a)=some o:=h;rw[hV c] at h;cases h
    ·have h:(if a=a0 then none else H a)=some o:=h;rw[hU c] at h;exact h
   io0:=λ_=>⟨lj (vs:=.ref a0::vs') (i:=0) (v:=.ref a0) rfl,h0⟩
   len:=Bc (by rw[Ww,Ww,r.length])}
  have fin:∀(A':WT->Prop) (ρ':Ev) (σ':St) (H':Hp) (w:U),cE K G Z A' ρ' σ' H'->ρ'[0]? = some (some w)->(∀b o,b≠a0->H b=some o->H' b=some o)/\kr K H' A0 w a0:=λA' ρ' σ' H' w q hw=>by
   obtain⟨a,e1,e2,e3,e4,e5⟩:=q.own h0 hw;rw[(q.io0 G7).1] at e1;cases e1;exact⟨λb o nb z=>q.bas b o (zb b o nb z),e5.mono q.sup⟩
  refine⟨Z,A0,_,rel,?_⟩;unfold xP at h;cases e:s (i9 N.length (u0::us)) with
  |nx ρ'=>
   rw[e] at h;dsimp only at h;intro A' σ' H' q;split at h
   ·rename_i hm;split at hm
    ·rename_i w hw;cases hm;obtain⟨z1,z2⟩:=fin A' ρ' σ' H' _ q hw;exact h _ H' z1 z2 rD
    ·cases hm
   ·exact h.elim
  |rt u ρ'=>
   rw[e] at h;dsimp only at h;intro A' σ' H' v q vm;split at h
   ·rename_i hm;split at hm
    ·rename_i w hw;cases hm;obtain⟨z1,z2⟩:=fin A' ρ' σ' H' _ q hw;exact h _ H' z1 z2 vm
    ·cases hm
   ·exact h.elim
  |bk=>rw[e] at h;exact h.elim
  |ct=>rw[e] at h;exact h.elim
  |exc=>rw[e] at h;exact h.elim
  |stk=>rw[e] at h;exact h.elim
end
section
variable {e e2:Yv}{p1 p2:Pos}{y:Str}{b1 b2:Bool}{m m1 m2:Md}{g1 g2:Ev->R (U×Ev)}
noncomputable def mX (i:Nat)(gv gk:Ev->R (U×Ev)):Ev->SR:=λρ=>SR.of (gv ρ) λx=>if live x.2 i=true then SR.of (gk x.2) λy=>match y.1 with
 | .int k=>match y.2[i]? with
  |some (some (.lst us))=>match DC us.length k with
   |some j=>.nx (y.2.set i (some (.lst (us.set j x.1))))
   |none=>.stk
  |_=>.stk
 |_=>.stk
 else .stk
theorem jT (he:DE X G e b1 m1 g1)(hk:DE X G e2 b2 m2 g2)(hn:m1≠.P:=by decide)(hN:X.N[i]? = some y:=by rfl)(hv:Ha X.env.scope y:=by first|exact Or.inl rfl|exact Or.inr (Or.inl rfl)|exact Or.inr (Or.inr rfl))(c:G.is i=true:=by rfl)(hd:(y==("__debug__":Str))=false:=by decide)(tW:(y==("__classdict__":Str))=false:=by decide)(ha:∀v,assign (.Subscript (.Name y p1) e2 p2) X.env v=(do
   let ov ←holding [v] (Z0 (.Name y p1) X.env)
   let iv ←holding [v,ov] (Z0 e2 X.env)
   standAt p2
   holding [v,ov,iv] (setItem ov iv v)
   release [v,ov,iv] []):=by intro _;rfl)(hs:aaY [.Subscript (.Name y p1) e2 p2] e pos.line X.env=pure false:=by rfl)(hw:aaZ [.Subscript (.Name y p1) e2 p2] e X.env=pure none:=by rfl)(h1:(Zf [.Subscript (.Name y p1) e2 p2] X.env).map (·.2)=[assign (.Subscript (.Name y p1) e2 p2) X.env]:=by rfl):DS X G m (.Assign [.Subscript (.Name y p1) e2 p2] e pos) (mX i g1 g2):=⟨(DV he.un (K_ (ma hN hv hd tW) hk.un Ed ha) hs hw h1).to λD σ H h00=>by
 obtain⟨Z,A,ρ,q,f⟩:=h00;obtain⟨⟨u,ρ1⟩,e1,f⟩:=f.of;refine⟨Z,A,ρ,q,?_⟩;rw[e1];intro v H1 q1 x1 s1 vm;dsimp only at f;split at f
 ·rename_i hl;obtain⟨u00,hu0⟩:=A9 hl;obtain⟨a0,h0,_⟩:=q1.own c hu0;obtain⟨⟨k,ρ2⟩,e2,f⟩:=f.of;refine⟨.ref a0,h0,Z,A,ρ1,q1,?_⟩;rw[e2];intro v2 H2 q2 x2 s2 uc;dsimp only at f;cases k with
  |int kk=>
   dsimp only at f;split at f
   ·rename_i us hu;split at f
    ·rename_i j hj;obtain⟨a0',k1,k2,_,_,k5⟩:=q2.own c hu;rw[h0] at k1;cases k1;obtain⟨xs,t1,t2,t3⟩:=k5;refine⟨a0,xs,kk,j,rfl,uc.pk.int,t1,by rw[←t3.length];exact hj,?_⟩;have em:∀b o,b≠a0->H2 b=some o->cY H2 a0 (.lst (xs.set j v)) b=some o:=λb o nb z=>by rw[bo nb];exact z
     have ex:fh A H2 (cY H2 a0 (.lst (xs.set j v))):=λb o nb z=>em b o (λy=>nb (y▸k2)) z;refine f A σ _ (q2.put c hu h0 em ⟨xs.set j v,bT,by rw[XA];exact t2,?_⟩);exact (t3.re q2.mu ex λb z=>.inl z).set j (((vm.rp hn).re q1.mu x2 λb z=>.inl z).re q2.mu ex λb z=>.inl z)
    ·exact f.elim
   ·exact f.elim
  |_=>exact f.elim
 ·exact f.elim⟩
noncomputable def RH (i:Nat)(p:U->U->R U)(g:Ev->R (U×Ev)):Ev->SR:=λρ=>match ρ[i]? with
 |some (some u)=>SR.of (g ρ) λy=>SR.of (p u y.1) λz=>.nx (y.2.set i (some z))
 |_=>.stk
end
end L2
namespace L2
def EM:R2:=λx y H Q=>∃l b xs zs,x=.ref l/\y=.ref b/\H l=some (.lst xs)/\H b=some (.lst zs)/\xs.length+zs.length<=WE/\∀p,H p=none->Q (.ref p) (cY H p (.lst (xs++zs)))
theorem HQ:j3 X (ZQ .Add) EM:=by
 intro pins s σ H x y v u Q I rx ry h;obtain⟨l,b,xs,zs,rfl,rfl,hH,hB,hz,q⟩:=h;cases rx;cases ry;obtain⟨z,its,n,r,hl,e⟩:=I.lstM hH;obtain⟨z2,its2,n2,r2,MW,e2⟩:=I.lstM hB;refine PySem.P.add_list e e2 ?_ (by rw[Wy,Wy];lia);have ea:its.toArray++its2.toArray=(its++its2).toArray:=by simp
 rw[ea];exact⟨.ref _,_,I.lnew (t':=s.toks) (r.append r2) (by rw[WG];lia),rfl,q _ I.fresh⟩
noncomputable def dR:U->U->R U:=λu w=>match u,w with
 | .int i,.int j=>.ok (.int (i+j))
 | .tup a,.tup b=>if a.length+b.length<=WE then .ok (.tup (a++b)) else .stk
 | .lst a,.lst b=>if a.length+b.length<=WE then .ok (.lst (a++b)) else .stk
 |_,_=>.stk
noncomputable def LM:U->U->R U:=λu w=>match u,w with
 | .lst a,.lst b=>if a.length+b.length<=WE then .ok (.lst (a++b)) else .stk
 |_,_=>.stk
def Jp:R2:=λx y H Q=>(zo λi j=>.int (i+j)) x y H Q\/Ew x y H Q\/EM x y H Q
theorem bw:j3 X (ZQ .Add) Jp:=Lf.or (Ex.or HQ)
theorem HU:fG K EM .O LM:=λA H x y u w z Q hx hy mu e q=>by
 unfold LM at e;split at e
 ·split at e
  ·rename_i hl;cases e;unfold Pk at hx hy;obtain⟨a,xs,rfl,h1,l1,r1⟩:=hx;obtain⟨b,ys,rfl,h2,l2,r2⟩:=hy;exact⟨a,b,xs,ys,rfl,rfl,h1,h2,by rw[←r1.length,←r2.length];exact hl,λp hp=>q _ _ (cW hp _) ⟨p,rfl,hp,bJ mu (r1.append r2) hp (by rw[WG];exact hl)⟩⟩
  ·cases e
 ·cases e
theorem bx:fG K Jp .S dR:=λA H x y u w z Q hx hy mu e q=>by
 unfold dR at e;split at e
 ·cases e;exact .inl ⟨_,_,hx.int,hy.int,q _ H (aY.refl _) (show Rp K H A _ _ from eR)⟩
 ·split at e
  ·rename_i hl;cases e;unfold Pk at hx hy;obtain⟨a,xs,rfl,h1,l1,r1⟩:=hx;obtain⟨b,ys,rfl,h2,l2,r2⟩:=hy;refine .inr (.inl ⟨a,b,xs,ys,rfl,rfl,h1,h2,by rw[←r1.length,←r2.length];exact hl,λr H' sm hr=>q _ H' sm (show Rp K H' A _ _ from ?_)⟩);unfold Rp;exact⟨r,_,rfl,hr,by rw[WG];exact hl,(r1.append r2).same sm⟩
  ·cases e
 ·refine .inr (.inr (HU A H x y _ _ z Q hx hy mu (show LM (.lst _) (.lst _)=_ from e) λv H' sm vm=>q v H' sm ?_));obtain⟨a,rfl,na,t⟩:=vm;exact t.rp (λb h=>.inl h) λh=>by have:=mu a h;rw[na] at this;exact this
 ·cases e
noncomputable def pI (c:Int->Int->Bool)(f:Int->Int->Int):U->U->R U:=λu w=>match u,w with
 | .int i,.int j=>if c i j=true then .ok (.int (f i j)) else .stk
 |_,_=>.stk
theorem Be {C:Int->Int->Prop}{c:Int->Int->Bool}{f:Int->Int->Int}(h:∀i j,c i j=true->C i j):fG K (rI C λi j=>.int (f i j)) .S (pI c f):=λA H x y u w z Q hx hy mu e q=>by
 unfold pI at e;split at e
 ·rename_i i j;split at e
  ·rename_i hc;cases e;exact⟨i,j,hx.int,hy.int,h i j hc,q _ H (aY.refl _) (show Rp K H A _ _ from eR)⟩
  ·cases e
 ·cases e
noncomputable def ui:U->U->R U:=λu w=>match u,w with
 | .int i,.int j=>.ok (.int (i-j))
 |_,_=>.stk
theorem mY:fG K (zo λi j=>.int (i-j)) .S ui:=λA H x y u w z Q hx hy mu e q=>by
 unfold ui at e;split at e
 ·cases e;exact⟨_,_,hx.int,hy.int,q _ H (aY.refl _) (show Rp K H A _ _ from eR)⟩
 ·cases e
noncomputable def qb (i j:Int):Bool:=(decide (-(2 ^ 64)<i)&&decide (i<2 ^ 64))||(decide (-(2 ^ 64)<j)&&decide (j<2 ^ 64))
noncomputable def c9:U->U->R U:=pI qb (·*·)
theorem cg:fG K (rI Hk λi j=>.int (i*j)) .S c9:=Be λi j h=>by
 unfold qb at h;simp only[aat,WX,decide_eq_true_eq] at h;exact h
noncomputable def xS (_ j:Int):Bool:=decide (0<j)&&decide (j<18446744073709551616)
noncomputable def mZ:U->U->R U:=pI xS (· / ·)
theorem iI:fG K (rI Ep λi j=>.int (i / j)) .S mZ:=Be λi j h=>by
 unfold xS at h;simp only[WX,decide_eq_true_eq] at h;exact h
noncomputable def rN:U->U->R U:=pI (λ_ j=>decide (0<j)) (· % ·)
theorem jd:fG K (rI (λ_ j=>0<j) λi j=>.int (i % j)) .S rN:=Be λi j h=>of_decide_eq_true h
noncomputable def HV (i j:Int):Bool:=decide (0<=j)&&decide (j<=1000000)&&decide (i.natAbs<2 ^ 64)
noncomputable def HW:U->U->R U:=pI HV λi j=>i ^ j.toNat
theorem Bf:fG K (rI NI λi j=>.int (i ^ j.toNat)) .S HW:=Be λi j h=>by
 unfold HV at h;simp only[WX,decide_eq_true_eq] at h;exact⟨h.1.1,h.1.2,h.2⟩
noncomputable def RI:U->R U:=λu=>match u with
 | .int i=>.ok (.int (-i))
 |_=>.stk
noncomputable def pC (f:Int->Int->Bool):U->U->R U:=λu w=>match u,w with
 | .int i,.int j=>.ok (.bl (f i j))
 |_,_=>.stk
theorem Bg {f:Int->Int->Bool}:fG K (zo λi j=>.bl (f i j)) .S (pC f):=λA H x y u w z Q hx hy mu e q=>by
 unfold pC at e;split at e
 ·cases e;exact⟨_,_,hx.int,hy.int,q _ H (aY.refl _) (show Rp K H A _ _ from o5)⟩
 ·cases e
noncomputable def Ob:U->U->R U:=pC λi j=>decide (i<j)
noncomputable def LN:U->U->R U:=pC λi j=>decide (i<=j)
noncomputable def Oc:U->U->R U:=pC λi j=>decide (j<i)
noncomputable def RJ:U->U->R U:=pC λi j=>decide (j<=i)
mutual
noncomputable def rO:U->Option D
 | .non=>some .non
 | .bl b=>some (.bl b)
 | .int i=>some (.int i)
 | .str x=>some (.str x)
 | .tup us=>(lL us).map .tup
 | .lst us=>(lL us).map .lst
 | .dct _ _=>none
 | .scr _=>none
noncomputable def lL:List U->Option (List D)
 | []=>some []
 |u::us=>(rO u).bind λd=>(lL us).map λds=>d::ds
end
mutual
theorem zN {H:Hp}{A:WT->Prop}:∀{u:U} {v:V} {d:D},Rp K H A u v->rO u=some d->a6 K H d v
 | .non,v,d,h,e=>by unfold rO at e;cases e;unfold Rp at h;unfold a6;exact h
 | .bl b,v,d,h,e=>by unfold rO at e;cases e;unfold Rp at h;unfold a6;exact h
 | .int b,v,d,h,e=>by unfold rO at e;cases e;unfold Rp at h;unfold a6;exact h
 | .str b,v,d,h,e=>by unfold rO at e;cases e;unfold Rp at h;unfold a6;exact h
 | .tup us,v,d,h,e=>by
  unfold rO at e;cases e2:lL us with
  |none=>rw[e2] at e;cases e
  |some ds=>
   rw[e2] at e;cases e;unfold Rp at h;unfold a6;obtain⟨a,xs,r,q,l,z⟩:=h;exact⟨a,xs,r,gK.of q,lq z e2⟩
 | .lst us,v,d,h,e=>by
  unfold rO at e;cases e2:lL us with
  |none=>rw[e2] at e;cases e
  |some ds=>
   rw[e2] at e;cases e;unfold Rp at h;unfold a6;obtain⟨a,xs,r,_,q,l,z⟩:=h;exact⟨a,xs,r,f7.of q,lq z e2⟩
 | .dct _ _,v,d,h,e=>by unfold rO at e;cases e
 | .scr _,v,d,h,e=>by unfold rO at e;cases e
theorem lq {H:Hp}{A:WT->Prop}:∀{us:List U} {vs:List V} {ds:List D},aO K H A us vs->lL us=some ds->f9 K H ds vs
 | [],vs,ds,h,e=>by unfold lL at e;cases e;unfold aO at h;unfold f9;exact h
 |u::us,vs,ds,h,e=>by
  unfold lL at e;cases e1:rO u with
  |none=>rw[e1] at e;cases e
  |some d=>
   cases e2:lL us with
   |none=>rw[e1,e2] at e;cases e
   |some ds'=>
    rw[e1,e2] at e;cases e;unfold aO at h;unfold f9;obtain⟨x,r,q,p,z⟩:=h;exact⟨x,r,q,zN p e1,lq z e2⟩
end
theorem vY {d:D}(h:Pk K H A u v)(e:rO u=some d):a6 K H d v:=by
 cases u with
 |lst us=>
  unfold rO at e;cases e2:lL us with
  |none=>rw[e2] at e;cases e
  |some ds=>
   rw[e2] at e;cases e;unfold Pk at h;unfold a6;obtain⟨a,xs,r,q,l,z⟩:=h;exact⟨a,xs,r,f7.of q,lq z e2⟩
 |dct=>unfold rO at e;cases e
 |scr=>unfold rO at e;cases e
 |tup us=>exact zN (A:=A) (by unfold Pk at h;unfold Rp;exact h) e
 |_=>exact zN (A:=A) (by unfold Pk at h;unfold Rp;exact h) e
noncomputable def zO (u w:U):R Bool:=match rO u,rO w with
 |some d,some d'=>if eQ d<=30 then .ok (jP d d') else .stk
 |_,_=>.stk
noncomputable def iJ (f:Bool->Bool):U->U->R U:=λu w=>(zO u w).bind λb=>.ok (.bl (f b))
theorem bp {f:Bool->Bool}:fG K (Ls K f) .S (iJ f):=λA H x y u w z Q hx hy mu e q=>by
 unfold iJ zO at e;obtain⟨b,e1,e2⟩:=R.bind_ok e;split at e1
 ·rename_i d d' h1 h2;split at e1
  ·rename_i hd;cases e1;cases e2;exact⟨d,d',vY hx h1,vY hy h2,hd,q _ H (aY.refl _) (show Rp K H A _ _ from o5)⟩
  ·cases e1
 ·cases e1
noncomputable def EN:U->Bool
 | .non=>true
 |_=>false
theorem xT (h:Pk K H A u v):decide (v=.non)=EN u:=by
 cases u<;>unfold Pk at h
 case non=>subst h;rfl
 case tup=>obtain⟨a,xs,rfl,_⟩:=h;rfl
 case lst=>obtain⟨a,xs,rfl,_⟩:=h;rfl
 case dct=>obtain⟨a,xs,rfl,_⟩:=h;rfl
 case scr=>obtain⟨a,xs,rfl,_⟩:=h;rfl
 all_goals (subst h;rfl)
noncomputable def m4 (f:Bool->Bool):U->U->R U:=λu w=>match w with
 | .non=>.ok (.bl (f (EN u)))
 |_=>.stk
theorem Bh:fG K (λx y H Q=>y=.non/\Q (.bl (decide (x=.non))) H) .S (m4 id):=λA H x y u w z Q hx hy mu e q=>by
 unfold m4 at e;split at e
 ·cases e;refine⟨by unfold Pk at hy;exact hy,q _ H (aY.refl _) ?_⟩;rw[xT hx];exact (show Rp K H A _ _ from o5)
 ·cases e
theorem rP:fG K (λx y H Q=>y=.non/\Q (.bl (!decide (x=.non))) H) .S (m4 not):=λA H x y u w z Q hx hy mu e q=>by
 unfold m4 at e;split at e
 ·cases e;refine⟨by unfold Pk at hy;exact hy,q _ H (aY.refl _) ?_⟩;rw[xT hx];exact (show Rp K H A _ _ from o5)
 ·cases e
noncomputable def RK (f:Bool->Bool):U->U->R U:=λu w=>match u,w with
 | .bl a,.bl b=>.ok (.bl (f (decide (a=b))))
 |_,_=>.stk
theorem zP {i:Int}{z:U}(r:aO K H A us xs)(e:og us i=some z):∃v,og xs i=some v/\Rp K H A z v:=by
 unfold og at e ⊢;rw[←r.length];cases h:DC us.length i with
 |none=>rw[h] at e;cases e
 |some j=>
  rw[h] at e;obtain⟨v,h1,h2⟩:=r.get (show us[j]? = some z from e);exact⟨v,h1,h2⟩
noncomputable def bZ:U->U->R U:=λu w=>match u,w with
 | .lst us,.int i=>match og us i with
  |some z=>.ok z
  |none=>.stk
 | .tup us,.int i=>match og us i with
  |some z=>.ok z
  |none=>.stk
 | .scr us,.int i=>match og us i with
  |some z=>.ok z
  |none=>.stk
 | .str x,.int i=>match og x.cps.toList i with
  |some c=>if x.length<=WE then .ok (.str ⟨#[c]⟩) else .stk
  |none=>.stk
 |_,_=>.stk
theorem aE:fG K (TN K) .S bZ:=λA H x y u w z Q hx hy mu e q=>by
 unfold bZ at e;split at e
 ·split at e
  ·rename_i z' hz;cases e;unfold Pk at hx;obtain⟨a,xs,rfl,h1,l1,r1⟩:=hx;obtain⟨v,h2,h3⟩:=zP r1 hz;exact .inl ⟨a,xs,_,v,rfl,hy.int,f7.of h1,h2,q _ H (aY.refl _) h3⟩
  ·cases e
 ·split at e
  ·rename_i z' hz;cases e;unfold Pk at hx;obtain⟨a,xs,rfl,h1,l1,r1⟩:=hx;obtain⟨v,h2,h3⟩:=zP r1 hz;exact .inr (.inl ⟨a,xs,_,v,rfl,hy.int,gK.of h1,h2,q _ H (aY.refl _) h3⟩)
  ·cases e
 ·split at e
  ·rename_i z' hz;cases e;unfold Pk at hx;obtain⟨a,xs,rfl,h1,l1,r1⟩:=hx;obtain⟨v,h2,h3⟩:=zP r1 hz;exact .inl ⟨a,xs,_,v,rfl,hy.int,h1.sq,h2,q _ H (aY.refl _) h3⟩
  ·cases e
 ·split at e
  ·rename_i z' hz;split at e
   ·rename_i hl;cases e;exact .inr (.inr ⟨_,_,z',hx.str,hy.int,hl,hz,q _ H (aY.refl _) (show Rp K H A _ _ from Ly)⟩)
   ·cases e
  ·cases e
 ·cases e
noncomputable def qc {α:Type}(xs:List α)(lo hi:Option Int):List α:=(xs.drop (HT.sIx xs.length 0 lo)).take (HT.sIx xs.length xs.length hi-HT.sIx xs.length 0 lo)
theorem kz {α:Type}(xs:List α)(lo hi:Option Int):(qc xs lo hi).length<=xs.length:=by
 unfold qc;rw[Xr,X1];lia
theorem vZ (r:aO K H A us xs)(lo hi:Option Int):aO K H A (qc us lo hi) (qT xs lo hi):=by
 unfold qc qT;rw[←r.length];exact (r.drop _).take _
theorem rQ:Eb X (λx lo hi H Q=>Hv X.K x lo hi H Q\/Eu X.K x lo hi H Q):=Hw.or HC
noncomputable def EO:U->Option Int->Option Int->R U:=λu lo hi=>match u with
 | .lst us=>.ok (.lst (qc us lo hi))
 | .scr us=>.ok (.lst (qc us lo hi))
 | .tup us=>.ok (.tup (qc us lo hi))
 |_=>.stk
noncomputable def Od:U->Option Int->Option Int->R U:=λu lo hi=>match u with
 | .lst us=>.ok (.lst (qc us lo hi))
 | .scr us=>.ok (.lst (qc us lo hi))
 |_=>.stk
theorem Bi:EI K (Hv K) .O Od:=λA H x u lo hi z Q hx mu e q=>by
 unfold Od at e;split at e
 ·cases e;unfold Pk at hx;obtain⟨a,xs,rfl,h1,l1,r1⟩:=hx;exact⟨a,xs,rfl,f7.of h1,λp hp=>q _ _ (cW hp _) ⟨p,rfl,hp,bJ mu (vZ r1 lo hi) hp (Xz (kz _ _ _) l1)⟩⟩
 ·cases e;unfold Pk at hx;obtain⟨a,xs,rfl,h1,l1,r1⟩:=hx;exact⟨a,xs,rfl,h1.sq,λp hp=>q _ _ (cW hp _) ⟨p,rfl,hp,bJ mu (vZ r1 lo hi) hp (Xz (kz _ _ _) l1)⟩⟩
 ·cases e
theorem Jq (mu:∀a,A a->Mu (H a))(vm:DH K .O A H H' u v):Rp K H' A u v:=by
 obtain⟨a,rfl,na,t⟩:=vm;exact t.rp (λb h=>.inl h) λh=>by have:=mu a h;rw[na] at this;exact this
theorem zQ:EI K (λx lo hi H Q=>Hv K x lo hi H Q\/Eu K x lo hi H Q) .S EO:=λA H x u lo hi z Q hx mu e q=>by
 unfold EO at e;split at e
 ·cases e;exact .inl (Bi A H x _ lo hi _ Q hx mu rfl λv H' sm vm=>q v H' sm (Jq mu vm))
 ·cases e;exact .inl (Bi A H x _ lo hi _ Q hx mu rfl λv H' sm vm=>q v H' sm (Jq mu vm))
 ·cases e;unfold Pk at hx;obtain⟨a,xs,rfl,h1,l1,r1⟩:=hx;refine .inr ⟨a,xs,rfl,h1,λr H' sm hr=>q _ H' sm (show Rp K H' A _ _ from ?_)⟩;unfold Rp;exact⟨r,_,rfl,hr,Xz (kz _ _ _) l1,(vZ r1 lo hi).same sm⟩
 ·cases e
end L2
namespace L2
section
theorem zE.one (h:zE K H A [u] vs):∃v,vs=[v]/\Pk K H A u v:=by
 unfold zE at h;obtain⟨x,r,rfl,p,q⟩:=h;unfold zE at q;subst q;exact⟨x,rfl,p⟩
theorem zE.two {w:U}(h:zE K H A [u,w] vs):∃v v',vs=[v,v']/\Pk K H A u v/\Pk K H A w v':=by
 unfold zE at h;obtain⟨x,r,rfl,p,q⟩:=h;obtain⟨v,rfl,q'⟩:=zE.one q;exact⟨x,v,rfl,p,q'⟩
noncomputable def iq:List U->R U:=λus=>match us with
 | [.lst xs]=>.ok (.int xs.length)
 | [.tup xs]=>.ok (.int xs.length)
 | [.scr xs]=>.ok (.int xs.length)
 | [.str x]=>if x.length<=WE then .ok (.int x.length) else .stk
 |_=>.stk
theorem cy:lK K (λxs H Q=>∃x n,xs=[x]/\NK K x H n/\Q (.int n) H) .S iq:=λA H vs us z Q h mu e q=>by
 unfold iq at e;split at e
 ·rename_i xs;cases e;obtain⟨v,rfl,p⟩:=h.one;unfold Pk at p;obtain⟨a,ys,rfl,h1,l1,r1⟩:=p;exact⟨_,xs.length,rfl,.inl ⟨ys,f7.of h1,r1.length⟩,q _ H (aY.refl _) (show Rp K H A _ _ from eR)⟩
 ·rename_i xs;cases e;obtain⟨v,rfl,p⟩:=h.one;unfold Pk at p;obtain⟨a,ys,rfl,h1,l1,r1⟩:=p;exact⟨_,xs.length,rfl,.inr ⟨ys,gK.of h1,r1.length⟩,q _ H (aY.refl _) (show Rp K H A _ _ from eR)⟩
 ·rename_i xs;cases e;obtain⟨v,rfl,p⟩:=h.one;unfold Pk at p;obtain⟨a,ys,rfl,h1,l1,r1⟩:=p;exact⟨_,xs.length,rfl,.inl ⟨ys,h1.sq,r1.length⟩,q _ H (aY.refl _) (show Rp K H A _ _ from eR)⟩
 ·rename_i x;split at e
  ·rename_i hl;cases e;obtain⟨v,rfl,p⟩:=h.one;have:=p.str;subst this;exact⟨_,x.length,rfl,⟨hl,rfl⟩,q _ H (aY.refl _) (show Rp K H A _ _ from eR)⟩
  ·cases e
 ·cases e
noncomputable def Jr:List U->R U:=λus=>match us with
 | [.lst xs]=>.ok (.lst xs)
 | [.tup xs]=>.ok (.lst xs)
 |_=>.stk
noncomputable def fL:List U->R U:=λus=>match us with
 | [.lst xs]=>.ok (.tup xs)
 | [.tup xs]=>.ok (.tup xs)
 |_=>.stk
theorem eI:lK K (λxs H Q=>∃p ys,xs=[.ref p]/\((f7 K H p ys/\∀l,H l=none->Q (.ref l) (cY H l (.tup ys)))\/(gK K H p ys/\Q (.ref p) H))) .S fL:=λA H vs us z Q h mu e q=>by
 unfold fL at e;split at e
 ·rename_i xs;cases e;obtain⟨v,rfl,p⟩:=h.one;unfold Pk at p;obtain⟨a,ys,rfl,h1,l1,r1⟩:=p;exact⟨a,ys,rfl,.inl ⟨f7.of h1,λl hl=>q _ _ (cW hl _) (uR r1 hl l1)⟩⟩
 ·rename_i xs;cases e;obtain⟨v,rfl,p⟩:=h.one;have p':=p;unfold Pk at p;obtain⟨a,ys,rfl,h1,l1,r1⟩:=p;refine⟨a,ys,rfl,.inr ⟨gK.of h1,q _ H (aY.refl _) (show Rp K H A _ _ from ?_)⟩⟩;unfold Rp;unfold Pk at p';exact p'
 ·cases e
noncomputable def HX:List U->R U:=λus=>match us with
 | [.int i]=>.ok (.int (if i<0 then -i else i))
 |_=>.stk
theorem Bj:lK K (λxs H Q=>∃i,xs=[.int i]/\Q (.int (if i<0 then -i else i)) H) .S HX:=λA H vs us z Q h mu e q=>by
 unfold HX at e;split at e
 ·cases e;obtain⟨v,rfl,p⟩:=h.one;exact⟨_,by rw[p.int],q _ H (aY.refl _) (show Rp K H A _ _ from eR)⟩
 ·cases e
noncomputable def Bk:List U->R U:=λus=>match us with
 | [.int i,.int j]=>.ok (.int (if j>i then j else i))
 |_=>.stk
theorem ER:lK K (λxs H Q=>∃i j,xs=[.int i,.int j]/\Q (.int (if j>i then j else i)) H) .S Bk:=λA H vs us z Q h mu e q=>by
 unfold Bk at e;split at e
 ·cases e;obtain⟨v,w,rfl,p,p'⟩:=h.two;exact⟨_,_,by rw[p.int,p'.int],q _ H (aY.refl _) (show Rp K H A _ _ from eR)⟩
 ·cases e
noncomputable def Bl:List U->R U:=λus=>match us with
 | [.int i,.int j]=>.ok (.int (if j<i then j else i))
 |_=>.stk
theorem ES:lK K (λxs H Q=>∃i j,xs=[.int i,.int j]/\Q (.int (if j<i then j else i)) H) .S Bl:=λA H vs us z Q h mu e q=>by
 unfold Bl at e;split at e
 ·cases e;obtain⟨v,w,rfl,p,p'⟩:=h.two;exact⟨_,_,by rw[p.int,p'.int],q _ H (aY.refl _) (show Rp K H A _ _ from eR)⟩
 ·cases e
noncomputable def je:List U->Option (List Int)
 | []=>some []
 | .int i::us=>(je us).map (i::·)
 |_::_=>none
noncomputable def ET:List U->Option (List Bool)
 | []=>some []
 | .bl i::us=>(ET us).map (i::·)
 |_::_=>none
theorem jf:∀{us:List U} {ns:List Int},je us=some ns->us=ns.map .int
 | [],ns,h=>by unfold je at h;cases h;rfl
 |u::us,ns,h=>by
  cases u<;>unfold je at h<;>try cases h
  rename_i i;cases e:je us with
  |none=>rw[e] at h;cases h
  |some ms=>rw[e] at h;cases h;rw[jf e];rfl
theorem EU (ns:List Int):je (ns.map .int)=some ns:=by
 induction ns with
 |nil=>rfl
 |cons n ns ih=>rw[WQ];unfold je;rw[ih];rfl
theorem aO.toI {H:Hp}{A:WT->Prop}:∀{ns:List Int} {vs:List V},aO K H A (ns.map .int) vs->vs=ns.map V.int
 | [],vs,h=>by rw[Yg] at h;unfold aO at h;exact h
 |n::ns,vs,h=>by
  rw[WQ] at h;unfold aO at h;obtain⟨x,r,rfl,p,q⟩:=h;unfold Rp at p;rw[p,aO.toI q];rfl
theorem m6 {H:Hp}{A:WT->Prop}:∀(ns:List Int),aO K H A (ns.map .int) (ns.map V.int)
 | []=>aO.nil
 |n::ns=>aO.cons eR (m6 ns)
noncomputable def UT:List U->R U:=λus=>match us with
 | [.lst xs]=>match ET xs with
  |some bs=>.ok (.bl (bs.all id))
  |none=>.stk
 |_=>.stk
noncomputable def CI (x:Int):List Int->List Int
 | []=>[x]
 |y::r=>if y<x then y::CI x r else x::y::r
noncomputable def uW (ns:List Int):List Int:=ns.foldr CI []
theorem oz (x:Int):∀l,(CI x l).Perm (x::l)
 | []=>.refl _
 |y::r=>by
  unfold CI;split
  ·exact ((oz x r).cons y).trans (.swap x y r)
  ·exact .refl _
theorem mj:∀ns:List Int,(uW ns).Perm ns
 | []=>.refl _
 |x::l=>(oz x _).trans ((mj l).cons x)
theorem Bm (x:Int):∀{l:List Int},l.Pairwise (·<=·)->(CI x l).Pairwise (·<=·)
 | [],_=>XB _ _
 |y::r,h=>by
  obtain⟨h1,h2⟩:=Xs.mp h;unfold CI;split
  ·refine Xs.mpr ⟨λz hz=>?_,Bm x h2⟩;rcases WK.mp ((oz x r).mem_iff.mp hz) with rfl|hz
   ·lia
   ·exact h1 z hz
  ·refine Xs.mpr ⟨λz hz=>?_,h⟩;rcases WK.mp hz with rfl|hz
   ·lia
   ·have:=h1 z hz;lia
theorem xU:∀ns:List Int,(uW ns).Pairwise (·<=·)
 | []=>List.Pairwise.nil
 |x::l=>Bm x (xU l)
noncomputable def zS:List U->R U:=λus=>match us with
 | [.lst xs]=>match je xs with
  |some ns=>if ns.length<64 then .ok (.lst ((uW ns).map .int)) else .stk
  |none=>.stk
 | [.tup xs]=>match je xs with
  |some ns=>if ns.length<64 then .ok (.lst ((uW ns).map .int)) else .stk
  |none=>.stk
 |_=>.stk
theorem CJ:lK K (λxs H Q=>∃(p:WT) (ns:List Int),xs=[.ref p]/\(f7 K H p (ns.map V.int)\/gK K H p (ns.map V.int))/\ns.length<64/\
  ∀(l:WT) (oV:List Int),H l=none->oV.Perm ns->oV.Pairwise (·<=·)->Q (.ref l) (cY H l (.lst (oV.map V.int)))) .O zS:=λA H vs us z Q h mu e q=>by
 have fin:∀(ns:List Int),ns.length<64->z=.lst ((uW ns).map .int)->∀(l:WT) (oV:List Int),H l=none->oV.Perm ns->oV.Pairwise (·<=·)->Q (.ref l) (cY H l (.lst (oV.map V.int))):=λns hl hz l oV hn hp hw=>by
  have e:oV=uW ns:=PySem.W.ksm_same (hp.trans (mj ns).symm) hw (xU ns);subst e hz;refine q _ _ (cW hn _) ⟨l,rfl,hn,bJ mu (m6 _) hn ?_⟩;have:WE=16777216:=rfl;rw[WC,(mj ns).length_eq];lia
 unfold zS at e;split at e
 ·rename_i xs;split at e
  ·rename_i ns hb;split at e
   ·rename_i hl;cases e;obtain⟨v,rfl,p⟩:=h.one;unfold Pk at p;obtain⟨a,ys,rfl,h1,l1,r1⟩:=p;rw[jf hb] at r1;rw[r1.toI] at h1;exact⟨a,ns,rfl,.inl (f7.of h1),hl,fin ns hl rfl⟩
   ·cases e
  ·cases e
 ·rename_i xs;split at e
  ·rename_i ns hb;split at e
   ·rename_i hl;cases e;obtain⟨v,rfl,p⟩:=h.one;unfold Pk at p;obtain⟨a,ys,rfl,h1,l1,r1⟩:=p;rw[jf hb] at r1;rw[r1.toI] at h1;exact⟨a,ns,rfl,.inr (gK.of h1),hl,fin ns hl rfl⟩
   ·cases e
  ·cases e
 ·cases e
noncomputable def UU (ks:List U):String:=match ks with
 | .tup _::_=>"script"
 |_=>"dict"
noncomputable def QH:U->String
 | .non=>"NoneType"
 | .bl _=>"bool"
 | .int _=>"int"
 | .str _=>"str"
 | .tup _=>"tuple"
 | .lst _=>"list"
 | .dct ks _=>UU ks
 | .scr _=>"script"
variable {e:Yv}{p1 p2:Pos}{b1:Bool}{m1:Md}{g1:Ev->R (U×Ev)}
noncomputable def Oe (T:String)(g:Ev->R (U×Ev)):Ev->R (U×Ev):=λρ=>(g ρ).bind λx=>if QH x.1="script" then .stk else .ok (.bl (jb (QH x.1) T),x.2)
noncomputable def zT (i j:Int):Bool:=decide (-1000000<=i)&&decide (i<=1000000)&&decide (-1000000<=j)&&decide (j<=1000000)
noncomputable def o8 (g:Ev->R (List U×Ev)):Ev->R (U×Ev):=λρ=>(g ρ).bind λx=>match x.1 with
 | [.int j]=>if zT 0 j=true then .ok (.lst (cu 0 (j-0).toNat),x.2) else .stk
 |_=>.stk
noncomputable def Of (g:Ev->R (List U×Ev)):Ev->R (U×Ev):=λρ=>(g ρ).bind λx=>match x.1 with
 | [.int j]=>if zT 0 j=true then .ok (.tup (cu 0 (j-0).toNat),x.2) else .stk
 |_=>.stk
theorem CK (lo:Int)(n:Nat):aO K H A (cu lo n) ((Wu n).map λi=>V.int (lo+(i:Nat))):=by
 unfold cu;have e1:(Wu n).map (λi=>U.int (lo+(i:Nat)))=((Wu n).map λi=>lo+(i:Nat)).map U.int:=by rw[Ys];rfl
 have e2:(Wu n).map (λi=>V.int (lo+(i:Nat)))=((Wu n).map λi=>lo+(i:Nat)).map V.int:=by rw[Ys];rfl
 rw[e1,e2];exact m6 _
theorem gm (lo:Int)(n:Nat):(cu lo n).length=n:=by unfold cu;rw[WC,X6]
variable {ga:Ev->R (List U×Ev)}{a:Yv}{p3 p4:Pos}
theorem lr (hc:X.calm=true)(ha:DA X G [a] b1 false ga)(zl:X.mg "list"=none)(zr:X.mg "range"=none)(hg:Gl X "list":=by rfl)(Qo:Gl X "range":=by rfl)
  (hs:WY [.Call (.Name "range" p3) [a] [] p4] X.env=(false,Z0 (.Call (.Name "range" p3) [a] [] p4) X.env)::WY [] X.env:=by rfl) (cH:WY [a] X.env=(false,Z0 a X.env)::WY [] X.env:=by rfl)
  (t9:(Zc pos (WY [] X.env)).any (·.1)=false:=by rfl) (GU:(Zc p4 (WY [] X.env)).any (·.1)=false:=by rfl):DE X G (.Call (.Name "list" p1) [.Call (.Name "range" p3) [a] [] p4] [] pos) b1 .O (o8 ga):=⟨(jz (uh hc) hg zl HB (mL (jz xD Qo zr Er ha.un (by decide) (by decide) cH GU) qO hs) (by decide) (by decide) hs t9).to λσ H Q h=>by
 obtain⟨Z,A,ρ,q,f⟩:=h;obtain⟨⟨us,ρ1⟩,e1,f⟩:=f.bind;refine⟨Z,A,ρ,q,?_⟩;rw[e1];intro vs H1 q1 x1 s1 vm;dsimp only at f;split at f
 ·rename_i j;split at f
  ·rename_i hj;have r:=vm.rps;unfold aO at r;obtain⟨v,vr,rfl,r1,r2⟩:=r;unfold aO at r2;subst r2;unfold Rp at r1;subst r1;unfold zT at hj;simp only[WX,decide_eq_true_eq] at hj;refine⟨j,rfl,λp hp=>⟨p,0,j,rfl,bT,by lia,by lia,λl hl=>?_⟩⟩;have sp:=cW hp (.rng 0 j);have sl:=cW hl (.lst ((Wu (j-0).toNat).map λi=>V.int (0+(i:Nat))));exact f _ _ ((q1.same sp).same sl) (x1.trans (fh.same (sp.trans sl))) (p_ s1 (sp.trans sl)) (DH.e (q1.same sp) sl ⟨l,rfl,hl,bJ (q1.same sp).mu (CK 0 _) hl (by rw[gm];have:WE=16777216:=rfl;lia)⟩)
  ·exact f.elim
 ·exact f.elim⟩
noncomputable def jg:U->List U->R (U×U):=λu us=>match u,us with
 | .lst xs,[y]=>if xs.length<WE then .ok (.non,.lst (xs++[y])) else .stk
 |_,_=>.stk
theorem oA {a:WT}(o:HO):∀b u,b≠a->H b=some u->cY H a o b=some u:=λb u nb z=>by rw[bo nb];exact z
theorem qz {a:WT}(mu:∀a,A a->Mu (H a))(ha:A a)(r:aO K H A us xs)(l:us.length<=WE):kr K (cY H a (.lst xs)) A (.lst us) a:=
 ⟨xs,bT,l,r.re mu (λb o nb z=>oA _ b o (λy=>nb (y▸ha)) z) λb z=>.inl z⟩
theorem rR:EG K "list" A6 jg:=λA H a u vs us z w Q t ha r mu e q=>by
 unfold jg at e;split at e
 ·rename_i xs y;split at e
  ·rename_i hl;cases e;obtain⟨ys,h1,l1,r1⟩:=t;unfold aO at r;obtain⟨v,vr,rfl,p,r2⟩:=r;unfold aO at r2;subst r2;exact⟨a,ys,v,rfl,rfl,h1,by rw[←r1.length];exact hl,q _ _ (oA _) (qz mu ha (r1.append (aO.cons p aO.nil)) (by rw[WG];exact hl)) rD⟩
  ·cases e
 ·cases e
def xV:V->List V->Hp->VK->Prop:=λx vs H Q=>∃l b xs zs,x=.ref l/\vs=[.ref b]/\H l=some (.lst xs)/\H b=some (.lst zs)/\xs.length+zs.length<=WE/\Q .non (cY H l (.lst (xs++zs)))
theorem zU:Jj X "list.extend" xV:=by
 intro pins s σ H x vs v us Q I rx rv h;obtain⟨l,b,xs,zs,rfl,rfl,hH,hB,hz,q⟩:=h;cases rx;obtain⟨u,rfl,ru⟩:=rv.one;cases ru;obtain⟨z,its,n,r,hl,e⟩:=I.lstM hH;obtain⟨z2,its2,n2,r2,MW,e2⟩:=I.lstM hB;have hsz:its.toArray.size+its2.toArray.size<=WE:=by rw[Wy,Wy];lia
 have GR:¬(!its.toArray.isEmpty&&Zj (its.toArray.size+its2.toArray.size))=true:=by
  rw[qU hsz,aaM];exact WA
 refine abO F.slot_list_extend ⟨_,e,rfl⟩ F.entry_list_extend (F.args_list_extend_2 _ _)
  (PySem.AutoSeq1.list_extend_list_list_0 l its.toArray n b its2.toArray n2 GR (by rw[Wy];lia) (by lia)) ⟨e,e2,?_⟩
 refine⟨.non,_,I.lset (its':=its++its2) hH e (by simp) (r.append r2) ?_,rfl,q⟩;rw[WG];lia
def Js:V->List V->Hp->VK->Prop:=λx vs H Q=>xV x vs H Q\/xE x vs H Q
theorem qA:Jj X "list.extend" Js:=zU.or zz
noncomputable def lu:U->List U->R (U×U):=λu us=>match u,us with
 | .lst xs,[.lst ys]=>if xs.length+ys.length<=WE then .ok (.non,.lst (xs++ys)) else .stk
 | .lst xs,[.tup ys]=>if xs.length+ys.length<=WE then .ok (.non,.lst (xs++ys)) else .stk
 |_,_=>.stk
theorem jU:EG K "list" Js lu:=λA H a u vs us z w Q t ha r mu e q=>by
 unfold lu at e;split at e
 ·rename_i xs ys;split at e
  ·rename_i hl;cases e;obtain⟨zs,h1,l1,r1⟩:=t;unfold aO at r;obtain⟨v,vr,rfl,p,r2⟩:=r;unfold aO at r2;subst r2;unfold Rp at p;obtain⟨b,ws,rfl,nb,h2,l2,r3⟩:=p;exact .inl ⟨a,b,zs,ws,rfl,rfl,h1,h2,by rw[←r1.length,←r3.length];exact hl,q _ _ (oA _) (qz mu ha (r1.append r3) (by rw[WG];exact hl)) rD⟩
  ·cases e
 ·rename_i xs ys;split at e
  ·rename_i hl;cases e;obtain⟨zs,h1,l1,r1⟩:=t;unfold aO at r;obtain⟨v,vr,rfl,p,r2⟩:=r;unfold aO at r2;subst r2;unfold Rp at p;obtain⟨b,ws,rfl,h2,l2,r3⟩:=p;exact .inr ⟨a,b,zs,ws,rfl,rfl,h1,h2,by rw[←r1.length,←r3.length];exact hl,q _ _ (oA _) (qz mu ha (r1.append r3) (by rw[WG];exact hl)) rD⟩
  ·cases e
 ·cases e
noncomputable def oB:U->List U->R (U×U):=λu us=>match u,us with
 | .lst xs,[.int i]=>if -9223372036854775808<=i/\i<9223372036854775808 then (match abN i xs.length with
  |some k=>match xs[k]? with
   |some y=>.ok (y,.lst (xs.eraseIdx k))
   |none=>.stk
  |none=>.stk) else .stk
 |_,_=>.stk
theorem aO.erase {H:Hp}{A:WT->Prop}:∀{us:List U} {vs:List V} (n:Nat),aO K H A us vs->aO K H A (us.eraseIdx n) (vs.eraseIdx n)
 | [],vs,n,h=>by unfold aO at h;subst h;exact aO.nil
 |u::us,vs,0,h=>by
  unfold aO at h;obtain⟨x,r,rfl,p,q⟩:=h;exact q
 |u::us,vs,n+1,h=>by
  unfold aO at h;obtain⟨x,r,rfl,p,q⟩:=h;exact aO.cons p (aO.erase n q)
theorem CL:EG K "list" Ee oB:=λA H a u vs us z w Q t ha r mu e q=>by
 unfold oB at e;split at e
 ·rename_i xs i;split at e
  ·rename_i hi;split at e
   ·rename_i k hk;split at e
    ·rename_i y hy;cases e;obtain⟨zs,h1,l1,r1⟩:=t;unfold aO at r;obtain⟨v,vr,rfl,p,r2⟩:=r;unfold aO at r2;subst r2;unfold Rp at p;subst p;obtain⟨v,h2,h3⟩:=r1.get hy;exact⟨a,zs,i,k,v,rfl,rfl,h1,by have:=hi.1;lia,by have:=hi.2;lia,by rw[←r1.length];exact hk,h2,q _ _ (oA _) (qz mu ha (r1.erase k) (Xz (List.length_eraseIdx_le _ _) l1)) (h3.re mu (λb o nb z=>oA _ b o (λy=>nb (y▸ha)) z) λb z=>.inl z)⟩
    ·cases e
   ·cases e
  ·cases e
 ·cases e
end
end L2
namespace L2
section
variable {m:Md}
theorem zV:fG K (zo λi j=>.bl (decide (i<j))) .S Ob:=Bg
theorem rS:fG K (zo λi j=>.bl (decide (i<=j))) .S LN:=Bg
theorem zW:fG K (zo λi j=>.bl (decide (j<i))) .S Oc:=Bg
theorem LO:fG K (zo λi j=>.bl (decide (j<=i))) .S RJ:=Bg
theorem v7 {Qp:List aak}:zJ X G m Qp (λ_=>.stk):=⟨λpins s σ H D I h=>by
 obtain⟨Z,A,ρ,q,f⟩:=h;exact f.elim⟩
noncomputable def QI:Ev->R (U×Ev):=λρ=>.ok (.dct [] [],ρ)
theorem EV:DE X G (.Dict [] [] pos) false .O QI:=⟨xA.to λσ H Q h=>by
 obtain⟨Z,A,ρ,q,f⟩:=h;intro a na;have sn:=cW na (.dK []);exact f _ _ (q.same sn) (fh.same sn) (λ_=>⟨rfl,sn⟩) (DH.e q sn ⟨a,rfl,na,[],.inl ⟨[],bT,rfl,rfl⟩,XU _,aO.nil⟩)⟩
end
end L2
namespace L2
def Og (H:Hp)(a:WT)(y:V)(o:Option V):Prop:=Ln H a y o\/∃es k b,fF H a es/\y=.ref b/\zC H k b/\o=g8 es k
def Oh (H:Hp)(a:WT):Prop:=TR H a\/∃es,fF H a es
section
variable {d:V}{u r:WB}{o:Option V}{A:Xh}
theorem EW (I:aN X pins σ H s)(g:Og H a y o):s.TypeIs (.ref a) "dict":=by
 rcases g with g|⟨es,k,b,g,_⟩
 ·exact xy I g
 ·exact g.typeIs I
theorem Oi (I:aN X pins σ H s)(d:Oh H a):s.TypeIs (.ref a) "dict"/\(∀b,Value.ref a=.ref b->∃ob,s.heap.get? b=some ob/\ob.dict=none):=by
 rcases d with d|⟨es,d⟩
 ·obtain⟨x,y,_⟩:=Lq I d;exact⟨x,y⟩
 ·exact⟨d.typeIs I,d.noDict I⟩
theorem CM (hu:A.units+64<Yy)(I:aN X pins σ H s)(g:Og H a y (some v))(ry:bu y u)(h:∀w' s',aN X pins σ H s'->bu v w'->Q w' s') :
  WU (W7 X.prog X.w) A (aa8 (.ref a) u) Q E s:=by
 rcases g with g|⟨es,k,b,g,rfl,kb,e⟩
 ·exact CA (by lia) I g ry h
 ·cases ry;exact CC hu I g kb e.symm h
end
def Oj (td ty:TE):TE:=λσ H Q=>td σ H λx H1=>ty σ H1 λy H2=>∃a v,x=.ref a/\Og H2 a y (some v)/\Q v H2
section
variable {o i e f value:Yv}{lT gR cpos:Pos}{td ty tv tx:TE}
theorem HY (hu:X.A.units+64<Yy)(ho:PE X o td)(hi:PE X i ty)(hs:Lo i):PE X (.Subscript o i pos) (Oj td ty):=by
 intro pins s σ H Q I h;refine Hz PySem.F.slot_dict_getitem.lookup hs (eE (ho pins s σ H _ I h) λu s1 ⟨x,H1,I1,rx,q1⟩=>eE (hi pins s1 σ H1 _ I1 q1) λiv s2 ⟨y,H2,I2,ry,a,v,ex,g,q2⟩=>?_);subst ex;obtain rfl:u=Value.ref a:=rx;exact⟨EW I2 g,CM hu I2 g ry λw' s3 I3 AN=>⟨v,H2,I3,AN,q2⟩⟩
end
noncomputable def EX:U->Bool
 | .int _=>true
 | .str _=>true
 |_=>false
mutual
noncomputable def uj:U->Bool
 | .int _=>true
 | .tup us=>v8 us
 |_=>false
noncomputable def v8:List U->Bool
 | []=>true
 |u::us=>uj u&&v8 us
end
noncomputable def CN:U->Bool
 | .tup us=>v8 us&&decide (rk us<=6)
 |_=>false
noncomputable def EY:U->Bool
 | .tup _=>true
 |_=>false
noncomputable def zX (ks:List U)(k:U):Bool:=(EX k&&ks.all EX)||(CN k&&ks.all EY)
noncomputable def fx:List U->List U->U->Option U
 |k'::ks,u::us,k=>if k'=k then some u else fx ks us k
 |_,_,_=>none
noncomputable def j5 (ks us:List U)(k v:U):List U:=if k∈ks then aaf (λk' u=>if k'=k then v else u) ks us else us++[v]
noncomputable def kA (ks:List U)(k:U):List U:=if k∈ks then ks else ks++[k]
mutual
theorem Ol:∀{u:U} {v:V},uj u=true->Rp K H A u v->KH H u v
 | .int i,v,_,h=>by unfold Rp at h;unfold KH;exact h
 | .tup us,v,k,h=>by
  unfold uj at k;unfold Rp at h;unfold KH;obtain⟨a,xs,r,q,l,z⟩:=h;exact⟨a,xs,r,q,l,zY k z⟩
 | .non,v,k,h=>by unfold uj at k;cases k
 | .bl _,v,k,h=>by unfold uj at k;cases k
 | .str _,v,k,h=>by unfold uj at k;cases k
 | .lst _,v,k,h=>by unfold uj at k;cases k
 | .dct _ _,v,k,h=>by unfold uj at k;cases k
 | .scr _,v,k,h=>by unfold uj at k;cases k
theorem zY:∀{us:List U} {vs:List V},v8 us=true->aO K H A us vs->rq H us vs
 | [],vs,_,h=>by unfold aO at h;unfold rq;exact h
 |u::us,vs,k,h=>by
  unfold v8 at k;rw[WX] at k;unfold aO at h;unfold rq;obtain⟨x,r,q,p,z⟩:=h;exact⟨x,r,q,Ol k.1 p,zY k.2 z⟩
end
theorem EZ (k:CN (.tup us)=true)(h:Rp K H A (.tup us) v):∃b,v=.ref b/\zC H us b:=by
 unfold CN at k;rw[WX] at k;unfold Rp at h;obtain⟨a,xs,r,q,l,z⟩:=h;exact⟨a,r,of_decide_eq_true k.2,xs,q,l,zY k.1 z⟩
theorem Om (k:EX u=true)(h:Rp K H A u v):∃q:j2,u=kU q/\v=kV q:=by
 cases u<;>first|(cases k;done)|skip
 ·unfold Rp at h;exact⟨.inl _,rfl,h⟩
 ·unfold Rp at h;exact⟨.inr _,rfl,h⟩
theorem LP {a b:j2}(h:kU a=kU b):a=b:=by
 cases a<;>cases b<;>unfold kU at h<;>first|(cases h;rfl)|cases h
theorem zZ {k:j2}:∀{cC:List (j2×V)} {us:List U},aO K H A us (cC.map (·.2))->(∀u,fx (cC.map λp=>kU p.1) us (kU k)=some u->∃v,qV cC k=some v/\Rp K H A u v)/\(fx (cC.map λp=>kU p.1) us (kU k)=none->qV cC k=none)
 | [],us,r=>⟨(λu h=>by unfold fx at h;cases h),λ_=>rfl⟩
 |p::cC,us,r=>by
  cases us with
  |nil=>unfold aO at r;cases r
  |cons u us=>
   unfold aO at r;obtain⟨x,rr,e,h1,h2⟩:=r;cases e;rw[WQ];unfold fx;by_cases c:p.1=k
   ·rw[hV (by rw[c]),qW c];exact⟨λw h=>by cases h;exact⟨_,rfl,h1⟩,λh=>by cases h⟩
   ·rw[hU (λz=>c (LP z)),qX c];exact zZ h2
theorem z9 {k:List U}:∀{es:List (List U×WT×V)} {us:List U},aO K H A us (es.map (·.2.2))->(∀u,fx (es.map λp=>.tup p.1) us (.tup k)=some u->∃v,g8 es k=some v/\Rp K H A u v)/\(fx (es.map λp=>.tup p.1) us (.tup k)=none->g8 es k=none)
 | [],us,r=>⟨(λu h=>by unfold fx at h;cases h),λ_=>rfl⟩
 |p::es,us,r=>by
  cases us with
  |nil=>unfold aO at r;cases r
  |cons u us=>
   unfold aO at r;obtain⟨x,rr,e,h1,h2⟩:=r;cases e;rw[WQ];unfold fx g8;rw[X8];by_cases c:p.1=k
   ·rw[hV (by rw[c]),hG c];exact⟨λw h=>by cases h;exact⟨_,rfl,h1⟩,λh=>by cases h⟩
   ·rw[hU (λz=>c (mP.mp z)),hJ c];exact z9 h2
theorem LQ {k:U}(d:CD H a ks xs)(r:aO K H A us xs)(f:zX ks k=true)(hk:Rp K H A k y) :
  ∃o,Og H a y o/\(∀u,fx ks us k=some u->∃v,o=some v/\Rp K H A u v)/\(fx ks us k=none->o=none):=by
 unfold zX at f;rw[aat,WX,WX] at f;rcases d with⟨cC,h,e1,e2⟩|⟨es,n,h,e1,e2⟩
 ·rcases f with⟨f1,f2⟩|⟨f1,f2⟩
  ·obtain⟨q,rfl,rfl⟩:=Om f1 hk;subst e1 e2;exact⟨_,.inl (.inl ⟨cC,q,.inl h,rfl,rfl⟩),(zZ r).1,(zZ r).2⟩
  ·cases cC with
   |nil=>
    subst e1 e2;cases k<;>first|(cases f1;done)|skip
    rename_i kk;obtain⟨b,rfl,kt⟩:=EZ f1 hk;exact⟨none,.inr ⟨[],kk,b,⟨.inr ⟨rfl,h⟩,aaN,(λe he=>by cases he)⟩,rfl,kt,rfl⟩,(λu z=>by unfold fx at z;cases z),λ_=>rfl⟩
   |cons p cC=>
    exfalso;subst e1;rw[WQ,aaq,WX] at f2;obtain⟨p1,p2⟩:=p;cases p1<;>cases f2.1
 ·rcases f with⟨f1,f2⟩|⟨f1,f2⟩
  ·exfalso;subst e1;cases es with
   |nil=>exact n rfl
   |cons p es=>rw[WQ,aaq,WX] at f2;cases f2.1
  ·subst e1 e2;cases k<;>first|(cases f1;done)|skip
   rename_i kk;obtain⟨b,rfl,kt⟩:=EZ f1 hk;exact⟨_,.inr ⟨es,kk,b,h,rfl,kt,rfl⟩,(z9 r).1,(z9 r).2⟩
end L2
namespace L2
theorem aO.snoc (h:aO K H A us vs)(p:Rp K H A u v):aO K H A (us++[u]) (vs++[v]):=h.append (aO.cons p aO.nil)
section
variable {o i e f value:Yv}{lT gR cpos p1 p2:Pos}{b1 b2 b3:Bool}{m m1 m2 m3:Md}{g1 g2 g3:Ev->R (U×Ev)}{y:Str}
noncomputable def jV:U->U->R U:=λu w=>match u with
 | .dct ks us=>if zX ks w=true then (match fx ks us w with
  |some z=>.ok z
  |none=>.stk) else .stk
 |_=>.stk
theorem Oo (h:Pk K H A u v)(c:EX u=true\/EY u=true):Rp K H A u v:=by
 cases u<;>first|(exfalso;rcases c with c|c<;>cases c;done)|(unfold Pk at h;unfold Rp;exact h)
theorem HZ {k:U}(f:zX ks k=true):EX k=true\/EY k=true:=by
 unfold zX at f;rw[aat,WX,WX] at f;rcases f with⟨f,_⟩|⟨f,_⟩
 ·exact .inl f
 ·cases k<;>first|(cases f;done)|exact .inr rfl
theorem z_ (hu:X.A.units+64<Yy)(ha:DE X G o b1 m1 g1)(hb:DE X G i b2 m2 g2)(hs:Lo i:=by intro _ _;rfl)(hm:m1=.P->b2=false:=by first|exact λ_=>rfl|exact λh=>nomatch h):DE X G (.Subscript o i pos) (b1||b2) .S (aJ jV g1 g2):=⟨(HY hu ha.un hb.un hs).to λσ H Q h=>by
 have hp:fG X.K (λx y H Q=>∃a v,x=.ref a/\Og H a y (some v)/\Q v H) .S jV:=λA H x y u w z Q hx hy mu e q=>by
  unfold jV at e;split at e;rotate_left
  ·cases e
  split at e
  ·rename_i fk;split at e
   ·rename_i z' hz;cases e;unfold Pk at hx;obtain⟨a,xs,rfl,d,l,r⟩:=hx;obtain⟨ov,g,q1,_⟩:=LQ d r fk (Oo hy (HZ fk));obtain⟨v,rfl,rp⟩:=q1 _ hz;exact⟨a,v,rfl,g,q v H (aY.refl _) rp⟩
   ·cases e
  ·cases e
 exact mQ hp hm h⟩
end
end L2
namespace Hc.Sx
open PySem.SetTable
noncomputable def ij:Nat->Nat
 |0=>0
 |n+1=>5*ij n+1
theorem Bn (n:Nat):5 ^ n=4*ij n+1:=by
 induction n with
 |zero=>rfl
 |succ n ih=>rw[Y3,ih];show _=4*(5*ij n+1)+1;lia
theorem H9 (m n:Nat):ij (m+n)=5 ^ n*ij m+ij n:=by
 induction n with
 |zero=>simp[ij]
 |succ n ih=>
  show 5*ij (m+n)+1=5 ^ (n+1)*ij m+(5*ij n+1);rw[ih,Y3,YM (5 ^ n) 5,Nat.mul_add,Yk];lia
theorem H_ (n:Nat):ij n % 2=n % 2:=by
 induction n with
 |zero=>rfl
 |succ n ih=>unfold ij;lia
theorem Ia (d:Nat):ij (d+d)=ij d*(2*(2*ij d+1)):=by
 rw[H9,Bn];have:ij d*(2*(2*ij d+1))=4*(ij d*ij d)+2*ij d:=by
  rw[←Yk,Nat.mul_add,YM (ij d) 2,Nat.mul_one];have:2*ij d*(2*ij d)=4*(ij d*ij d):=by
   rw[Yk,aaD (ij d) 2,←Yk]
  rw[this]
 rw[this,Nat.add_mul,Yk];lia
theorem cop (k q:Nat):Nat.Coprime (2 ^ k) (2*q+1):=by
 refine Nat.Coprime.pow_left k ?_;unfold Nat.Coprime;rw[Nat.gcd_rec,show (2*q+1) % 2=1 by lia];rfl
theorem Bo:∀(k d:Nat),2 ^ k ∣ ij d->2 ^ k ∣ d
 |0,d,_=>⟨d,by simp⟩
 |k+1,d,h=>by
  have e:d % 2=0:=by
   rw[←H_];obtain⟨c,hc⟩:=h;rw[hc,Y3,Yk,aaD];lia
  obtain⟨d',rfl⟩:∃d',d=d'+d':=⟨d / 2,by lia⟩;rw[Ia,Y3,YM (2 ^ k) 2,aaD (ij d') 2] at h;have h1:2 ^ k ∣ ij d'*(2*ij d'+1):=Nat.dvd_of_mul_dvd_mul_left (by decide) h;have h2:2 ^ k ∣ ij d':=aay (cop k _) h1;obtain⟨c,hc⟩:=Bo k d' h2;exact⟨c,by rw[Y3,Yk,aaD,←hc];lia⟩
noncomputable def uk (M x:Nat):Nat->Nat
 |0=>x
 |n+1=>(uk M x n*5+1) % M
theorem Bp (M x:Nat):∀n,uk M x n % M=(5 ^ n*x+ij n) % M
 |0=>by simp[uk,ij]
 |n+1=>by
  unfold uk ij;rw[Nat.mod_mod,Y3,YM (5 ^ n) 5,Yk];have:=Bp M x n;rw[Nat.add_mod,Nat.mul_mod,this,←Nat.mul_mod,←Nat.add_mod];congr 1;rw[YM _ 5,Nat.mul_add];lia
theorem v9 (M x m:Nat):∀n,uk M x (m+n)=uk M (uk M x m) n
 |0=>rfl
 |n+1=>by
  show (uk M x (m+n)*5+1) % M=_;rw[v9 M x m n];rfl
theorem E1 {M x:Nat}(h:x<M):∀n,uk M x n<M
 |0=>h
 |n+1=>ZV _ (by lia)
theorem E2 {x d:Nat}(hx:x<2 ^ k)(h:uk (2 ^ k) x d=x):2 ^ k ∣ d:=by
 have e:=Bp (2 ^ k) x d;rw[h,Bn,Nat.add_mul,Nat.one_mul] at e;have h2:2 ^ k ∣ ij d*(2*(2*x)+1):=by
  have:ij d*(2*(2*x)+1)=4*ij d*x+ij d:=by
   rw[Nat.mul_add,Nat.mul_one,←Yk,←Yk,Yk (ij d) 2 2,YM (ij d)]
  rw[this];have e2:(x+(4*ij d*x+ij d)) % 2 ^ k=x % 2 ^ k:=by rw[e];congr 1;lia
  have e3:((4*ij d*x+ij d)) % 2 ^ k=0:=by
   have:=(Nat.mod_eq_mod_iff (x:=x+(4*ij d*x+ij d)) (y:=x) (z:=2 ^ k)).mp e2;obtain⟨a,b,vJ⟩:=this;have:4*ij d*x+ij d+2 ^ k*a=2 ^ k*b:=by rw[YM _ a,YM _ b];lia
   have h3:2 ^ k ∣ 4*ij d*x+ij d:=(Nat.dvd_add_right (Nat.dvd_mul_right (2 ^ k) a)).mp (by rw[Nat.add_comm,this];exact Nat.dvd_mul_right _ _);exact Nat.mod_eq_zero_of_dvd h3
  exact Nat.dvd_of_mod_eq_zero e3
 exact Bo k d (aay (cop k _) h2)
theorem Ib {x a b:Nat}(hx:x<2 ^ k)(ha:a<2 ^ k)(hb:b<2 ^ k)(h:uk (2 ^ k) x a=uk (2 ^ k) x b):a=b:=by
 have key:∀a b,a<=b->b<2 ^ k->uk (2 ^ k) x a=uk (2 ^ k) x b->a=b:=λa b vJ hb h=>by
  obtain⟨d,rfl⟩:∃d,b=a+d:=⟨b-a,by lia⟩;rw[v9] at h;have:=E2 (E1 hx a) h.symm;have:d=0:=Nat.eq_zero_of_dvd_of_lt this (by lia);lia
 rcases Nat.le_total a b with z|z
 ·exact key a b z hb h
 ·exact (key b a z ha h.symm).symm
theorem Ic {x y:Nat}(hx:x<2 ^ k)(hy:y<2 ^ k):∃n,n<2 ^ k/\uk (2 ^ k) x n=y:=by
 refine Y_ λhn=>?_;have nd:((Wu (2 ^ k)).map (uk (2 ^ k) x)).Nodup:=by
  unfold List.Nodup;rw[YA];refine Zl (λ{a b} ha hb vJ e=>?_) Z8;exact vJ (Ib hx (Xb.mp ha) (Xb.mp hb) e)
 have:=Zq (l₁:=y::(Wu (2 ^ k)).map (uk (2 ^ k) x)) (l₂:=Wu (2 ^ k))
  (XO.mpr ⟨λh=>by
   obtain⟨n,h1,h2⟩:=Xp.mp h;exact hn ⟨n,Xb.mp h1,h2⟩,nd⟩)
  (λz hz=>by
   rcases WK.mp hz with e|hz
   ·rw[e];exact Xb.mpr hy
   ·obtain⟨n,_,rfl⟩:=Xp.mp hz;exact Xb.mpr (E1 hx n))
 rw[Ww,WC,X6] at this;lia
noncomputable def fM (mask:Nat):Nat->Nat×Nat->Nat×Nat
 |0,p=>p
 |n+1,p=>fM mask n (leap mask p.1 p.2)
theorem uX (mask m n:Nat)(p:Nat×Nat):fM mask (m+n) p=fM mask n (fM mask m p):=by
 induction m generalizing p with
 |zero=>rw[Y2];rfl
 |succ m ih=>rw[Nat.succ_add];exact ih _
theorem uY (mask:Nat):∀(n i q:Nat),(fM mask n (i,q)).2=q / 32 ^ n
 |0,i,q=>by simp[fM]
 |n+1,i,q=>by
  show (fM mask n (leap mask i q)).2=_;unfold leap;rw[uY,Nat.div_div_eq_div_mul,Y3,YM 32]
theorem xW (mask:Nat):∀(n i q:Nat),i<=mask->(fM mask n (i,q)).1<=mask
 |0,i,q,h=>h
 |n+1,i,q,h=>xW mask n _ _ (YS (ZV _ (ZG _)))
theorem rT (mask:Nat):∀(n i:Nat),fM mask n (i,0)=(uk (mask+1) i n,0)
 |0,i=>rfl
 |n+1,i=>by
  rw[Nat.add_comm n 1,uX];show fM mask n (leap mask i 0)=_;rw[show leap mask i 0=(uk (mask+1) i 1,0) by unfold leap uk uk;simp,rT,v9]
theorem uZ (hm:mask+1=2 ^ k){q y:Nat}(hi:i<=mask)(hq:q<2 ^ 64)(hy:y<=mask):∃n,n<mask+14/\(fM mask n (i,q)).1=y:=by
 have z:(fM mask 13 (i,q)).2=0:=by
  rw[uY];exact Nat.div_eq_of_lt (Nat.lt_trans hq (by decide))
 have e:fM mask 13 (i,q)=((fM mask 13 (i,q)).1,0):=by rw[←z]
 obtain⟨n,h1,h2⟩:=Ic (k:=k) (x:=(fM mask 13 (i,q)).1) (y:=y) (by rw[←hm];exact Nat.lt_succ_of_le (xW mask 13 i q hi)) (by lia);refine⟨13+n,by lia,?_⟩;rw[uX,e,rT,hm];exact h2
end Hc.Sx
namespace Hc.Sx
open PySem.SetTable
def Oq (xs:Array Nat):Prop:=∀i j (hi:i<xs.size) (hj:j<xs.size),i<j->xs[i]<xs[j]
theorem rV {xs:Array Nat}{j:Nat}(hr:Oq xs):∀(fuel lo hi:Nat),lo<=hi->hi<=xs.size->hi-lo<=fuel->(∀i (h:i<xs.size),i<lo->xs[i]<j)->(∀i (h:i<xs.size),hi<=i->j<=xs[i])->
  (∀i (h:i<xs.size),i<below.go xs j fuel lo hi->xs[i]<j)/\(∀i (h:i<xs.size),below.go xs j fuel lo hi<=i->j<=xs[i])/\below.go xs j fuel lo hi<=xs.size
 |0,lo,hi,h1,h2,h3,a,b=>by
  have:lo=hi:=by lia
  subst this;exact⟨a,b,h2⟩
 |fuel+1,lo,hi,h1,h2,h3,a,b=>by
  unfold below.go;by_cases c:lo<hi
  ·rw[hV c];dsimp only;have hm:(lo+hi) / 2<xs.size:=by lia
   have hd:xs.getD ((lo+hi) / 2) j=xs[(lo+hi) / 2]:=by simp[aaE,hm]
   rw[hd];by_cases c2:xs[(lo+hi) / 2]<j
   ·rw[hV c2];refine rV hr fuel _ hi (by lia) h2 (by lia) (λi h xk=>?_) b;rcases ZH i ((lo+hi) / 2) with z|z
    ·exact Nat.lt_trans (hr _ _ h hm z) c2
    ·have:i=(lo+hi) / 2:=by lia
     subst this;exact c2
   ·rw[hU c2];refine rV hr fuel lo _ (by lia) (by lia) (by lia) a (λi h xk=>?_);rcases ZH ((lo+hi) / 2) i with z|z
    ·have:=hr _ _ hm h z;lia
    ·have:i=(lo+hi) / 2:=by lia
     subst this;lia
  ·rw[hU c];have:lo=hi:=by lia
   subst this;exact⟨a,b,h2⟩
theorem m7 {xs:Array Nat}(hr:Oq xs):(∀i (h:i<xs.size),i<below xs j->xs[i]<j)/\(∀i (h:i<xs.size),below xs j<=i->j<=xs[i])/\below xs j<=xs.size:=
 rV hr _ _ _ (XU _) (WI _) (by lia) (λi _ h=>by lia) (λi h h'=>by lia)
theorem E3 {xs:Array Nat}(hr:Oq xs)(h:xs[i]? = some j):below xs j=i:=by
 obtain⟨hi,e⟩:=Xy.mp h;obtain⟨a,b,c⟩:=m7 (j:=j) hr;rcases aaF (below xs j) i with z|z|z
 ·have h1:=b (below xs j) (by lia) (WI _);have h2:=hr _ _ (by lia) hi z;lia
 ·exact z
 ·have:=a i hi z;lia
variable {V:Type}
structure Bq (t:Z4)(es:Array (Int×V))(C:Nat->Option (Int×V)):Prop where
 ris:Oq t.place
 sz:t.place.size=es.size
 dum:t.dummies=#[]
 pow:∃k,t.mask+1=2 ^ k
 room:es.size<=t.mask
 top:∀(i j:Nat),t.place[i]? = some j->j<=t.mask
 con:∀(j:Nat) (e:Int×V),C j=some e↔∃i:Nat,t.place[i]? = some j/\es[i]? = some e
section
variable {es:Array (Int×V)}{C:Nat->Option (Int×V)}
theorem xX {xs:Array Nat}(h:xs=#[])(j:Nat):has xs j=false:=by subst h;rfl
theorem Bq.live (T:Bq t es C){e:Int×V}(h:C j=some e):∃i,t.slot j=.live i/\es[i]? = some e/\t.place[i]? = some j:=by
 obtain⟨i,h1,h2⟩:=(T.con j e).mp h;refine⟨i,?_,h2,h1⟩;unfold SetTable.slot;dsimp only;rw[E3 T.ris h1,h1];simp
theorem Bq.empty (T:Bq t es C)(h:C j=none):t.slot j=.empty:=by
 unfold SetTable.slot;dsimp only;have n:(t.place[below t.place j]? == some j)=false:=by
  rw[ZS];intro c;have c:t.place[below t.place j]? = some j:=by simpa using c
  have hi:=(Xy.mp c).1;have KL:below t.place j<es.size:=by rw[←T.sz];exact hi
  have:es[below t.place j]? = some es[below t.place j]:=W5 KL;rw[(T.con j _).mpr ⟨_,c,this⟩] at h;cases h
 rw[n,xX T.dum];rfl
theorem Bq.free (T:Bq t es C):∃y,y<=t.mask/\C y=none:=by
 refine Y_ λhn=>?_;have hs:=T.sz;have hr:=T.room;have:=Zq (l₁:=Wu (t.mask+1)) (l₂:=t.place.toList) Z8 (λy hy=>by
  have hy:=Xb.mp hy;cases e:C y with
  |none=>exact absurd ⟨y,by lia,e⟩ hn
  |some v=>
   obtain⟨i,h1,_⟩:=(T.con y v).mp e;have:=Array.mem_of_getElem? h1;simpa using this)
 rw[X6,Wx] at this;lia
end
noncomputable def adv (mask:Nat)(p:Probe):Probe:=
 if p.more>0 then {p with j:=p.j+1,more:=p.more-1} else
 {p with j:=(leap mask p.i p.perturb).1,more:=runEnd mask (leap mask p.i p.perturb).1-(leap mask p.i p.perturb).1,i:=(leap mask p.i p.perturb).1,perturb:=(leap mask p.i p.perturb).2}
theorem E4 (t:Z4)(p:Probe):t.advance p=adv t.mask p:=by unfold SetTable.advance adv;rfl
noncomputable def advs (mask:Nat):Nat->Probe->Probe
 |0,p=>p
 |n+1,p=>advs mask n (adv mask p)
theorem iK (mask m n:Nat)(p:Probe):advs mask (m+n) p=advs mask n (advs mask m p):=by
 induction m generalizing p with
 |zero=>rw[Y2];rfl
 |succ m ih=>rw[Nat.succ_add];exact ih _
theorem u4 (mask n:Nat)(p:Probe):advs mask (n+1) p=adv mask (advs mask n p):=by rw[iK];rfl
structure kC (mask:Nat)(p:Probe):Prop where
 i:p.i<=mask
 q:p.perturb<2 ^ 64
 m:p.more<=9
 d:p.dummy=none
theorem oC (mask i:Nat):runEnd mask i-i<=9:=by unfold runEnd;split<;>lia
theorem kC.adv {p:Probe}(h:kC mask p):kC mask (adv mask p):=by
 unfold Hc.Sx.adv;split
 ·exact⟨h.i,h.q,by have:=h.m;dsimp only;lia,h.d⟩
 ·refine⟨YS (ZV _ (ZG _)),?_,oC _ _,h.d⟩;exact aao (Nat.div_le_self _ _) h.q
theorem kC.advs {mask:Nat}:∀(n:Nat) {p:Probe},kC mask p->kC mask (advs mask n p)
 |0,_,h=>h
 |n+1,_,h=>kC.advs n h.adv
theorem Br (h:Int):bits h<2 ^ 64:=by
 unfold bits;have:h % (2 ^ 64:Int)<2 ^ 64:=Y4 _ (by decide);have h0:0<=h % (2 ^ 64:Int):=ZI _ (by decide);lia
theorem kC.start (t:Z4)(h:Int):kC t.mask (t.probeStart h):=
 ⟨YS (ZV _ (ZG _)),Br h,oC _ _,rfl⟩
theorem rW {mask:Nat}:∀(n:Nat) {p:Probe},p.more=n->(advs mask (n+1) p).j=(leap mask p.i p.perturb).1/\(advs mask (n+1) p).i=(leap mask p.i p.perturb).1/\(advs mask (n+1) p).perturb=(leap mask p.i p.perturb).2/\(advs mask (n+1) p).more<=9
 |0,p,e=>by
  show (adv mask p).j=_/\(adv mask p).i=_/\(adv mask p).perturb=_/\(adv mask p).more<=9;unfold adv;rw[hU (by lia)];exact⟨rfl,rfl,rfl,oC _ _⟩
 |n+1,p,e=>by
  have:=rW (mask:=mask) n (p:=adv mask p) (by unfold adv;rw[hV (by lia)];show p.more-1=n;lia);have e1:(adv mask p).i=p.i/\(adv mask p).perturb=p.perturb:=by unfold adv;rw[hV (by lia)];exact⟨rfl,rfl⟩
  rw[e1.1,e1.2] at this;exact this
theorem o9 {mask:Nat}:∀(n:Nat) {p:Probe},kC mask p->∃m,m<=10*(n+1)/\(advs mask m p).j=(fM mask (n+1) (p.i,p.perturb)).1
 |0,p,h=>by
  obtain⟨a,_⟩:=rW (mask:=mask) p.more (p:=p) rfl;exact⟨p.more+1,by have:=h.m;lia,a⟩
 |n+1,p,h=>by
  obtain⟨a,b,c,d⟩:=rW (mask:=mask) p.more (p:=p) rfl;obtain⟨m,h1,h2⟩:=o9 n (kC.advs (p.more+1) h);refine⟨p.more+1+m,by have:=h.m;lia,?_⟩;rw[iK,h2,b,c];rfl
theorem u5 (hm:mask+1=2 ^ k){p:Probe}(h:kC mask p){y:Nat}(hy:y<=mask):∃m,m<10*turns mask/\(advs mask m p).j=y:=by
 obtain⟨n,h1,h2⟩:=uZ hm (i:=(leap mask p.i p.perturb).1) (q:=(leap mask p.i p.perturb).2) (y:=y) (YS (ZV _ (ZG _))) (aao (Nat.div_le_self _ _) h.q) hy;obtain⟨m,h3,h4⟩:=o9 n h;refine⟨m,by unfold turns;lia,?_⟩;rw[h4];exact h2
section
variable {es:Array (Int×V)}{C:Nat->Option (Int×V)}{hashAt:Nat->Int}
theorem Bs (T:Bq t es C)(hh:∀i e,es[i]? = some e->hashAt i=e.1)(h:Int):∀(m fuel:Nat) (p:Probe),kC t.mask p->m<fuel->C (advs t.mask m p).j=none->
    ∃m',m'<=m/\(∀a,a<m'->∃e,C (advs t.mask a p).j=some e/\e.1≠h)/\
      ((C (advs t.mask m' p).j=none/\probe.go t hashAt h fuel p=some (.empty (advs t.mask m' p).j none)) \/
       ∃e i,C (advs t.mask m' p).j=some e/\e.1=h/\es[i]? = some e/\t.place[i]? = some (advs t.mask m' p).j/\probe.go t hashAt h fuel p=some (.candidate (advs t.mask m' p).j i (advs t.mask (m'+1) p)))
  |m,0,p,_,hf,_=>by lia
  |m,fuel+1,p,hp,hf,he=>by
    unfold probe.go;cases c:C p.j with
    |none=>
      refine⟨0,XU _,λa ha=>by lia,.inl ⟨c,?_⟩⟩;rw[T.empty c];dsimp only;rw[hp.d];rfl
    |some e=>
      obtain⟨i,h1,h2,h3⟩:=T.live c;rw[h1];dsimp only;rw[hh i e h2];by_cases q:e.1=h
      · refine⟨0,XU _,λa ha=>by lia,.inr ⟨e,i,c,q,h2,h3,?_⟩⟩;rw[hV (by rw[q];simp),E4];rfl
      · rw[hU (by simpa using q),E4];cases m with
        |zero=>rw[show advs t.mask 0 p=p from rfl,c] at he;cases he
        |succ m=>
          obtain⟨m',g1,g2,g3⟩:=Bs T hh h m fuel (adv t.mask p) hp.adv (by lia) he;refine⟨m'+1,by lia,λa ha=>?_,g3⟩;cases a with
          |zero=>exact⟨e,c,q⟩
          |succ a=>exact g2 a (by lia)
theorem Aa (T:Bq t es C)(hh:∀i e,es[i]? = some e->hashAt i=e.1)(h:Int){p:Probe}(hp:kC t.mask p) :
    ∃m',(∀a,a<m'->∃e,C (advs t.mask a p).j=some e/\e.1≠h)/\
      ((C (advs t.mask m' p).j=none/\t.probe hashAt h p=some (.empty (advs t.mask m' p).j none)) \/
       ∃e i,C (advs t.mask m' p).j=some e/\e.1=h/\es[i]? = some e/\t.place[i]? = some (advs t.mask m' p).j/\t.probe hashAt h p=some (.candidate (advs t.mask m' p).j i (advs t.mask (m'+1) p))):=by
  obtain⟨y,hy,hc⟩:=T.free;obtain⟨k,hk⟩:=T.pow;obtain⟨m,h1,h2⟩:=u5 hk hp hy;obtain⟨m',_,g2,g3⟩:=Bs T hh h m _ p hp h1 (by rw[h2];exact hc);exact⟨m',g2,g3⟩
end
end Hc.Sx
namespace Hc.Sx
open PySem.SetTable
theorem jo {α:Type}(xs:Array α)(p:Nat)(x:α):(insertAt xs p x).toList=xs.toList.take p++x::xs.toList.drop p:=by
 unfold insertAt;simp[Zd,List.extract_eq_drop_take];exact YY (by simp)
theorem bO {α:Type}{xs:Array α}{p:Nat}{x:α}(h:p<=xs.size)(i:Nat):(insertAt xs p x)[i]? = if i<p then xs[i]? else if i=p then some x else xs[i-1]? := by
 rw[←WS,jo];have lt:(xs.toList.take p).length=p:=by rw[Xr,Wx];lia
 by_cases c:i<p
 ·rw[hV c,XR (by lia),abM c,WS]
 ·rw[hU c,Xx (by lia),lt];by_cases c2:i=p
  ·rw[hV c2,c2,abz];rfl
  ·rw[hU c2,show i-p=(i-p-1)+1 by lia,XI,aau,WS];congr 1;lia
theorem gH {α:Type}{xs:Array α}{p:Nat}{x:α}(h:p<=xs.size):(insertAt xs p x).size=xs.size+1:=by
 rw[←Wx,jo,WG,Ww,Xr,X1,Wx];lia
variable {V:Type}
noncomputable def LS (C:Nat->Option (Int×V))(j:Nat)(e:Int×V):Nat->Option (Int×V):=λy=>if y=j then some e else C y
def Jt (mask:Nat)(st:Int->Probe)(C:Nat->Option (Int×V)):Prop:=∀(j:Nat) (e:Int×V),C j=some e->∃n,(advs mask n (st e.1)).j=j/\∀m,m<n->∃e',C (advs mask m (st e.1)).j=some e'
section
variable {es:Array (Int×V)}{C:Nat->Option (Int×V)}
theorem Bq.put (T:Bq t es C){e:Int×V}(hj:j<=t.mask)(hc:C j=none)(hr:es.size+1<=t.mask) :
  Bq (t.put j).1 (insertAt es (t.put j).2 e) (LS C j e)/\(t.put j).1.mask=t.mask/\(t.put j).1.plain=t.plain/\(t.put j).1.led=t.led/\(t.put j).1.moves=t.moves/\(t.put j).1.finger=t.finger:=by
 obtain⟨a,b,c⟩:=m7 (j:=j) T.ris;have nz:∀i,t.place[i]? ≠ some j:=λi h=>by
  have hi:=(Xy.mp h).1;have KL:i<es.size:=by rw[←T.sz];exact hi
  rw[(T.con j es[i]).mpr ⟨i,h,W5 KL⟩] at hc;cases hc
 have ep:(t.put j).1={t with place:=insertAt t.place (below t.place j) j}:=by
  unfold SetTable.put;dsimp only;rw[xX T.dum];rfl
 have e2:(t.put j).2=below t.place j:=rfl;have c2:below t.place j<=es.size:=by rw[←T.sz];exact c
 rw[ep,e2];refine⟨⟨?_,?_,T.dum,T.pow,?_,?_,?_⟩,rfl,rfl,rfl,rfl,rfl⟩
 ·intro i i' hi xk lt;have g:=λx=>bO (x:=j) c x;dsimp only at hi xk ⊢;have e1:=g i;have zc:=g i';rw[W5 hi] at e1;rw[W5 xk] at zc;rw[gH c] at hi xk;have at_:∀x (hx:x<t.place.size),t.place[x]? = some t.place[x]:=λx hx=>W5 hx;have Vo:∀x (hx:x<t.place.size),t.place[x]≠j:=λx hx z=>nz x (by rw[at_ x hx,z]);by_cases q:i<below t.place j
  ·rw[hV q,at_ i (by lia)] at e1;have e1:=W0 e1;rw[e1];by_cases q':i'<below t.place j
   ·rw[hV q',at_ i' (by lia)] at zc;rw[W0 zc];exact T.ris _ _ _ _ lt
   ·rw[hU q'] at zc;by_cases r':i'=below t.place j
    ·rw[hV r'] at zc;rw[W0 zc];exact a i (by lia) q
    ·rw[hU r',at_ (i' - 1) (by lia)] at zc;rw[W0 zc];have h1:=a i (by lia) q;have h2:=b (i' - 1) (by lia) (by lia);lia
  ·rw[hU q] at e1;rw[hU (by lia),hU (by lia),at_ (i' - 1) (by lia)] at zc;rw[W0 zc];by_cases r:i=below t.place j
   ·rw[hV r] at e1;rw[W0 e1];have h2:=b (i' - 1) (by lia) (by lia);have h3:=Vo (i' - 1) (by lia);lia
   ·rw[hU r,at_ (i-1) (by lia)] at e1;rw[W0 e1];exact T.ris _ _ _ _ (by lia)
 ·show (insertAt t.place _ j).size=_;rw[gH c,gH c2,T.sz]
 ·rw[gH c2];exact hr
 ·intro i y h;have h:(insertAt t.place (below t.place j) j)[i]? = some y:=h;rw[bO c] at h;split at h
  ·exact T.top i y h
  ·split at h
   ·cases h;exact hj
   ·exact T.top _ y h
 ·intro y v;show LS C j e y=some v↔∃i,(insertAt t.place (below t.place j) j)[i]? = some y/\(insertAt es (below t.place j) e)[i]? = some v;unfold LS;constructor
  ·intro h;split at h
   ·rename_i q;cases h;subst q;refine⟨below t.place y,?_,?_⟩
    ·rw[bO c,hU (YC _),hV rfl]
    ·rw[bO c2,hU (YC _),hV rfl]
   ·obtain⟨i,h1,h2⟩:=(T.con y v).mp h;by_cases q:i<below t.place j
    ·exact⟨i,by rw[bO c,hV q];exact h1,by rw[bO c2,hV q];exact h2⟩
    ·exact⟨i+1,by rw[bO c,hU (by lia),hU (by lia)];exact h1,by rw[bO c2,hU (by lia),hU (by lia)];exact h2⟩
  ·rintro⟨i,h1,h2⟩;rw[bO c] at h1;rw[bO c2] at h2;by_cases q:i<below t.place j
   ·rw[hV q] at h1 h2;rw[hU (λz=>nz i (by rw[h1,z]))];exact (T.con y v).mpr ⟨i,h1,h2⟩
   ·rw[hU q] at h1 h2;by_cases r:i=below t.place j
    ·rw[hV r] at h1 h2;rw[hV (W0 h1).symm];exact h2
    ·rw[hU r] at h1 h2;rw[hU (λz=>nz (i-1) (by rw[h1,z]))];exact (T.con y v).mpr ⟨_,h1,h2⟩
theorem Jt.up {st:Int->Probe}(P:Jt mask st C){e:Int×V}(hb:∀m,m<n->∃e',C (advs mask m (st e.1)).j=some e')(hc:C (advs mask n (st e.1)).j=none):Jt mask st (LS C (advs mask n (st e.1)).j e):=by
 have GV:∀y,(∃e',C y=some e')->∃e',LS C (advs mask n (st e.1)).j e y=some e':=λy h00=>by
  obtain⟨e',h⟩:=h00;unfold LS;split
  ·exact⟨_,rfl⟩
  ·exact⟨e',h⟩
 intro j v h;unfold LS at h;split at h
 ·rename_i q;cases h;exact⟨n,q.symm,λm hm=>GV _ (hb m hm)⟩
 ·obtain⟨n',h1,h2⟩:=P j v h;exact⟨n',h1,λm hm=>GV _ (h2 m hm)⟩
theorem Jt.met {st:Int->Probe}(P:Jt mask st C){h:Int}(hc:C (advs mask n (st h)).j=none){e:Int×V}(he:C j=some e)(hh:e.1=h):∃m,m<n/\(advs mask m (st h)).j=j:=by
 obtain⟨m,h1,h2⟩:=P j e he;rw[hh] at h1 h2;rcases aaF m n with z|z|z
 ·exact⟨m,z,h1⟩
 ·subst z;rw[h1,he] at hc;cases hc
 ·obtain⟨e',q⟩:=h2 n z;rw[q] at hc;cases hc
end
noncomputable def aaj (mask:Nat)(h:Int):Probe:={j:=bits h % (mask+1),more:=runEnd mask (bits h % (mask+1))-bits h % (mask+1),i:=bits h % (mask+1),perturb:=bits h,dummy:=none}
theorem oD {mask:Nat}:∀(k:Nat) {p:Probe},k<=p.more->(advs mask k p).j=p.j+k/\(advs mask k p).more=p.more-k/\(advs mask k p).i=p.i/\(advs mask k p).perturb=p.perturb/\(advs mask k p).dummy=p.dummy
 |0,p,_=>⟨rfl,rfl,rfl,rfl,rfl⟩
 |k+1,p,h=>by
  obtain⟨a,b,c,d,e⟩:=oD (mask:=mask) k (p:=adv mask p) (by unfold adv;rw[hV (by lia)];dsimp only;lia);have e1:(adv mask p).j=p.j+1/\(adv mask p).more=p.more-1/\(adv mask p).i=p.i/\(adv mask p).perturb=p.perturb/\(adv mask p).dummy=p.dummy:=by unfold adv;rw[hV (by lia)];exact⟨rfl,rfl,rfl,rfl,rfl⟩
  refine⟨?_,?_,c.trans e1.2.2.1,d.trans e1.2.2.2.1,e.trans e1.2.2.2.2⟩
  ·show (advs mask k (adv mask p)).j=_;rw[a,e1.1];lia
  ·show (advs mask k (adv mask p)).more=_;rw[b,e1.2.1];lia
theorem u6 {mask:Nat}{owner:Array (Option Nat)}(hs:owner.size=mask+1):∀(n fuel:Nat) (p:Probe),p.j=p.i->p.more=runEnd mask p.i-p.i->p.i<=mask->n<fuel->owner[(fM mask n (p.i,p.perturb)).1]? = some none->
  ∃m,layClean.free mask owner fuel p.i p.perturb=some (advs mask m p).j/\owner[(advs mask m p).j]? = some none/\∀a,a<m->∃i,owner[(advs mask a p).j]? = some (some i)
 |n,0,p,_,_,_,hf,_=>by lia
 |n,fuel+1,p,hj,hm,hi,hf,hn=>by
  have re:runEnd mask p.i<=mask/\p.i<=runEnd mask p.i:=by unfold runEnd;split<;>lia
  have at_:∀a,a<=p.more->∃o,owner[p.i+a]? = some o:=λa ha=>⟨owner[p.i+a]'(by lia),W5 (by lia)⟩;have gd:∀a o,owner[p.i+a]? = some o->owner.getD (p.i+a) (some 0)=o:=λa o h=>by
   obtain⟨h1,h2⟩:=Xy.mp h;simp[aaE,h1,h2]
  unfold layClean.free;cases hq:(Wu (runEnd mask p.i+1-p.i)).find? (λk=>(owner.getD (p.i+k) (some 0)).isNone) with
  |some k=>
   obtain⟨h1,as,bs,h2,h3⟩:=List.find?_eq_some_iff_append.mp hq;have hk:k<runEnd mask p.i+1-p.i:=Xb.mp (by rw[h2];simp);have KN:k<=p.more:=by lia
   obtain⟨o,ho⟩:=at_ k KN;rw[gd k o ho] at h1;have on:o=none:=by cases o with
    |none=>rfl
    |some x=>cases h1
   subst on;refine⟨k,?_,?_,λa ha=>?_⟩
   ·dsimp only;rw[(oD k KN).1,hj]
   ·rw[(oD k KN).1,hj];exact ho
   ·rw[(oD a (by lia)).1,hj];obtain⟨o,ho⟩:=at_ a (by lia);have am:a∈as:=by
     have la:as.length=k:=by
      have e:(Wu (runEnd mask p.i+1-p.i))[as.length]? = some k:=by rw[h2,Xx (WI _),abz];rfl
      have lt:as.length<runEnd mask p.i+1-p.i:=by
       have:=(WH.mp e).1;simpa using this
      rw[aac lt] at e;exact W0 e
     have e:(Wu (runEnd mask p.i+1-p.i))[a]? = some a:=aac (by lia);rw[h2,XR (by lia)] at e;exact Xw e
    have:=h3 a am;rw[gd a o ho] at this;cases o with
    |none=>simp at this
    |some x=>exact⟨x,ho⟩
  |none=>
   have all:=aav.mp hq;have Ur:∀a,a<=p.more->∃i,owner[p.i+a]? = some (some i):=λa ha=>by
    obtain⟨o,ho⟩:=at_ a ha;have:=all a (Xb.mpr (by lia));rw[gd a o ho] at this;cases o with
    |none=>simp at this
    |some x=>exact⟨x,ho⟩
   cases n with
   |zero=>
    obtain⟨i,h⟩:=Ur 0 (XU _);rw[show fM mask 0 (p.i,p.perturb)=(p.i,p.perturb) from rfl,←abA p.i,h] at hn;cases hn
   |succ n=>
    obtain⟨a1,a2,a3,a4,a5⟩:=oD (mask:=mask) p.more (p:=p) (WI _);have e1:advs mask (p.more+1) p={advs mask p.more p with j:=(leap mask p.i p.perturb).1,more:=runEnd mask (leap mask p.i p.perturb).1-(leap mask p.i p.perturb).1,i:=(leap mask p.i p.perturb).1,perturb:=(leap mask p.i p.perturb).2}:=by
     rw[u4];unfold adv;rw[hU (by lia),a3,a4]
    obtain⟨m,g1,g2,g3⟩:=u6 hs n fuel (advs mask (p.more+1) p) (by rw[e1]) (by rw[e1]) (by rw[e1];exact YS (ZV _ (ZG _))) (by lia) (by rw[e1];exact hn);refine⟨p.more+1+m,?_,by rw[iK];exact g2,λa ha=>?_⟩
    ·rw[iK];rw[e1] at g1 ⊢;exact g1
    ·rcases ZH a (p.more+1) with z|z
     ·rw[(oD a (by lia)).1,hj];exact Ur a (by lia)
     ·have:=g3 (a-(p.more+1)) (by lia);rw[←iK,show p.more+1+(a-(p.more+1))=a by lia] at this;exact this
end Hc.Sx
namespace Hc.Sx
open PySem.SetTable
structure Ju (mask:Nat)(owner:Array (Option Nat))(k:Nat)(Hf:Nat->Int):Prop where
 sz:owner.size=mask+1
 ix:∀(j i:Nat),owner[j]? = some (some i)->i<k
 ex:∀i:Nat,i<k->∃j:Nat,owner[j]? = some (some i)
 un:∀(j j' i:Nat),owner[j]? = some (some i)->owner[j']? = some (some i)->j=j'
 pt:∀(j i:Nat),owner[j]? = some (some i)->∃n,(advs mask n (aaj mask (Hf i))).j=j/\∀m,m<n->∃i':Nat,owner[(advs mask m (aaj mask (Hf i))).j]? = some (some i')
section
variable {owner:Array (Option Nat)}{Hf:Nat->Int}
theorem Ju.free (O:Ju mask owner k Hf)(hk:k<=mask):∃y,y<=mask/\owner[y]? = some none:=by
 refine Y_ λhn=>?_;have full:∀y,y<mask+1->∃i,owner[y]? = some (some i):=λy hy=>by
  have h1:y<owner.size:=by rw[O.sz];exact hy
  cases e:owner[y] with
  |none=>exact absurd ⟨y,by lia,by rw[W5 h1,e]⟩ hn
  |some i=>exact⟨i,by rw[W5 h1,e]⟩
 have g:∀y,∃i,y<mask+1->owner[y]? = some (some i):=λy=>by
  by_cases h:y<mask+1
  ·obtain⟨i,e⟩:=full y h;exact⟨i,λ_=>e⟩
  ·exact⟨0,λz=>absurd z h⟩
 let f:=λy=>Classical.choose (g y)
 have hf:∀y,y<mask+1->owner[y]? = some (some (f y)):=λy=>Classical.choose_spec (g y);have:=Zq (l₁:=(Wu (mask+1)).map f) (l₂:=Wu k) (by
  unfold List.Nodup;rw[YA];refine Zl (λ{a b} ha hb vJ e=>?_) Z8;have h1:=hf a (Xb.mp ha);have h2:=hf b (Xb.mp hb);rw[e] at h1;exact vJ (O.un _ _ _ h1 h2)) (λx hx=>by
  obtain⟨y,hy,rfl⟩:=Xp.mp hx;exact Xb.mpr (O.ix y _ (hf y (Xb.mp hy))))
 rw[WC,X6,X6] at this;lia
theorem Ju.step (O:Ju mask owner k Hf)(hp:∃p,mask+1=2 ^ p)(hk:k<=mask):∃j,layClean.free mask owner (turns mask) (bits (Hf k) % (mask+1)) (bits (Hf k))=some j/\Ju mask (owner.setIfInBounds j (some k)) (k+1) Hf:=by
 obtain⟨y,hy,ho⟩:=O.free hk;obtain⟨p,hp⟩:=hp;have hi:bits (Hf k) % (mask+1)<=mask:=YS (ZV _ (ZG _));obtain⟨n,h1,h2⟩:=uZ hp (i:=bits (Hf k) % (mask+1)) (q:=bits (Hf k)) hi (Br _) hy;obtain⟨m,g1,g2,g3⟩:=u6 O.sz n (turns mask) (aaj mask (Hf k)) rfl rfl hi (by unfold turns;lia) (by
  show owner[(fM mask n (bits (Hf k) % (mask+1),bits (Hf k))).1]? = _;rw[h2];exact ho)
 refine⟨_,g1,?_⟩;have hj:(advs mask m (aaj mask (Hf k))).j<owner.size:=(Xy.mp g2).1;generalize ej:(advs mask m (aaj mask (Hf k))).j=j at *;have gt:∀x,(owner.setIfInBounds j (some k))[x]? = if x=j then some (some k) else owner[x]? := λx=>by
  rw[Array.getElem?_setIfInBounds];by_cases c:j=x
  ·rw[hV c,hV c.symm,hV hj]
  ·rw[hU c,hU (λz=>c z.symm)]
 have GV:∀x:Nat,(∃i':Nat,owner[x]? = some (some i'))->∃i':Nat,(owner.setIfInBounds j (some k))[x]? = some (some i'):=λx h00=>by
  obtain⟨i',h⟩:=h00;rw[gt];split
  ·exact⟨k,rfl⟩
  ·exact⟨i',h⟩
 refine⟨by rw[Array.size_setIfInBounds];exact O.sz,λx i h=>?_,λi hi=>?_,λx x' i h h'=>?_,λx i h=>?_⟩
 ·rw[gt] at h;split at h
  ·cases h;lia
  ·have:=O.ix x i h;lia
 ·by_cases c:i=k
  ·exact⟨j,by rw[gt,hV rfl,c]⟩
  ·obtain⟨x,h⟩:=O.ex i (by lia);refine⟨x,?_⟩;rw[gt,hU (λz=>by rw[z,g2] at h;cases h)];exact h
 ·rw[gt] at h h';by_cases c:x=j
  ·by_cases c':x'=j
   ·rw[c,c']
   ·rw[hV c] at h;rw[hU c'] at h';cases h;have:=O.ix _ _ h';lia
  ·by_cases c':x'=j
   ·rw[hU c] at h;rw[hV c'] at h';cases h';have:=O.ix _ _ h;lia
   ·rw[hU c] at h;rw[hU c'] at h';exact O.un _ _ _ h h'
 ·rw[gt] at h;split at h
  ·rename_i c;cases h;exact⟨m,by rw[ej,c],λa ha=>GV _ (g3 a ha)⟩
  ·obtain⟨n,h1,h2⟩:=O.pt x i h;exact⟨n,h1,λa ha=>GV _ (h2 a ha)⟩
end
noncomputable def Ie (mask:Nat)(cG:Option (Array (Option Nat)×Nat))(h:Int):Option (Array (Option Nat)×Nat):=do
  let (owner,k) ←cG
  let j ←layClean.free mask owner (turns mask) (bits h % (mask+1)) (bits h)
  pure (owner.setIfInBounds j (some k),k+1)
theorem Bt {mask:Nat}{Hf:Nat->Int}(hp:∃p,mask+1=2 ^ p):∀(hs:List Int) (k:Nat) (owner:Array (Option Nat)),Ju mask owner k Hf->(∀i,i<hs.length->hs[i]? = some (Hf (k+i)))->k+hs.length<=mask->
  ∃owner',hs.foldl (Ie mask) (some (owner,k))=some (owner',k+hs.length)/\Ju mask owner' (k+hs.length) Hf
 | [],k,owner,O,_,_=>⟨owner,rfl,O⟩
 |h::hs,k,owner,O,he,hl=>by
  have e0:h=Hf k:=by have:=he 0 (by simp);simpa using this
  rw[Ww] at hl;obtain⟨j,g1,g2⟩:=O.step hp (by lia);obtain⟨owner',f1,f2⟩:=Bt hp hs (k+1) _ g2 (λi hi=>by
   have:=he (i+1) (by rw[Ww];lia);rw[XI] at this;rw[this];congr 2;lia) (by lia)
  refine⟨owner',?_,?_⟩
  ·rw[List.foldl_cons,show Ie mask (some (owner,k)) h=some (owner.setIfInBounds j (some k),k+1) by unfold Ie;rw[e0];simp[g1],f1,Ww];congr 2;lia
  ·rw[Ww,show k+(hs.length+1)=k+1+hs.length by lia];exact f2
theorem Ig (mask:Nat)(Hf:Nat->Int):Ju mask (Array.replicate (mask+1) none) 0 Hf:=by
 have no:∀(j i:Nat),(Array.replicate (mask+1) (none:Option Nat))[j]? ≠ some (some i):=λj i h=>by
  rw[Array.getElem?_replicate] at h;split at h<;>cases h
 exact⟨by simp,λj i h=>absurd h (no j i),λi h=>absurd h (Nat.not_lt_zero _),λj _ i h=>absurd h (no j i),λj i h=>absurd h (no j i)⟩
theorem jq {α β:Type}{f:α->Option β}:∀{l:List α},(∀x∈l,∃y,f x=some y)->∀n:Nat,(l.filterMap f)[n]? = (l[n]?).bind f
 | [],_,n=>by simp
 |x::l,h,n=>by
  obtain⟨y,hy⟩:=h x Wz;rw[abS hy];cases n with
  |zero=>simp[hy]
  |succ n=>simpa using jq (λz hz=>h z (WD _ hz)) n
theorem lW {α β:Type}{f:α->Option β}:∀{l:List α},(∀x∈l,∃y,f x=some y)->(l.filterMap f).length=l.length
 | [],_=>rfl
 |x::l,h=>by
  obtain⟨y,hy⟩:=h x Wz;rw[abS hy,Ww,Ww,lW λz hz=>h z (WD _ hz)]
variable {V:Type}
theorem Ih {finger moves:Nat}{led plain:Bool}{es:Array (Int×V)}(hp:∃p,mask+1=2 ^ p)(hl:es.size<=mask):∃(t:Z4) (order:Array Nat) (C:Nat->Option (Int×V)),laid mask finger moves led plain (es.map (·.1))=some (t,order)/\
  Bq t (order.filterMap (es[·]?)) C/\Jt mask (aaj mask) C/\(order.filterMap (es[·]?)).size=es.size/\t.mask=mask/\t.finger=finger/\t.moves=moves/\t.led=led/\t.plain=plain/\
  (order.filterMap (es[·]?)).toList.Perm es.toList:=by
 obtain⟨owner,f1,O⟩:=Bt (Hf:=λi=>(es[i]?.map (·.1)).getD 0) hp (es.map (·.1)).toList 0 _ (Ig mask _) (λi hi=>by
  have KL:i<es.size:=by simpa using hi
  simp[KL]) (by simpa using hl)
 rw[Y2,Wx,Array.size_map] at f1 O;have lc:layClean mask (es.map (·.1))=some owner:=by
  unfold layClean;rw[←Array.foldl_toList];show ((es.map (·.1)).toList.foldl (Ie mask) (some (Array.replicate (mask+1) none,0))).map (·.1)=some owner;rw[f1];rfl
 let live:=(Wu (mask+1)).filterMap λj=>(owner.getD j none).map (j,·)
 have gd:∀j i,owner.getD j none=some i↔owner[j]? = some (some i):=λj i=>by
  by_cases h:j<owner.size
  ·simp[aaE,h]
  ·simp[aaE,h]
 have ml:∀j i,(j,i)∈live↔owner[j]? = some (some i):=λj i=>by
  show (j,i)∈List.filterMap _ _↔_;rw[abo];constructor
  ·rintro⟨a,_,h⟩;cases e:owner.getD a none with
   |none=>rw[e] at h;cases h
   |some x=>rw[e] at h;cases h;exact (gd _ _).mp e
  ·intro h;refine⟨j,Xb.mpr ?_,by rw[(gd j i).mpr h];rfl⟩;have:=(Xy.mp h).1;rw[O.sz] at this;exact this
 have pw:live.Pairwise (λa b=>a.1<b.1/\a.2≠b.2):=by
  show List.Pairwise _ (List.filterMap _ _);rw[List.pairwise_filterMap];refine List.pairwise_lt_range.imp λ{a b} vJ x hx y hy=>?_;cases e:owner.getD a none with
  |none=>rw[e] at hx;cases hx
  |some i=>cases e':owner.getD b none with
   |none=>rw[e'] at hy;cases hy
   |some i'=>
    rw[e] at hx;rw[e'] at hy;cases hx;cases hy;refine⟨vJ,λz=>?_⟩;dsimp only at z;subst z;have:=O.un _ _ _ ((gd _ _).mp e) ((gd _ _).mp e');lia
 have Us:(live.map (·.2)).Perm (Wu es.size):=by
  have nd:(live.map (·.2)).Nodup:=by
   unfold List.Nodup;rw[YA];exact pw.imp λh=>h.2
  exact (List.perm_ext_iff_of_nodup nd Z8).mpr λi=>by
   rw[Xp,Xb];constructor
   ·rintro⟨⟨j,i'⟩,h,rfl⟩;exact O.ix j i' ((ml j i').mp h)
   ·intro h;obtain⟨j,e⟩:=O.ex i h;exact⟨(j,i),(ml j i).mpr e,rfl⟩
 have len:live.length=es.size:=by
  have:=Us.length_eq
  rwa [WC,X6] at this
 have Vp:∀x∈live,∃y,es[x.2]? = some y:=λx hx=>by
  have:=O.ix x.1 x.2 ((ml x.1 x.2).mp hx);exact⟨es[x.2],W5 this⟩
 have Qq:∀x∈live.map (·.2),∃y,es[x]? = some y:=λx hx=>by
  obtain⟨z,hz,rfl⟩:=Xp.mp hx;exact Vp z hz
 have Te:((live.map (·.2)).toArray.filterMap (es[·]?)).toList=(live.map (·.2)).filterMap (es[·]?):=by simp
 have Ut:∀n:Nat,((live.map (·.2)).toArray.filterMap (es[·]?))[n]? = (live[n]?).bind λx=>es[x.2]? := λn=>by
  rw[←WS,Te,jq Qq,Xc];cases live[n]? <;> rfl
 have Tf:∀n:Nat,(live.map (·.1)).toArray[n]? = (live[n]?).map (·.1):=λn=>by
  rw[←WS];simp
 let C:Nat->Option (Int×V):=λj=>(owner.getD j none).bind (es[·]?)
 have hC:∀j e,C j=some e↔∃i,owner[j]? = some (some i)/\es[i]? = some e:=λj e=>by
  show (owner.getD j none).bind _=some e↔_;cases q:owner.getD j none with
  |none=>
   refine⟨λh=>(by cases h),fun⟨i,h,_⟩=>?_⟩;rw[(gd j i).mpr h] at q;cases q
  |some i=>
   constructor
   ·intro h;exact⟨i,(gd j i).mp q,h⟩
   ·rintro⟨i',h,h2⟩;rw[(gd j i').mpr h] at q;cases q;exact h2
 have G8:((live.map (·.2)).toArray.filterMap (es[·]?)).size=es.size:=by
  rw[←Wx,Te,lW Qq,WC,len]
 refine⟨{mask,place:=(live.map (·.1)).toArray,dummies:=#[],finger,led,moves,plain},(live.map (·.2)).toArray,C,?_,⟨?_,?_,rfl,hp,?_,?_,?_⟩,?_,G8,rfl,rfl,rfl,rfl,rfl,?_⟩
 ·unfold laid;rw[lc];rfl
 ·intro i j hi hj lt;have g:=pw;rw[Za] at g;have xk:i<live.length:=by simpa using hi
  have Vq:j<live.length:=by simpa using hj
  have:=(g i j xk Vq lt).1;simpa using this
 ·show ((live.map (·.1)).toArray).size=_;rw[G8];simp[len]
 ·rw[G8];exact hl
 ·intro i j h;have h:(live.map (·.1)).toArray[i]? = some j:=h;rw[Tf] at h;cases e:live[i]? with
  |none=>rw[e] at h;cases h
  |some x=>
   rw[e] at h;cases h;have:=(Xy.mp ((ml x.1 x.2).mp (Xw e))).1;rw[O.sz] at this;exact YS this
 ·intro j e;show C j=some e↔∃i:Nat,(live.map (·.1)).toArray[i]? = some j/\_;rw[hC];constructor
  ·rintro⟨i,h1,h2⟩;obtain⟨n,hn⟩:=List.mem_iff_getElem?.mp ((ml j i).mpr h1);exact⟨n,by rw[Tf,hn];rfl,by rw[Ut,hn];exact h2⟩
  ·rintro⟨n,h1,h2⟩;rw[Tf] at h1;rw[Ut] at h2;cases q:live[n]? with
   |none=>rw[q] at h1;cases h1
   |some x=>
    rw[q] at h1 h2;cases h1;exact⟨x.2,(ml x.1 x.2).mp (Xw q),h2⟩
 ·intro j e h;obtain⟨i,h1,h2⟩:=(hC j e).mp h;obtain⟨n,g1,g2⟩:=O.pt j i h1;have hf:(es[i]?.map (·.1)).getD 0=e.1:=by rw[h2];rfl
  rw[hf] at g1 g2;refine⟨n,g1,λm hm=>?_⟩;obtain⟨i',h3⟩:=g2 m hm;have:=O.ix _ _ h3;exact⟨es[i'],(hC _ _).mpr ⟨i',h3,W5 this⟩⟩
 ·rw[Te];refine (Us.filterMap _).trans ?_;have e:(Wu es.size).filterMap (es[·]?)=es.toList:=by
   refine Zk λn=>?_;rw[jq (λx hx=>⟨es[x]'(Xb.mp hx),W5 (Xb.mp hx)⟩)];by_cases h:n<es.size
   ·rw[aac h];simp
   ·rw[X_.mpr (by simpa using h),X_.mpr (by simpa using h)];rfl
  rw[e]
end Hc.Sx
namespace Hc.Sx
open PySem.SetTable
theorem xY:∀(fuel size n:Nat),(∃p,size=2 ^ p)->8<=size->(size<=8\/size<=2*n)->n<size*2 ^ fuel->(∃p,sizeAbove.go n fuel size=2 ^ p)/\n<sizeAbove.go n fuel size/\8<=sizeAbove.go n fuel size/\(sizeAbove.go n fuel size<=8\/sizeAbove.go n fuel size<=2*n)
 |0,size,n,hp,h8,hb,hn=>by
  unfold sizeAbove.go;exact⟨hp,by simpa using hn,h8,hb⟩
 |fuel+1,size,n,⟨p,hp⟩,h8,hb,hn=>by
  unfold sizeAbove.go;by_cases c:size<=n
  ·rw[hV c];exact xY fuel (size*2) n ⟨p+1,by rw[hp,Y3]⟩ (by lia) (.inr (by lia)) (by rw[Y3,YM (2 ^ fuel) 2,←Yk] at hn;exact hn)
  ·rw[hU c];exact⟨⟨p,hp⟩,by lia,h8,hb⟩
theorem E5 (h:n<2 ^ 60):(∃p,sizeAbove n=2 ^ p)/\n<sizeAbove n/\8<=sizeAbove n/\(sizeAbove n<=8\/sizeAbove n<=2*n):=
 xY 64 8 n ⟨3,rfl⟩ (WI _) (.inl (WI _)) (Nat.lt_trans h (by decide))
structure o_ {prog:XF}{w:Zu}{K:Type}[DecidableEq K](knd:aar prog w K):Prop where
 cls:∀{A:Xh} {E:WB->WN->Prop} {s:WN} {k:K} {a:WT} {Q:Bool->WN->Prop},knd.is s.heap k a->Q false s->WU (W7 prog w) A (ofAClassStatement 8 (.ref a)) Q E s
 byv:∀{A:Xh} {E:WB->WN->Prop} {s:WN} {k:K} {a:WT} {Q:Bool->WN->Prop},knd.is s.heap k a->Q true s->WU (W7 prog w) A (hashByValue 8 (.ref a)) Q E s
 kept:∀{h h':Y8} {k:K} {a d:WT} {o:Obj} {es:Array (Int×WB)} {ep:Nat} {t:Z4},knd.is h k a->h.get? d=some o->o.data=.set es ep t->YD d h h'->knd.is h' k a
section
variable {K:Type}[DecidableEq K]{knd:aar prog w K}
noncomputable def QJ (knd:aar prog w K)(x:K×WT):Int×WB:=(knd.hash x.1,.ref x.2)
structure HS (knd:aar prog w K)(h:Y8)(xs:List (K×WT))(es:Array (Int×WB))(t:Z4)(C:Nat->Option (Int×WB)):Prop where
 tab:Bq t es C
 pth:Jt t.mask (aaj t.mask) C
 pl:t.plain=true
 lo:7<=t.mask
 hi:t.mask<=8191
 few:es.size*5<t.mask*3
 per:es.toList.Perm (xs.map (QJ knd))
 keys:∀x∈xs,knd.is h x.1 x.2
 nd:(xs.map (·.1)).Nodup
def mm (knd:aar prog w K)(byText:Bool)(h:Y8)(a:WT)(xs:List (K×WT)):Prop:=
 ∃o es ep t C,h.get? a=some o/\o.ExactSet/\o.data=.set es ep t/\HS knd h xs es t C/\(byText=true\/t.led=true)
variable {A:Xh}
theorem HS.fits {xs:List (K×WT)}{es:Array (Int×WB)}(S:HS knd h xs es t C):t.fits es.size=true:=by
 unfold SetTable.fits SetTable.fill;rw[S.tab.sz,S.tab.dum];simp;exact S.tab.room
theorem HS.stays {xs:List (K×WT)}{es:Array (Int×WB)}(S:HS knd h xs es t C):t.gaveWay=false:=by
 unfold SetTable.gaveWay;obtain⟨p,hp⟩:=S.tab.pow;have:=S.lo;cases p with
 |zero=>simp at hp;lia
 |succ p=>rw[Y3] at hp;simp;lia
theorem HS.entry {xs:List (K×WT)}{es:Array (Int×WB)}(S:HS knd h xs es t C){e:Int×WB}(he:e∈es.toList):∃k b,(k,b)∈xs/\e=(knd.hash k,.ref b)/\knd.is h k b:=by
 obtain⟨⟨k,b⟩,hx,rfl⟩:=Xp.mp (S.per.mem_iff.mp he);exact⟨k,b,hx,rfl,S.keys _ hx⟩
theorem HS.at {xs:List (K×WT)}{es:Array (Int×WB)}(S:HS knd h xs es t C){e:Int×WB}(hc:C j=some e):∃k b,(k,b)∈xs/\e=(knd.hash k,.ref b)/\knd.is h k b:=by
 obtain⟨i,_,h2⟩:=(S.tab.con j e).mp hc;exact S.entry (by have:=Array.mem_of_getElem? h2;simpa using this)
theorem HS.has {xs:List (K×WT)}{es:Array (Int×WB)}(S:HS knd h xs es t C){k:K}(hx:(k,b)∈xs):∃j,C j=some (knd.hash k,.ref b):=by
 have:QJ knd (k,b)∈es.toList:=S.per.mem_iff.mpr (Xp.mpr ⟨_,hx,rfl⟩);obtain⟨i,hi⟩:=List.mem_iff_getElem?.mp this;rw[WS] at hi;have h2:i<t.place.size:=by rw[S.tab.sz];exact (Xy.mp hi).1
 exact⟨t.place[i],(S.tab.con _ _).mpr ⟨i,W5 h2,hi⟩⟩
theorem CO (sk:o_ knd){k:K}(hk:knd.is s.heap k b){Q:Bool->WN->Prop}(l:List WB)(hl:∀y∈l,∃k' b',y=.ref b'/\knd.is s.heap k' b')(h:Q false s):WU (W7 prog w) A (searchCouldBeSeen (.ref b) l) Q E s:=by
 unfold searchCouldBeSeen;refine Wq ?_;refine aaS _ (λrest r s'=>r.1=none/\s'=s/\∀y∈rest,∃k' b',y=.ref b'/\knd.is s.heap k' b') _ ?_ ?_ _ _ ⟨rfl,rfl,hl⟩
 ·rintro y rest r s' ⟨hr,rfl,hy⟩;obtain⟨k',b',rfl,KN⟩:=hy y Wz;have next:∀z∈rest,∃k' b',z=Value.ref b'/\knd.is s'.heap k' b':=λz hz=>hy z (WD _ hz)
  dsimp only;split
  ·exact Wt ⟨rfl,rfl,next⟩
  ·refine Wq (knd.quiet hk ?_);simp only[ZU,W9,if_false];refine Wq (knd.quiet KN ?_);simp only[ZU,W9,if_false];refine Wq (sk.cls hk ?_);simp only[W9,if_false];refine Wq (sk.cls KN ?_);simp only[W9,if_false];exact Wt ⟨rfl,rfl,next⟩
 ·rintro⟨r1,r2⟩ s' ⟨hr,rfl,_⟩;simp only at hr;subst hr;exact Wt h
end
end Hc.Sx
namespace Hc.Sx
open PySem.SetTable
section
variable {K:Type}[DecidableEq K]{knd:aar prog w K}{A:Xh}
variable {o:Obj}{es:Array (Int×WB)}{xs:List (K×WT)}{k:K}
noncomputable abbrev Bu (t:Z4)(h:Int)(n:Nat):Nat:=(advs t.mask n (aaj t.mask h)).j
theorem pb (sk:o_ knd)(hr:knd.room A)(hk:knd.is s.heap k b)(ho:s.heap.get? a=some o)(hd:o.data=.set es ep t)(S:HS knd s.heap xs es t C){Q:SetFound->WN->Prop}{N:Nat}(hN:C (Bu t (knd.hash k) N)=none)
  (xl:k∈xs.map (·.1)->Q (.there none) s)
  (tZ:k∉xs.map (·.1)->∀n,(∀m,m<n->∃e,C (Bu t (knd.hash k) m)=some e)->C (Bu t (knd.hash k) n)=none->Q (.free (Bu t (knd.hash k) n) false) s) :
  ∀(fuel n:Nat) (stand:Option Probe),stand.getD (t.probeStart (knd.hash k))=advs t.mask n (aaj t.mask (knd.hash k))->N<n+fuel->(∀m,m<n->∃k' b',C (Bu t (knd.hash k) m)=some (knd.hash k',.ref b')/\(k',b')∈xs/\k'≠k)->
   WU (W7 prog w) A (setSearchFrom a (.ref b) (knd.hash k) true fuel stand) Q E s
 |0,n,stand,hs,hf,hb=>by
  obtain⟨k',b',e,_⟩:=hb N (by lia);rw[e] at hN;cases hN
 |fuel+1,n,stand,hs,hf,hb=>by
  unfold setSearchFrom;refine Wq (XT ho hd S.fits ?_);dsimp only;rw[S.stays];simp only[W9,if_false];obtain⟨m',g1,g2⟩:=Aa S.tab (hashAt:=λi=>(es[i]?.map (·.1)).getD 0) (λi e h=>by show (es[i]?.map (·.1)).getD 0=e.1;rw[h];rfl) (knd.hash k) (kC.advs n (kC.start t (knd.hash k)));have pa:∀x,(advs t.mask x (advs t.mask n (t.probeStart (knd.hash k)))).j=Bu t (knd.hash k) (n+x):=λx=>by rw[←iK];rfl
  have QZ:∀m,m<n+m'->∃k' b',C (Bu t (knd.hash k) m)=some (knd.hash k',.ref b')/\(k',b')∈xs/\k'≠k:=λm hm=>by
   rcases ZH m n with z|z
   ·exact hb m z
   ·obtain⟨e,h1,h2⟩:=g1 (m-n) (by lia);rw[pa,show n+(m-n)=m by lia] at h1;obtain⟨k',b',hx,rfl,_⟩:=S.at h1;exact⟨k',b',h1,hx,λz=>h2 (by rw[z])⟩
  have pe:t.probe (λi=>(es[i]?.map (·.1)).getD 0) (knd.hash k) (stand.getD (t.probeStart (knd.hash k)))=t.probe (λi=>(es[i]?.map (·.1)).getD 0) (knd.hash k) (advs t.mask n (t.probeStart (knd.hash k))):=by rw[hs];rfl
  rcases g2 with⟨c1,c2⟩|⟨e,i,c1,c2,c3,c4,c5⟩
  ·
   have Tg:=pe.trans c2;rw[pa] at c1 Tg;have nx:k∉xs.map (·.1):=λhm=>by
    obtain⟨⟨k0,b0⟩,hx,rfl⟩:=Xp.mp hm;obtain⟨j,hj⟩:=S.has hx;obtain⟨m,hm,hmj⟩:=S.pth.met c1 hj rfl;obtain⟨k',b',h1,h2,h3⟩:=QZ m hm;have h1:C j=some (knd.hash k',.ref b'):=by rw[←hmj];exact h1
    rw[hj] at h1;have eb:b0=b':=by
     have:=(Prod.mk.inj (W0 h1)).2;injection this
    subst eb;exact h3 (knd.inj (S.keys _ h2) (S.keys _ hx))
   have fin:=tZ nx (n+m') (λm hm=>let ⟨k',b',h1,_⟩:=QZ m hm;⟨_,h1⟩) c1;split
   ·rename_i met hq;have e:=(hq.symm.trans Tg);cases e;exact Wt fin
   ·rename_i hq;exact absurd Tg (by intro z;exact hq _ z)
  ·
   have M5:=pe.trans c5;rw[pa] at c1 c4 M5;rw[←iK] at M5;obtain⟨k',b',hx,rfl,KN⟩:=S.at c1;have lN:n+m'<N:=by
    rcases aaF N (n+m') with z|z|z
    ·obtain⟨_,_,e,_⟩:=QZ N z;rw[e] at hN;cases hN
    ·rw[z,c1] at hN;cases hN
    ·exact z
   have body:∀R:Sem SetFound,R=(do
     let some (_,y):=es[i]? | aaG "internal:set-entry"
     let equal ←holding [y] (eqBool y (.ref b))
     let (GW,_,t') ←setState a
     if true&&equal then return .there none
     let some same:=t'.sameMemory t.moves t.mask|aaG "set.changed-during-lookup:is-the-new-block-at-the-old-address"
     let Cj ←match (if same then t'.slot (Bu t (knd.hash k) (n+m')) else .empty) with
      | .live i'=>match GW[i']? with
       |some (_,y')=>do pure (if ←isSame y' y then some i' else none)
       |none=>pure none
      |_=>pure none
     match Cj with
     |none=>rule "set.search.anew";setSearchFrom a (.ref b) (knd.hash k) true fuel none
     |some i'=>if equal then return .there (some i') else setSearchFrom a (.ref b) (knd.hash k) true fuel (some (advs t.mask (n+(m'+1)) (t.probeStart (knd.hash k)))))->WU (W7 prog w) A R Q E s:=λR hR=>by
    subst hR;rw[c3];dsimp only;refine Wq (X4 (knd.eqBool hr KN hk ?_));refine Wq (XT ho hd S.fits ?_);dsimp only;by_cases q:k'=k
    ·rw[hG q];simp only[Bool.and_self,if_true];subst q;exact Wt (xl (Xp.mpr ⟨_,hx,rfl⟩))
    ·rw[hJ q];simp only[aaM,W9,if_false];have sm:t.sameMemory t.moves t.mask=some true:=by unfold SetTable.sameMemory;simp
     rw[sm];dsimp only;obtain⟨i2,l1,l2,l3⟩:=S.tab.live c1;rw[l1];simp only[if_true];rw[l2];dsimp only;refine Wq (wpAny_isSame_ref_self ?_);simp only[if_true];refine Wq (Wt ?_);dsimp only;refine pb sk hr hk ho hd S hN xl tZ fuel (n+(m'+1)) _ rfl (by lia) λm hm=>?_;rcases ZH m (n+m') with z|z
     ·exact QZ m z
     ·have:m=n+m':=by lia
      subst this;exact⟨k',b',c1,hx,q⟩
   split
   ·rename_i met hq;have e:=(hq.symm.trans M5);cases e;dsimp only;split
    ·refine Wq (CO sk hk _ (λy hy=>?_) ?_)
     ·obtain⟨e,he,rfl⟩:=Xp.mp hy;have he:e∈es.toList:=by
       have:e∈(es.filter λx=>x.1==knd.hash k):=by simpa using he
       have:=(Array.mem_filter.mp this).1;simpa using this
      obtain⟨k2,b2,_,rfl,h2⟩:=S.entry he;exact⟨k2,b2,rfl,h2⟩
     ·simp only[W9,if_false];exact body _ rfl
    ·exact body _ rfl
   ·rename_i hq;exact absurd M5 (by intro z;exact hq _ z)
theorem CP (sk:o_ knd)(hr:knd.room A)(hk:knd.is s.heap k b)(ho:s.heap.get? a=some o)(hd:o.data=.set es ep t)(S:HS knd s.heap xs es t C){Q:SetFound->WN->Prop}
  (xl:k∈xs.map (·.1)->Q (.there none) s)
  (tZ:k∉xs.map (·.1)->∀n,(∀m,m<n->∃e,C (Bu t (knd.hash k) m)=some e)->C (Bu t (knd.hash k) n)=none->Q (.free (Bu t (knd.hash k) n) false) s) :
  WU (W7 prog w) A (setSearch a (.ref b) (knd.hash k) true) Q E s:=by
 obtain⟨y,hy,hc⟩:=S.tab.free;obtain⟨p,hp⟩:=S.tab.pow;obtain⟨N,h1,h2⟩:=u5 hp (kC.start t (knd.hash k)) hy;unfold setSearch;refine pb sk hr hk ho hd S (N:=N) (by show C (advs t.mask N (t.probeStart (knd.hash k))).j=none;rw[h2];exact hc) xl tZ 100000 0 none rfl ?_ λm hm=>by lia
 have:=S.hi;unfold turns at h1;lia
end
end Hc.Sx
namespace Hc.Sx
open PySem.SetTable
theorem lX {α:Type}(xs:Array α)(p:Nat)(x:α):(insertAt xs p x).toList.Perm (xs.toList++[x]):=by
 rw[jo];have h:(x::xs.toList.drop p).Perm (xs.toList.drop p++[x]):=(List.perm_append_singleton x _).symm;refine (XY _ h).trans ?_;rw[←W4,XZ]
section
variable {K:Type}[DecidableEq K]{knd:aar prog w K}{A:Xh}
variable {o:Obj}{es:Array (Int×WB)}{xs:List (K×WT)}{k:K}{byText:Bool}
noncomputable def lY (xs:List (K×WT))(k:K)(b:WT):List (K×WT):=if k∈xs.map (·.1) then xs else xs++[(k,b)]
theorem E6 (ho:h.get? a=some o)(hd:o.data=.set es ep t)(GW:Array (Int×WB))(t':Z4) :
  (h.update a (abT GW t')).get? a=some {o with data:=.set GW (ep+1) t'}:=by
 have:=Yh (abT GW t') ho (by rw[putSet_of GW t' hd];rfl);rw[putSet_of GW t' hd] at this;exact this
theorem E7 {h:Y8}(sk:o_ knd)(ho:s.heap.get? a=some o)(G5:o.ExactSet)(hd:o.data=.set es ep t)(tab:Bq t es C)(pl:t.plain=true)(per:es.toList.Perm (xs.map (QJ knd)))(keys:∀x∈xs,knd.is s.heap x.1 x.2)(nd:(xs.map (·.1)).Nodup)(led:byText=true\/t.led=true)(hn:es.size=n)(We:1<=n)(Uu:n<=2047){Q:Unit->WN->Prop}(q:∀h',YD a s.heap h'->mm knd byText h' a xs->Q () {s with heap:=h'}) :
  WU (W7 prog w) A (setRelay a (grown n)) Q E s:=by
 have hw:grown n=n*4:=by unfold grown;rw[hU (by lia)]
 have ab:=E5 (n:=grown n) (by rw[hw];exact aao (show n*4<=8192 by lia) (by decide));have sz:WE=16777216:=rfl;generalize eS:sizeAbove (grown n)=sA at ab;obtain⟨⟨p,hp⟩,a1,a2,a3⟩:=ab;have m1:sA-1+1=2 ^ p:=by lia
 have m8:sA<=8192:=by
  have Wf:p<14:=by
   refine Y_ λz=>?_;have Wg:(2:Nat) ^ 14<=2 ^ p:=Nat.pow_le_pow_right (by decide) (by lia);rw[hw] at a3;lia
  have Wh:(2:Nat) ^ p<=2 ^ 13:=Nat.pow_le_pow_right (by decide) (by lia);lia
 have Vr:t.fits es.size=true:=by
  unfold SetTable.fits SetTable.fill;rw[tab.sz,tab.dum];simp;exact tab.room
 obtain⟨t',order,C',h1,T',P',hsz,e1,e2,e3,e4,e5,hall⟩:=Ih (mask:=sA-1) (finger:=t.finger) (moves:=t.movedTo (sA-1)) (led:=t.led) (plain:=t.plain) (es:=es) ⟨p,m1⟩ (by rw[hw] at a1;lia);unfold setRelay;refine Wq (XT ho hd Vr ?_);dsimp only;rw[eS,hU (by rw[hw] at a3;lia)];have hr:t.relaid (es.map (·.1)) (grown n)=some (t',order):=by unfold SetTable.relaid;rw[eS];exact h1
 have G8:(order.filterMap (es[·]?)).size<=WE:=by rw[hsz,hn];lia
 have G6:¬(((order.filterMap (es[·]?)).size != es.size)=true):=by rw[hsz];simp
 refine Wq (aaH (a:=(order.filterMap (es[·]?),t')) (by rw[hr];exact hU G6) ?_);refine wpAny_storeSet_of ho hd ?_ G8;have M6:=XJ s.heap a (abT (order.filterMap (es[·]?)) t');refine q _ M6 ⟨_,_,_,t',C',E6 ho hd _ _,G5,rfl,⟨T',by rw[e1];exact P',by rw[e5];exact pl,by rw[e1];lia,by rw[e1];rw[hw] at a3;lia,by rw[hsz,e1,hn];rw[hw] at a1;lia,?_,λx hx=>sk.kept (keys x hx) ho hd M6,nd⟩,led.imp id λz=>by rw[e4];exact z⟩;exact hall.trans per
end
end Hc.Sx
namespace Hc.Sx
open PySem.SetTable
section
variable {K:Type}[DecidableEq K]{knd:aar prog w K}{A:Xh}
variable {xs:List (K×WT)}{k:K}{byText:Bool}
theorem Ab (b:WT)(es:Array (Int×WB)):byScan (.ref b) es=false:=by unfold byScan Value.scannable;simp
theorem LU (sk:o_ knd)(hr:knd.room A)(hk:knd.is s.heap k b)(hS:mm knd byText s.heap a xs)(hl:xs.length+1<=2047){Q:Bool->WN->Prop}
  (q:∀h' r,YD a s.heap h'->mm knd byText h' a (lY xs k b)->Q r {s with heap:=h'}):WU (W7 prog w) A (setAddHashed a (.ref b) (knd.hash k)) Q E s:=by
 obtain⟨o,es,ep,t,C,ho,G5,hd,S,led⟩:=hS;have Wi:es.size=xs.length:=by have:=S.per.length_eq;simpa using this
 unfold setAddHashed setAddHashedIn;refine X4 (Wq (XT ho hd S.fits ?_));dsimp only;rw[Ab];simp only[W9,if_false];refine Wq (CP sk hr hk ho hd S (λtY=>?_) λQr n hb hc=>?_)
 ·dsimp only;refine Wt ?_;have e:s={s with heap:=s.heap}:=by cases s;rfl
  rw[e];exact q s.heap false (Heap.SameBut.refl a s.heap) (by unfold lY;rw[hV tY];exact⟨o,es,ep,t,C,ho,G5,hd,S,led⟩)
 ·dsimp only;refine Wq (XT ho hd S.fits ?_);dsimp only;have few:=S.few;have lo:=S.lo;have jm:Bu t (knd.hash k) n<=t.mask:=by
   obtain⟨p,hp⟩:=S.tab.pow;have:∀n,(advs t.mask n (aaj t.mask (knd.hash k))).j+(advs t.mask n (aaj t.mask (knd.hash k))).more<=t.mask:=by
    intro n
    induction n with
    |zero=>
     show bits (knd.hash k) % (t.mask+1)+(runEnd t.mask (bits (knd.hash k) % (t.mask+1))-bits (knd.hash k) % (t.mask+1))<=t.mask;have:bits (knd.hash k) % (t.mask+1)<t.mask+1:=ZV _ (ZG _);unfold runEnd;split<;>lia
    |succ n ih=>
     rw[u4];unfold adv;split
     ·dsimp only;lia
     ·dsimp only;have:(leap t.mask (advs t.mask n (aaj t.mask (knd.hash k))).i (advs t.mask n (aaj t.mask (knd.hash k))).perturb).1<t.mask+1:=ZV _ (ZG _);unfold runEnd;split<;>lia
   have:=this n;show (advs t.mask n (aaj t.mask (knd.hash k))).j<=t.mask;lia
  obtain⟨T1,p1,p2,p3,p4,p5⟩:=S.tab.put (e:=(knd.hash k,Value.ref b)) jm hc (by lia);have P1:=Jt.up S.pth (e:=(knd.hash k,Value.ref b)) hb hc;generalize et:(t.put (Bu t (knd.hash k) n)).1=t1 at *;generalize ei:(t.put (Bu t (knd.hash k) n)).2=ip at *;have G8:(insertAt es ip (knd.hash k,Value.ref b)).size=es.size+1:=by
   have:=(lX es ip (knd.hash k,Value.ref b)).length_eq;simpa using this
  rw[hV (by rw[p2];exact S.pl)];refine Wq (sk.byv hk ?_);simp only[if_true];have sl:WE=16777216:=rfl;refine Wq (wpAny_storeSet_of ho hd ?_ (by rw[G8];lia));have M6:=XJ s.heap a (abT (insertAt es ip (knd.hash k,Value.ref b)) t1);have Uv:=E6 ho hd (insertAt es ip (knd.hash k,Value.ref b)) t1;have Uw:lY xs k b=xs++[(k,b)]:=by unfold lY;rw[hU Qr]
  have Qs:(insertAt es ip (knd.hash k,Value.ref b)).toList.Perm ((xs++[(k,b)]).map (QJ knd)):=by
   rw[Ya];exact (lX _ _ _).trans (Yw _ S.per)
  have KO:∀x∈xs++[(k,b)],knd.is (s.heap.update a (abT (insertAt es ip (knd.hash k,Value.ref b)) t1)) x.1 x.2:=λx hx=>by
   rcases WW.mp hx with z|z
   ·exact sk.kept (S.keys x z) ho hd M6
   ·rw[WZ.mp z];exact sk.kept hk ho hd M6
  have Q0:((xs++[(k,b)]).map (·.1)).Nodup:=by
   rw[Ya,YB];exact⟨S.nd,by simp,λx hx y hy e=>by
    simp at hy;subst e hy;exact Qr hx⟩
  have Qt:byText=true\/t1.led=true:=led.imp id λz=>by rw[p3];exact z
  have Qu:t1.fill=es.size+1:=by
   unfold SetTable.fill;rw[T1.sz,T1.dum,G8];rfl
  cases tf:t1.tooFull with
  |false=>
   simp only[abG,aaM,W9,if_false];refine Wt (q _ true M6 ?_);rw[Uw];refine⟨_,_,_,t1,_,Uv,G5,rfl,⟨T1,by rw[p1];exact P1,by rw[p2];exact S.pl,by rw[p1];exact lo,by rw[p1];exact S.hi,?_,Qs,KO,Q0⟩,Qt⟩;unfold SetTable.tooFull at tf;rw[Qu] at tf;rw[G8];simpa using tf
  |true=>
   simp only[abG,Bool.and_self,if_true];refine Wq (E7 (h:=s.heap) (s:={s with heap:=s.heap.update a (abT (insertAt es ip (knd.hash k,Value.ref b)) t1)}) sk Uv G5 rfl T1 (by rw[p2];exact S.pl) Qs KO Q0 Qt G8 (by lia) (by lia) λh' Th H'=>?_);refine Wt (q h' true (M6.trans Th) ?_);rw[Uw];exact H'
theorem E8 {led:Bool}(hl:byText=true\/led=true)(hg:h.get? a=some {cls:=.type "set",dict:=none,data:=.set #[] 0 (.fresh 0 0 led)}):mm knd byText h a []:=by
 refine⟨_,#[],0,.fresh 0 0 led,λ_=>none,hg,⟨rfl,rfl,rfl⟩,rfl,⟨⟨λi j hi=>absurd hi (Nat.not_lt_zero _),rfl,rfl,⟨3,rfl⟩,XU _,λi j h=>?_,λj e=>⟨λh=>(by cases h),fun⟨i,h,_⟩=>?_⟩⟩,λj e h=>(by cases h),rfl,WI _,(show (7:Nat)<=8191 by decide),(show 0*5<7*3 by decide),X3 _,λx hx=>(by cases hx),aaN⟩,hl⟩
 ·have h:(#[]:Array Nat)[i]? = some j:=h;simp at h
 ·have h:(#[]:Array Nat)[i]? = some j:=h;simp at h
end
end Hc.Sx
namespace Hc.Sx
open PySem.SetTable
section
variable {K:Type}[DecidableEq K]{knd:aar prog w K}{A:Xh}
variable {xs:List (K×WT)}{k:K}{byText:Bool}
theorem mm.keep (H:mm knd byText h a xs)(e:∀o,h.get? a=some o->h'.get? a=some o)(hk:∀x∈xs,knd.is h' x.1 x.2):mm knd byText h' a xs:=by
 obtain⟨o,es,ep,t,C,ho,G5,hd,S,led⟩:=H;exact⟨o,es,ep,t,C,e o ho,G5,hd,⟨S.tab,S.pth,S.pl,S.lo,S.hi,S.few,S.per,hk,S.nd⟩,led⟩
theorem mm.setAt (H:mm knd byText h a xs):∃o es ep t,h.get? a=some o/\o.data=.set es ep t:=by
 obtain⟨o,es,ep,t,C,ho,G5,hd,S,led⟩:=H;exact⟨o,es,ep,t,ho,hd⟩
noncomputable def eO (val:Nat->K×WT):Nat->List (K×WT)
 |0=>[]
 |i+1=>lY (eO val i) (val i).1 (val i).2
theorem xZ (val:Nat->K×WT){i:Nat}:∀{n:Nat},i<=n->(eO val i).length<=(eO val n).length
 |0,h=>by rw[Nat.le_zero.mp h];exact WI _
 |n+1,h=>by
  by_cases e:i=n+1
  ·rw[e];exact WI _
  ·refine Xz (xZ val (n:=n) (by lia)) ?_;show (eO val n).length<=(lY _ _ _).length;unfold lY;split
   ·exact WI _
   ·rw[WG];lia
theorem lx (val:Nat->K×WT):∀(i:Nat) (x:K×WT),x∈eO val i->∃j,j<i/\x=val j
 |0,x,h=>by cases h
 |i+1,x,h=>by
  unfold eO lY at h;split at h
  ·obtain⟨j,h1,h2⟩:=lx val i x h;exact⟨j,by lia,h2⟩
  ·rcases WW.mp h with z|z
   ·obtain⟨j,h1,h2⟩:=lx val i x z;exact⟨j,by lia,h2⟩
   ·exact⟨i,by lia,WZ.mp z⟩
variable {R:Result->WN->Prop}{I:WT}{wr:List WT}{G:Array GenState->Array GenState->Prop}{P:Nat->WB->Prop}{St:Nat->WN->Prop}
theorem CQ (sk:o_ knd)(hr:knd.room A.in1)(W:WalksS prog w A.in1 I fp wr G n P St)(S:WT)(Ux:S∉fp)(val:Nat->K×WT)(Ti:∀i v,P i v->v=.ref (val i).2)(hn:(eO val n).length+1<=2047)
  (mv:∀i (s s':WN),i<=n->St i s->Moved wr G s s'->(∀j,j<n->knd.is s.heap (val j).1 (val j).2)->∀j,j<n->knd.is s'.heap (val j).1 (val j).2) :
  ∀(d i:Nat) (s:WN),n-i=d->i<=n->St i s->(∀j,j<n->knd.is s.heap (val j).1 (val j).2)->mm knd byText s.heap S (eO val i)->
   (∀s',Moved (S::wr) G s s'->(∀j,j<n->knd.is s'.heap (val j).1 (val j).2)->mm knd byText s'.heap S (eO val n)->R (.ok (.ret .none)) s')->
   codeAny (W7 prog w) A (.builtin "set.update.loop" ⟨[.ref S,.ref I],[]⟩) R s:=by
 have nS:S∉wr:=λh=>Ux (W.sub _ h);have up:∀b∈wr,b∈S::wr:=λb hb=>WD _ hb;have Cj:∀i (s s':WN),i<=n->St i s->Moved wr G s s'->(∀j,j<n->knd.is s.heap (val j).1 (val j).2)->mm knd byText s.heap S (eO val i)->mm knd byText s'.heap S (eO val i):=λi s s' hi st m hk H=>
  H.keep (λo e=>m.heap S o nS e) λx hx=>by
   obtain⟨j,h1,rfl⟩:=lx val i x hx;exact mv i s s' hi st m hk j (by lia)
 intro d
 induction d with
 |zero=>
  intro i s hd hi st hk H q;obtain rfl:i=n:=by lia
  refine ZJ F.entry_set_update_loop ?_;rw[Ze aaw _];show WU _ A.in1 (aaV (Value.ref I) >>= _) _ _ s;refine Wq (W.done s _ _ st λs' m=>?_);exact Wt (q s' (m.mono up) (mv i s s' hi st m hk) (Cj i s s' hi st m hk H))
 |succ d ih=>
  intro i s hd hi st hk H q;have lt:i<n:=by lia
  refine ZJ F.entry_set_update_loop ?_;rw[Ze aaw _];show WU _ A.in1 (aaV (Value.ref I) >>= _) _ _ s;refine Wq (W.item i s _ _ lt st λv s1 hP za m=>?_);obtain rfl:=Ti i v hP;have H1:=Cj i s s1 hi st m hk H;have AO:=mv i s s1 hi st m hk;show WU _ A.in1 (holding [Value.ref (val i).2] (setAdd S (Value.ref (val i).2)) >>= _) _ _ s1;refine Wq (X4 ?_);unfold setAdd;refine X4 (Wq (knd.pyHash hr (AO i lt) ?_));refine LU (s:={s1 with toks:=s1.toks+knd.draws (val i).1}) sk hr (AO i lt) H1 (by have:=xZ val hi;lia) λh' r sb H2=>?_;obtain⟨oS,eS,epS,tS,gS,dS⟩:=H1.setAt;have Uy:∀j,j<n->knd.is h' (val j).1 (val j).2:=λj hj=>sk.kept (AO j hj) gS dS sb;refine Wt ⟨plainId_quiet aaw _,ih (i+1) _ (by lia) lt (W.frame _ s1 _ _ za (Yc _ _) λb hb o e=>?_) Uy H2 λs2 m2 Vs H3=>?_⟩
  ·rw[sb.2 b (λz:b=S=>Ux (by rw[←z];exact hb))];exact e
  ·refine q s2 (Moved.trans W.gtrans ((m.mono up).then_heap (Yc _ _) λb o hb e=>?_) m2) Vs H3;rw[sb.2 b (λz:b=S=>hb (by rw[z];exact Wz))];exact e
end
end Hc.Sx
namespace Hc.Sx
open PySem.SetTable
noncomputable abbrev zg (w:Zu):Bool:=w.params.followText "set-order"
noncomputable abbrev newS (w:Zu):Obj:={cls:=.type "set",dict:=none,data:=.set #[] 0 (.fresh 0 0 (!zg w))}
section
variable {A:Xh}
theorem E9 (x:WB)(q:Q (.ref s.heap.objs.size) {s with heap:=s.heap.push (newS w)}):codeAny (W7 prog w) A (.call (.builtin "set.__new__") ⟨[.type "set",x],[]⟩) (wants Q E) s:=by
 refine codeAny_of_tree ?_;show WU _ A.in1 (do checkBuiltinCall "set.__new__" ⟨[Value.type "set",x],[]⟩;again (.builtin "set.__new__" ⟨[Value.type "set",x],[]⟩)) _ _ s;refine Wq (aaH (PySem.F.newCall_set_1 x) (Wt ⟨plainId_quiet PySem.F.plain_set_new _,ZJ PySem.F.entry_set_new ?_⟩));rw[Ze PySem.F.plain_set_new _];unfold Builtin.«set.__new__» Builtin.Frozenset.newClass;have sb:=sub_set_self;obtain⟨hp,g,d,tk,os⟩:=s;dsimp only;wp_walk;refine YF (Wt ?_);dsimp only;simp only[newObj];exact Wq (wpAny_alloc (Wt (Wt q)))
theorem set_call {t:WT}(R:WN->Prop)(fill:WU (W7 prog w) A.in1.in1 (Builtin.«set.__init__» ⟨[.ref s.heap.objs.size,.ref t],[]⟩) (λfin s'=>∃r,fin=.done (.ret r)/\r=.none/\R s') E {s with heap:=s.heap.push (newS w)})(q:∀s',R s'->Q (.ref s.heap.objs.size) s'):WU (W7 prog w) A (call (.type "set") [.ref t]) Q E s:=by
 obtain⟨c0,tl0,mro0⟩:=PySem.F.called_set.mro;have Wj:=PySem.F.called_set.made;have Wl:=PySem.F.called_set.sub;have Wm:=PySem.F.called_set.notType;have Wn:=PySem.F.called_set.canCreate;have Wo:=PySem.F.typeCall_set_1 (Value.ref t);refine wpAny_call (codeAny_of_tree ?_);show WU _ _ (callAny (Value.type "set") _) _ _ _;refine Wt ⟨Code.quiet_builtin _ (by decide+kernel),ZJ PySem.F.entry_type_call ?_⟩;rw[Around.under_plain (weight_type_call_type "set" [Value.ref t] []) rfl]
 repeat (any_goals first|assumption|wp_step)
 refine abq (E9 (Value.ref t) (E:=E) (Q:=λx s1=>x=.ref s.heap.objs.size/\s1={s with heap:=s.heap.push (newS w)}) ⟨rfl,rfl⟩) λr s1 hr=>?_;cases r with
 |error e=>exact hr
 |ok fl=>
  cases fl with
  |ret ob=>
   obtain⟨rfl,rfl⟩:=hr;have gS:(s.heap.push (newS w)).get? s.heap.objs.size=some (newS w):=WJ _ rfl;have tS:Shared.TypeIs {s with heap:=s.heap.push (newS w)} (.ref s.heap.objs.size) "set":=⟨_,gS,rfl⟩;have il:=PySem.F.called_set.init.lookup;have ib:=PySem.F.called_set.init.bind (Value.ref s.heap.objs.size)
   repeat (any_goals first|assumption|wp_step)
   refine abq (codeAny_call_builtin (R:=wants (λr s2=>r=.none/\R s2) E) PySem.F.called_set.init.plain PySem.F.entry_set_init (check_set_init_1 tS ?_)) λr2 s2 fV=>?_
   ·exact XQ fill (λfin s' ⟨r,e,h1,h2⟩=>by subst e;exact⟨h1,h2⟩) (λe s' h=>h)
   ·cases r2 with
    |error e=>exact fV
    |ok f2=>
     cases f2 with
     |ret r=>
      obtain⟨rfl,h2⟩:=fV
      repeat (any_goals first|assumption|wp_step)
      exact q _ h2
     |_=>exact fV.elim
  |_=>exact hr.elim
variable {K:Type}[DecidableEq K]{knd:aar prog w K}
theorem x8 {l:WT}{its:Array WB}(sk:o_ knd)(mono:∀{h h':Y8} {k:K} {a:WT},knd.is h k a->(∀b its,h.IsTuple b its->h'.IsTuple b its)->knd.is h' k a)(hr:knd.room A.in1.in1.in1)(hh:A.handled=none)(hl:s.heap.IsList l its)(val:Nat->K×WT)(hv:∀(i:Nat) (v:WB),its[i]? = some v->v=.ref (val i).2)(hk:∀j,j<its.size->knd.is s.heap (val j).1 (val j).2)(hb:(eO val its.size).length+1<=2047)(q:∀(h':Y8) (tk:Nat),mm knd (zg w) h' s.heap.objs.size (eO val its.size)->(∀b o,s.heap.get? b=some o->h'.get? b=some o)->Q (.ref s.heap.objs.size) {s with heap:=h',toks:=tk}) :
  WU (W7 prog w) A (call (.type "set") [.ref l]) Q E s:=by
 refine set_call (λs'=>∃h' tk,s'={s with heap:=h',toks:=tk}/\mm knd (zg w) h' s.heap.objs.size (eO val its.size)/\∀b o,s.heap.get? b=some o->h'.get? b=some o) ?_ λs' ⟨h',tk,e,h1,h2⟩=>by subst e;exact q h' tk h1 h2
 obtain⟨ot,gt,ct,nt,dt⟩:=hl;obtain⟨oc,od,oda,os⟩:=ot;simp only at ct dt;subst ct;subst dt;have Tj:(s.heap.push (newS w)).get? l=some {cls:=.type "list",dict:=od,data:=.seq its nt,slots:=os}:=Ws _ gt;have gS:(s.heap.push (newS w)).get? s.heap.objs.size=some (newS w):=WJ _ rfl;have n1:=PySem.F.sub_list_set;have n2:=PySem.F.sub_list_frozenset;have n3:(Value.type "list"==Value.type "dict")=false:=by decide
 have Qv:(s.heap.push (newS w)).IsList l its:=⟨_,Tj,rfl,nt,rfl⟩;unfold Builtin.«set.__init__» noKeywords aa0;generalize ePI:pyIter=PI;wp_walk;subst ePI;refine abL Qv ?_;refine Wq (wpAny_runValue ?_);have lt:l<s.heap.objs.size:=WO gt;have h3:A.in1.in1.in1.handled=none:=by simp[hh]
 have Tn:l≠(s.heap.push (newS w)).objs.size:=by rw[X2];exact W6 (YR lt)
 have ni:s.heap.objs.size∉[(s.heap.push (newS w)).objs.size,l]:=by
  rw[X2];simp only[WK,Y1,or_false,not_or];exact⟨W6 (aaT _),Zz lt⟩
 have Uz:∀(h:Y8) (o:Obj) b its,h.IsTuple b its->(h.push o).IsTuple b its:=λh o b its x=>x.push o;refine CQ (byText:=zg w) sk hr ((Walks.list h3 _ l Tn its).toS) s.heap.objs.size ni val hv hb (λi u u' _ st m ks j hj=>?_) (its.size-0) 0 _ (by lia) (XU _) ⟨⟨_,WJ _ rfl,rfl,rfl⟩,Qv.push _⟩ (λj hj=>mono (hk j hj) λb i2 x=>Uz _ _ _ _ (Uz _ _ _ _ x)) ?z0 ?zR
 ·refine mono (ks j hj) λb i2 ⟨o,e,c,n,d⟩=>⟨o,m.heap b o (λhm=>?_) e,c,n,d⟩;rw[WZ] at hm;subst hm;obtain⟨o2,e2,c2,_⟩:=st.1;rw[e] at e2;cases e2;rw[c] at c2;exact absurd c2 (by decide)
 case z0=>exact E8 (by cases zg w<;>simp) (Ws _ gS)
 case zR=>
  intro s' hm _ KD;obtain⟨h',g',d',tk',o'⟩:=s';have eg:g'=s.gens:=hm.gens;have ed:d'=s.drawn:=hm.drawn;have To:o'=s.os:=hm.os;subst eg;subst ed;subst To;show WU _ _ _ _ _ _;refine Wt ?_;show WU _ _ (ret Value.none) _ _ _;refine Wt ⟨_,rfl,rfl,h',tk',rfl,KD,λb o e=>?_⟩;have Qw:=WO e;refine hm.heap b o ?_ (Ws _ (Ws _ e));rw[X2];simp only[WK,Y1,or_false,not_or];exact⟨W6 Qw,W6 (YR Qw)⟩
end
end Hc.Sx
namespace L2
noncomputable def pd (ns:List Int):List Int:=ns.foldl step_dedup []
theorem m9 (ns:List Int):firstMet (λi=>ns.getD i 0) ns.length=pd ns:=by
 unfold firstMet pd;congr 1;apply List.ext_getElem (by simp);intro i h1 h2;simp[aas,Wr h2]
section
variable {A:Xh}
theorem Ac {t:WT}{its:Array WB}(hh:A.handled=none)(ht:s.heap.IsTuple t its)(hi:YJ its.toList ns)(hb:its.size+1<scanBound)(q:∀(h':Y8) (tk:Nat) (S:Int->Bool),h'.SetOf (abD prog w) s.heap.objs.size S (pd ns).length->(∀b o,s.heap.get? b=some o->h'.get? b=some o)->Q (.ref s.heap.objs.size) {s with heap:=h',toks:=tk}) :
  WU (W7 prog w) A (call (.type "set") [.ref t]) Q E s:=by
 have sz:its.size=ns.length:=by have:=hi.length;simpa using this
 refine Hc.Sx.set_call (λs'=>∃h' tk S,s'={s with heap:=h',toks:=tk}/\h'.SetOf (abD prog w) s.heap.objs.size S (pd ns).length/\∀b o,s.heap.get? b=some o->h'.get? b=some o) ?_ λs' ⟨h',tk,S,e,h1,h2⟩=>by subst e;exact q h' tk S h1 h2
 obtain⟨ot,gt,ct,nt,dt⟩:=ht;obtain⟨oc,od,oda,os⟩:=ot;simp only at ct dt;subst ct;subst dt;have Tj:(s.heap.push (Hc.Sx.newS w)).get? t=some {cls:=.type "tuple",dict:=od,data:=.seq its nt,slots:=os}:=Ws _ gt;have gS:(s.heap.push (Hc.Sx.newS w)).get? s.heap.objs.size=some (Hc.Sx.newS w):=WJ _ rfl;have n1:=PySem.F.sub_tuple_set;have n2:=PySem.F.sub_tuple_frozenset;have n3:(Value.type "tuple"==Value.type "dict")=false:=by decide
 have Qv:(s.heap.push (Hc.Sx.newS w)).IsTuple t its:=⟨_,Tj,rfl,nt,rfl⟩;unfold Builtin.«set.__init__» noKeywords aa0;generalize ePI:pyIter=PI;wp_walk;subst ePI;refine abn Qv ?_;refine Wq (wpAny_runValue ?_);have lt:t<s.heap.objs.size:=WO gt;have h3:A.in1.in1.in1.handled=none:=by simp[hh]
 have Tn:t≠(s.heap.push (Hc.Sx.newS w)).objs.size:=by rw[X2];exact W6 (YR lt)
 have ni:s.heap.objs.size∉[(s.heap.push (Hc.Sx.newS w)).objs.size,t]:=by
  rw[X2];simp only[WK,Y1,or_false,not_or];exact⟨W6 (aaT _),Zz lt⟩
 have vl:∀(i:Nat) (v:WB),its[i]? = some v->∃t,v=.int ((λi=>ns.getD i 0) i) t:=λi v hv=>IntsAre.int_at hi i v (by rw[WS];exact hv);refine codeAny_set_update_loopS ((Walks.tuple h3 _ t Tn its).toS) s.heap.objs.size ni (λi=>ns.getD i 0) vl hb (its.size-0) 0 _ (by lia) (XU _) ⟨⟨_,WJ _ rfl,rfl,rfl⟩,Qv.push _⟩ ?z0 ?zR
 case z0=>exact SetOf_congr ((setObjOf_fresh (knd:=abD prog w) _).setOf (Ws _ gS) (by unfold scanBound;lia)) (λ_=>rfl) rfl
 case zR=>
  intro s' hm KD;obtain⟨h',g',d',tk',o'⟩:=s';have eg:g'=s.gens:=hm.gens;have ed:d'=s.drawn:=hm.drawn;have To:o'=s.os:=hm.os;subst eg;subst ed;subst To;show WU _ _ _ _ _ _;refine Wt ?_;show WU _ _ (ret Value.none) _ _ _;rw[sz,m9] at KD;refine Wt ⟨_,rfl,rfl,h',tk',_,rfl,KD,λb o e=>?_⟩;have Qw:=WO e;refine hm.heap b o ?_ (Ws _ (Ws _ e));rw[X2];simp only[WK,Y1,or_false,not_or];exact⟨W6 Qw,W6 (YR Qw)⟩
end
section
variable {e:Yv}{kl p1 p2:Pos}{b1:Bool}{ga:Ev->R (List U×Ev)}
theorem E_:XG "set"=some (.type "set"):=by decide+kernel
def Jv (K:Wv):List V->Hp->VK->Prop:=λxs H Q=>∃(p:WT) (ns:List Int),xs=[.ref p]/\gK K H p (ns.map V.int)/\ns.length<64/\∀(l:WT) (S:Int->Bool),H l=none->Q (.ref l) (cY H l (.set S (pd ns).length))
theorem Fb (ns:List Int):(pd ns).length<=ns.length:=by
 rw[←m9];exact firstMet_length_le _ _
theorem CS (hc:X.calm=true):eT X (.type "set") (Jv X.K):=by
 intro pins s σ H xs us Q I r h;obtain⟨p,ns,rfl,hq,h64,q⟩:=h;obtain⟨u,rfl,rx⟩:=ja r;cases rx;obtain⟨its,rv,pl,hz⟩:=I.tuple hq;have hI:YJ its ns:=dW rv;have hl:=hI.length;refine Ac (I.ok.hd hc) (its:=its.toArray) pl hI (by unfold scanBound;rw[Wy];lia) λh' tk S hS hk=>?_;exact⟨.ref s.heap.objs.size,_,I.laid (a:=s.heap.objs.size) (o:=.set S (pd ns).length) (t':=tk) hk (WI _) hS,rfl,q _ S (I.hok.fresh (WI _))⟩
def Jw:List V->Hp->VK->Prop:=λxs H Q=>∃(p:WT) (S:Int->Bool) (n:Nat),xs=[.ref p]/\H p=some (.set S n)/\n<64/\Q (.int n) H
theorem CT:eT X (.builtin "len") Jw:=by
 intro pins s σ H xs us Q I r h;obtain⟨p,S,n,rfl,hq,h64,q⟩:=h;obtain⟨u,rfl,rx⟩:=ja r;cases rx;obtain⟨o,es,ep,t,ho,hx,hd,_,_,_,hf,hn⟩:s.heap.SetOf (abD X.prog X.w) p S n:=I.hok p _ hq;subst hn;exact call_len_set ho hx hd hf (by lia) ⟨.int _,H,I.tok _,⟨_,rfl⟩,q⟩
noncomputable def qB:List U->R U:=λus=>match us with
 | [.tup xs]=>match je xs with
  |some ns=>if ns.length<64 then .ok (.int (pd ns).length) else .stk
  |none=>.stk
 |_=>.stk
theorem Ad:lK K (λvs H Q=>Jv K vs H λx H2=>Jw [x] H2 Q) .S qB:=λA H vs us z Q h mu e q=>by
 unfold qB at e;split at e
 ·rename_i xs;split at e
  ·rename_i ns hb;split at e
   ·rename_i hl;cases e;obtain⟨v,rfl,p⟩:=h.one;unfold Pk at p;obtain⟨a,ys,rfl,h1,l1,r1⟩:=p;rw[jf hb] at r1;rw[r1.toI] at h1;have:=Fb ns;exact⟨a,ns,rfl,gK.of h1,hl,λl S hn=>⟨l,S,_,rfl,bT,by lia,q _ _ (cW hn _) (show Rp K _ A _ _ from eR)⟩⟩
   ·cases e
  ·cases e
 ·cases e
theorem CU (hc:X.calm=true)(ha:DA X G [e] b1 true ga)(hg:Gl X "len")(hm:X.mg "len"=none)(Qo:Gl X "set")(Tp:X.mg "set"=none)
  (he:WY [e] X.env=(false,Z0 e X.env)::WY [] X.env:=by rfl) (t9:(Zc kl (WY [] X.env)).any (·.1)=false:=by rfl)
  (Qx:WY [.Call (.Name "set" p2) [e] [] kl] X.env=(false,Z0 (.Call (.Name "set" p2) [e] [] kl) X.env)::WY [] X.env:=by rfl) (GU:(Zc pos (WY [] X.env)).any (·.1)=false:=by rfl) :
  DE X G (.Call (.Name "len" p1) [.Call (.Name "set" p2) [e] [] kl] [] pos) b1 .S (gG qB ga):=⟨(qP CT hg hm dw (mL (jz (CS hc) Qo Tp E_ ha.un (by decide) (by decide) he t9) qO Qx) (by decide) (by decide) Qx GU).to λ_ _ _ h=>qx (p:=true) (Ad (K:=X.K)) h⟩
end
theorem x9 {xs:List V}{us:List WB}(r:a9 xs us):∀n:Nat,a9 (Xv n xs).flatten (Xv n us).flatten
 |0=>.nil
 |n+1=>by
  rw[XM,XM,Xf,Xf];exact r.append (x9 r n)
theorem Bv {α:Type}(xs:List α)(n:Nat):(Xv n xs).flatten.length=xs.length*n:=by
 simp[YM]
theorem Bw {H:Hp}{A:WT->Prop}{us:List U}{xs:List V}(r:aO K H A us xs):∀n:Nat,aO K H A (Xv n us).flatten (Xv n xs).flatten
 |0=>aO.nil
 |n+1=>by
  rw[XM,XM,Xf,Xf];exact r.append (Bw r n)
@[irreducible] noncomputable def LV (X:Cx)(G:Gm)(es:List Yv)(b p:Bool)(g:Ev->R (List U×Ev)):Prop:=DA X G es b p g
section
variable {e:Yv}{es:List Yv}{b1 b2 p:Bool}{m1:Md}{g1:Ev->R (U×Ev)}{ga:Ev->R (List U×Ev)}
theorem Ot (h:LV X G es b1 p ga):DA X G es b1 p ga:=by unfold LV at h;exact h
theorem m_:LV X G [] false p ar:=by unfold LV;exact ah
theorem bb (ha:DE X G e b1 m1 g1)(hr:LV X G es b2 p ga)(hm:m1=.P->(p=true/\b2=false):=by first|exact λ_=>⟨rfl,rfl⟩|exact λh=>nomatch h)
  (hs:WY (e::es) X.env=(false,Z0 e X.env)::WY es X.env:=by rfl):LV X G (e::es) (b1||b2) p (af g1 ga):=by
 unfold LV at hr ⊢;exact ae ha hr hm hs
end
end L2
namespace Hc.Zp
def i_ (l:Bool)(h:Y8)(a:WT)(xs:Array WB):Prop:=if l=true then h.IsList a xs else h.IsTuple a xs
def gq (l:Bool)(h:Y8)(it a:WT)(i:Nat):Prop:=if l=true then h.IsListIter it a i else h.IsTupleIter it a i
noncomputable def CV (l:Bool):String:=if l=true then "list_iterator" else "tuple_iterator"
theorem i_.at {l:Bool}{xs:Array WB}(x:i_ l h a xs)(e:∀o,h.get? a=some o->h'.get? a=some o):i_ l h' a xs:=by
 cases l with
 |true=>exact Heap.IsList.at x e
 |false=>exact Heap.IsTuple.at x e
theorem gq.at {l:Bool}(x:gq l h it a i)(e:∀o,h.get? it=some o->h'.get? it=some o):gq l h' it a i:=by
 cases l with
 |true=>exact Heap.IsListIter.at x e
 |false=>exact Heap.IsTupleIter.at x e
theorem gq.obj {l:Bool}(x:gq l h it a i):∃o,h.get? it=some o/\o.data=.fields #[.ref a,.int i 0]/\o.cls=.type (CV l):=by
 cases l with
 |true=>obtain⟨o,e,c,d⟩:=x;exact⟨o,e,d,c⟩
 |false=>obtain⟨o,e,c,d⟩:=x;exact⟨o,e,d,c⟩
section
variable {A:Xh}
theorem Ae {xs:Array WB}{x:WB}(hi:s.heap.IsTupleIter it a i)(ha:s.heap.IsTuple a xs)(hx:xs[i]? = some x)(q:∀h',h'.IsTupleIter it a (i+1)->YD it s.heap h'->Q x {s with heap:=h'}):WU (W7 prog w) A (Xi (.ref it)) Q E s:=by
 obtain⟨o,ho,hc,hd⟩:=id hi;obtain⟨oa,hoa,_,na,hda⟩:=ha;unfold Xi;refine Wq (Xo (name:=YE "__next__") hi.typeIs Y0 (Xl Y0 hi.typeIs aba ?_ (aa1 _)));show WU _ _ (field (Value.ref it) 0 >>= _) _ _ s;refine Wq (Yj ho hd (x:=.ref a) rfl ?_);show WU _ _ (if (Value.ref a==Value.none)=true then _ else _) _ _ s;rw[hU (show ¬((Value.ref a==Value.none)=true) from WA)];show WU _ _ (field (Value.ref it) 1 >>= _) _ _ s;refine Wq (Yj ho hd (x:=.int i 0) rfl ?_);show WU _ _ (seqItems? (Value.ref a) >>= _) _ _ s;refine Wq (YL hoa hda ?_);simp only[X7,hx];refine Wq (Zx ho hd (by simp) (Wt ⟨x,rfl,Wt (q _ ⟨_,Yh _ ho (ZK (Yl hd _)),(aaI ..).trans hc,?_⟩ (XJ ..))⟩));rw[Yl hd];simp[abm]
theorem CW {xs:Array WB}(hh:A.handled=none)(hi:s.heap.IsTupleIter it a i)(ha:s.heap.IsTuple a xs)(hx:xs[i]? = none)(q:∀h' e,Heap.ExtBut it s.heap h'->(∃o,h'.get? e=some o/\o.cls=.type "StopIteration")->E (.ref e) {s with heap:=h'}):WU (W7 prog w) A (Xi (.ref it)) Q E s:=by
 obtain⟨o,ho,hc,hd⟩:=id hi;obtain⟨oa,hoa,_,na,hda⟩:=ha;unfold Xi;refine Wq (Xo (name:=YE "__next__") hi.typeIs Y0 (Xl Y0 hi.typeIs aba ?_ (aa1 _)));show WU _ _ (field (Value.ref it) 0 >>= _) _ _ s;refine Wq (Yj ho hd (x:=.ref a) rfl ?_);show WU _ _ (if (Value.ref a==Value.none)=true then _ else _) _ _ s;rw[hU (show ¬((Value.ref a==Value.none)=true) from WA)];show WU _ _ (field (Value.ref it) 1 >>= _) _ _ s;refine Wq (Yj ho hd (x:=.int i 0) rfl ?_);show WU _ _ (seqItems? (Value.ref a) >>= _) _ _ s;refine Wq (YL hoa hda ?_);simp only[X7,hx];refine Wq (YQ (Wq (Zx ho hd (by simp) ?_)));show WU _ _ (newExc (Value.type "StopIteration") [] >>= _) _ _ _;refine Wq ?_;simp only[newExc,newTuple];refine Wq (Xk ?_ (by size_fits));refine Wq (m:=Z2 _ _) (aaH (a:=Value.none) (by first|rfl|(simp only[Z2];rfl)) ?_);refine Xk ?_ (by size_fits);simp only[raiseNew];refine Wq (wpAny_handled ?_)
 first|rw[show A.in1.handled=none from hh]|rw[hh]
 exact Wq (Wt (wpAny_throw (q _ _ (((XJ ..).extBut.push _).push _) ⟨_,WJ _ rfl,rfl⟩)))
theorem oE {l:Bool}{xs:Array WB}{x:WB}(hi:gq l s.heap it a i)(ha:i_ l s.heap a xs)(hx:xs[i]? = some x)(q:∀h',gq l h' it a (i+1)->YD it s.heap h'->Q x {s with heap:=h'}):WU (W7 prog w) A (Xi (.ref it)) Q E s:=by
 cases l with
 |true=>exact wpAny_nextOf_list_item hi ha hx q
 |false=>exact Ae hi ha hx q
theorem x_ {l:Bool}{xs:Array WB}(hh:A.handled=none)(hi:gq l s.heap it a i)(ha:i_ l s.heap a xs)(hx:xs[i]? = none)(q:∀h' e,Heap.ExtBut it s.heap h'->(∃o,h'.get? e=some o/\o.cls=.type "StopIteration")->E (.ref e) {s with heap:=h'}):WU (W7 prog w) A (Xi (.ref it)) Q E s:=by
 cases l with
 |true=>exact wpAny_nextOf_list_end hh hi ha hx q
 |false=>exact CW hh hi ha hx q
theorem Bx {l:Bool}{xs:Array WB}(ha:i_ l s.heap a xs)(q:Q (.ref s.heap.objs.size) {s with heap:=s.heap.push {cls:=.type (CV l),data:=.fields #[.ref a,.int 0 0]}}):WU (W7 prog w) A (pyIter (.ref a)) Q E s:=by
 cases l with
 |true=>exact abL ha q
 |false=>exact abn ha q
theorem CY {TI TO:WT}{xs:Array WB}{x y p:WB}(D:ZipApart z TI TO i1 i2 a1 a2)(hz:IsZip s.heap z TI TO .none)(M7:ZX s.heap TI (.ref i1) (.ref i2))(M8:ZX s.heap TO p q)(h1:gq l1 s.heap i1 a1 k)(h2:gq l2 s.heap i2 a2 k)(g1:i_ l1 s.heap a1 xs)(g2:i_ l2 s.heap a2 ys)(hx:xs[k]? = some x)(hy:ys[k]? = some y)(hQ:∀h',IsZip h' z TI TO (abm s.heap.objs.size)->ZX h' TO x y->gq l1 h' i1 a1 (k+1)->gq l2 h' i2 a2 (k+1)->ZX h' s.heap.objs.size x y->(∀c o,c≠z->c≠TO->c≠i1->c≠i2->s.heap.get? c=some o->h'.get? c=some o)->Q (.ref s.heap.objs.size) {s with heap:=h'}) :
  WU (W7 prog w) A (Builtin.«zip.__next__» ⟨[.ref z],[]⟩) (λfin s'=>∃v,fin=.done (.ret v)/\Q v s') E s:=by
 show WU _ _ (field (Value.ref z) 2 >>= _) _ _ _;refine Wq (Yj hz rfl (x:=.bool false) rfl ?_);show WU _ _ (field (Value.ref z) 3 >>= _) _ _ _;refine Wq (Yj hz rfl (x:=.ref TI) rfl (Wq (YL M7 rfl ?_)));show WU _ _ (Ye (Value.ref z) >>= _) _ _ _;refine Wq ?_;unfold Ye;refine Wq (Yj hz rfl (x:=.none) rfl (Wt ?_));simp only[if_true];refine Wq (YQ (Wq (Yj hz rfl (x:=.ref TO) rfl (Wq (Y5 hz (by simp) λw1 z1 b1=>?_)))))
 replace z1:IsZip w1 z TI TO .ellipsis:=z1
 refine Wq ?_;simp only[List.zipIdx_cons,List.zipIdx_nil,aap,List.forIn_nil];refine Wq (Wq (wpAny_onRaise ?_));show WU _ _ (Xi (Value.ref i1) >>= _) _ _ _;refine Wq (oE (h1.at λo e=>b1.extBut _ _ D.i1z e) (g1.at λo e=>b1.extBut _ _ D.l1z e) hx λw2 n2 b2=>Wt ?_);have t2:ZX w2 TO p q:=b2.extBut _ _ D.TOi1 (b1.extBut _ _ D.TOz M8);refine Wq (YL t2 rfl (Wq (aaW t2 λw3 t3 b3=>?_)))
 replace t3:ZX w3 TO x q:=t3
 refine Wq (wpAny_letGo (Wt ?_));refine Wq (Wq (wpAny_onRaise ?_));show WU _ _ (Xi (Value.ref i2) >>= _) _ _ _;refine Wq (oE (h2.at λo e=>b3.extBut _ _ D.TOi2.symm (b2.extBut _ _ D.i12.symm (b1.extBut _ _ D.i2z e))) (g2.at λo e=>b3.extBut _ _ D.l2TO (b2.extBut _ _ D.l2i1 (b1.extBut _ _ D.l2z e))) hy λw4 n4 b4=>Wt ?_);have t4:ZX w4 TO x q:=b4.extBut _ _ D.TOi2 t3;refine Wq (YL t4 rfl (Wq (aaW t4 λw5 t5 b5=>?_)))
 replace t5:ZX w5 TO x y:=t5
 refine Wq (wpAny_letGo (Wt (Wt ?_)));refine Wq (YL t5 rfl (Wq (wpAny_newTuple ?_)));have sz:w5.objs.size=s.heap.objs.size:=by rw[b5.1,b4.1,b3.1,b2.1,b1.1]
 have z5:IsZip w5 z TI TO .ellipsis:=b5.extBut _ _ D.TOz.symm (b4.extBut _ _ D.i2z.symm (b3.extBut _ _ D.TOz.symm (b2.extBut _ _ D.i1z.symm z1)));have kp:∀c o,c≠z->c≠TO->c≠i1->c≠i2->s.heap.get? c=some o->w5.get? c=some o:=λc o c1 c2 c3 c4 e=>b5.extBut _ _ c2 (b4.extBut _ _ c4 (b3.extBut _ _ c2 (b2.extBut _ _ c3 (b1.extBut _ _ c1 e))));have n5:gq l1 w5 i1 a1 (k+1):=n2.at λo e=>b5.extBut _ _ D.TOi1.symm (b4.extBut _ _ D.i12 (b3.extBut _ _ D.TOi1.symm e));have m5:gq l2 w5 i2 a2 (k+1):=n4.at λo e=>b5.extBut _ _ D.TOi2.symm e;have lz:z<w5.objs.size:=WO z5;show WU _ _ (Z3 (Value.ref z) (Value.ref w5.objs.size) >>= _) _ _ _;refine Wq ?_;unfold Z3;have z6:IsZip (w5.push {cls:=.type "tuple",data:=.seq #[x,y]}) z TI TO .ellipsis:=Ws _ z5;refine Wq (Y5 z6 (by simp) λw7 z7 b7=>?_)
 replace z7:IsZip w7 z TI TO (abm w5.objs.size):=z7
 refine Y5 z7 (by simp) λw8 z8 b8=>?_
 replace z8:IsZip w8 z TI TO (abm w5.objs.size):=z8
 have up:∀c o,c≠z->w5.get? c=some o->w8.get? c=some o:=λc o c1 e=>b8.extBut _ _ c1 (b7.extBut _ _ c1 (Ws _ e));have t8:ZX w8 w5.objs.size x y:=b8.extBut _ _ (Zz lz) (b7.extBut _ _ (Zz lz) (WJ _ rfl));rw[sz] at z8 t8;refine Wt ⟨_,rfl,?_⟩;show Q (.ref w5.objs.size) _;rw[sz];exact hQ w8 z8 (up _ _ D.TOz t5) (n5.at λo e=>up _ o D.i1z e) (m5.at λo e=>up _ o D.i2z e) t8 λc o c1 c2 c3 c4 e=>up c o c1 (kp c o c1 c2 c3 c4 e)
theorem Fc {TI TO:WT}{xs:Array WB}{p:WB}{Q:Fin->WN->Prop}(hh:A.handled=none)(D:ZipApart z TI TO i1 i2 a1 a2)(hz:IsZip s.heap z TI TO .none)(M7:ZX s.heap TI (.ref i1) (.ref i2))(M8:ZX s.heap TO p q)(h1:gq l1 s.heap i1 a1 k)(h2:gq l2 s.heap i2 a2 k)(g1:i_ l1 s.heap a1 xs)(g2:i_ l2 s.heap a2 ys)(M9:xs[k]? = none\/ys[k]? = none)(hE:∀h' e,(∀c o,c≠z->c≠TO->c≠i1->c≠i2->s.heap.get? c=some o->h'.get? c=some o)->(∃o,h'.get? e=some o/\o.cls=.type "StopIteration")->E (.ref e) {s with heap:=h'}) :
  WU (W7 prog w) A (Builtin.«zip.__next__» ⟨[.ref z],[]⟩) Q E s:=by
 show WU _ _ (field (Value.ref z) 2 >>= _) _ _ _;refine Wq (Yj hz rfl (x:=.bool false) rfl ?_);show WU _ _ (field (Value.ref z) 3 >>= _) _ _ _;refine Wq (Yj hz rfl (x:=.ref TI) rfl (Wq (YL M7 rfl ?_)));show WU _ _ (Ye (Value.ref z) >>= _) _ _ _;refine Wq ?_;unfold Ye;refine Wq (Yj hz rfl (x:=.none) rfl (Wt ?_));simp only[if_true];refine Wq (YQ (Wq (Yj hz rfl (x:=.ref TO) rfl (Wq (Y5 hz (by simp) λw1 z1 b1=>?_)))))
 replace z1:IsZip w1 z TI TO .ellipsis:=z1
 refine Wq ?_;simp only[List.zipIdx_cons,List.zipIdx_nil,aap,List.forIn_nil];refine Wq (Wq (wpAny_onRaise ?_));show WU _ _ (Xi (Value.ref i1) >>= _) _ _ _;cases hx:xs[k]? with
 |none=>
  refine Wq (x_ hh (h1.at λo e=>b1.extBut _ _ D.i1z e) (g1.at λo e=>b1.extBut _ _ D.l1z e) hx λw2 e b2 he=>?_);obtain⟨oe,hoe,hce⟩:=he;have z2:IsZip w2 z TI TO .ellipsis:=b2 _ _ D.i1z.symm z1;have nz:e≠z:=λx=>by subst x;rw[z2] at hoe;cases hoe;simp at hce
  exact Y5 z2 (by simp) λw3 _ b3=>hE w3 e (λc o c1 _ c3 _ x=>b3.extBut _ _ c1 (b2 _ _ c3 (b1.extBut _ _ c1 x))) ⟨oe,b3.extBut _ _ nz hoe,hce⟩
 |some x=>
  have hy:ys[k]? = none:=by rcases M9 with h|h;rw[hx] at h;cases h;exact h
  refine Wq (oE (h1.at λo e=>b1.extBut _ _ D.i1z e) (g1.at λo e=>b1.extBut _ _ D.l1z e) hx λw2 n2 b2=>Wt ?_);have t2:ZX w2 TO p q:=b2.extBut _ _ D.TOi1 (b1.extBut _ _ D.TOz M8);refine Wq (YL t2 rfl (Wq (aaW t2 λw3 t3 b3=>?_)));refine Wq (wpAny_letGo (Wt ?_));refine Wq (Wq (wpAny_onRaise ?_));show WU _ _ (Xi (Value.ref i2) >>= _) _ _ _;refine Wq (x_ hh (h2.at λo e=>b3.extBut _ _ D.TOi2.symm (b2.extBut _ _ D.i12.symm (b1.extBut _ _ D.i2z e))) (g2.at λo e=>b3.extBut _ _ D.l2TO (b2.extBut _ _ D.l2i1 (b1.extBut _ _ D.l2z e))) hy λw4 e b4 he=>?_);obtain⟨oe,hoe,hce⟩:=he;have z4:IsZip w4 z TI TO .ellipsis:=b4 _ _ D.i2z.symm (b3.extBut _ _ D.TOz.symm (b2.extBut _ _ D.i1z.symm z1));have nz:e≠z:=λx=>by subst x;rw[z4] at hoe;cases hoe;simp at hce
  exact Y5 z4 (by simp) λw5 _ b5=>hE w5 e (λc o c1 c2 c3 c4 x=>b5.extBut _ _ c1 (b4 _ _ c4 (b3.extBut _ _ c2 (b2.extBut _ _ c3 (b1.extBut _ _ c1 x))))) ⟨oe,b5.extBut _ _ nz hoe,hce⟩
theorem CZ {TI TO:WT}{xs:Array WB}{x y p:WB}{Q:Option WB->WN->Prop}(D:ZipApart z TI TO i1 i2 a1 a2)(hz:IsZip s.heap z TI TO .none)(M7:ZX s.heap TI (.ref i1) (.ref i2))(M8:ZX s.heap TO p q)(h1:gq l1 s.heap i1 a1 k)(h2:gq l2 s.heap i2 a2 k)(g1:i_ l1 s.heap a1 xs)(g2:i_ l2 s.heap a2 ys)(hx:xs[k]? = some x)(hy:ys[k]? = some y)(hQ:∀h',IsZip h' z TI TO (abm s.heap.objs.size)->ZX h' TO x y->gq l1 h' i1 a1 (k+1)->gq l2 h' i2 a2 (k+1)->ZX h' s.heap.objs.size x y->(∀c o,c≠z->c≠TO->c≠i1->c≠i2->s.heap.get? c=some o->h'.get? c=some o)->Q (some (.ref s.heap.objs.size)) {s with heap:=h'}) :
  WU (W7 prog w) A (aaV (.ref z)) Q E s:=by
 have hT:s.TypeIs (.ref z) "zip":=⟨_,hz,rfl⟩;unfold aaV;exact Wq (Zs (Xo (name:=YE "__next__") hT abb (Xl abb hT F.entry_zip_next (CY D hz M7 M8 h1 h2 g1 g2 hx hy λh' c1 c2 c3 c4 c5 c6=>Wt (hQ h' c1 c2 c3 c4 c5 c6)) (F.args_zip_next_1 _))))
theorem C0 {TI TO:WT}{xs:Array WB}{p:WB}{Q:Option WB->WN->Prop}(hh:A.handled=none)(D:ZipApart z TI TO i1 i2 a1 a2)(hz:IsZip s.heap z TI TO .none)(M7:ZX s.heap TI (.ref i1) (.ref i2))(M8:ZX s.heap TO p q)(h1:gq l1 s.heap i1 a1 k)(h2:gq l2 s.heap i2 a2 k)(g1:i_ l1 s.heap a1 xs)(g2:i_ l2 s.heap a2 ys)(M9:xs[k]? = none\/ys[k]? = none)(hQ:∀h',(∀c o,c≠z->c≠TO->c≠i1->c≠i2->s.heap.get? c=some o->h'.get? c=some o)->Q none {s with heap:=h'}):WU (W7 prog w) A (aaV (.ref z)) Q E s:=by
 have hT:s.TypeIs (.ref z) "zip":=⟨_,hz,rfl⟩;unfold aaV;refine Wq (Zs (Xo (name:=YE "__next__") hT abb (Xl abb hT F.entry_zip_next (Fc hh D hz M7 M8 h1 h2 g1 g2 M9 λh' e hk ⟨o,ho,hc⟩=>?_) (F.args_zip_next_1 _))));exact Wq (Z6 (T:="StopIteration") (b:=true) ⟨o,ho,hc⟩ isSubtype_stop (Wt (hQ _ hk)))
end
noncomputable abbrev QK (l1:Bool)(h:Y8)(a1:WT):Y8:=h.push {cls:=.type (CV l1),data:=.fields #[.ref a1,.int 0 0]}
noncomputable abbrev QL (l1 l2:Bool)(h:Y8)(a1 a2:WT):Y8:=(QK l1 h a1).push {cls:=.type (CV l2),data:=.fields #[.ref a2,.int 0 0]}
noncomputable abbrev QM (l1 l2:Bool)(h:Y8)(a1 a2:WT):Y8:=(QL l1 l2 h a1 a2).push {cls:=.type "tuple",data:=.seq #[.ref h.objs.size,.ref (QK l1 h a1).objs.size]}
noncomputable abbrev QN (l1 l2:Bool)(h:Y8)(a1 a2:WT):Y8:=(QM l1 l2 h a1 a2).push {cls:=.type "tuple",data:=.seq #[.none,.none]}
noncomputable abbrev Nh (l1 l2:Bool)(h:Y8)(a1 a2:WT):Y8:=(QN l1 l2 h a1 a2).push {cls:=.type "zip",data:=.fields #[.none,.bool false,.bool false,.ref (QL l1 l2 h a1 a2).objs.size,.ref (QM l1 l2 h a1 a2).objs.size]}
theorem Fd (l1 l2:Bool)(a1 a2:WT)(xs ys:Array WB):Meets (Builtin.«zip.__new__» ⟨[.type "zip",.ref a1,.ref a2],[]⟩) (λ_ R s=>i_ l1 s.heap a1 xs/\i_ l2 s.heap a2 ys/\R (.ok (.ret (.ref (QN l1 l2 s.heap a1 a2).objs.size))) {s with heap:=Nh l1 l2 s.heap a1 a2}):=
 .of_wp λprog w A R s h=>by
  obtain⟨hp,g,d,tk,os⟩:=s;obtain⟨g1,g2,h⟩:=h;have sb:=sub_zip;have q1:i_ l1 (Shared.heap ⟨hp,g,d,tk,os⟩) a1 xs:=g1;have q2:i_ l2 (Shared.heap ⟨hp.push {cls:=.type (CV l1),data:=.fields #[.ref a1,.int 0 0]},g,d,tk,os⟩) a2 ys:=g2.at λo e=>Ws _ e;wp_walk using Bx q1,Bx q2;exact⟨_,rfl,h⟩
section
variable {A:Xh}
theorem C1 {xs:Array WB}(g1:i_ l1 s.heap a1 xs)(g2:i_ l2 s.heap a2 ys)(h:∀h',IsZip h' (s.heap.objs.size+4) (s.heap.objs.size+2) (s.heap.objs.size+3) .none->ZX h' (s.heap.objs.size+2) (.ref s.heap.objs.size) (.ref (s.heap.objs.size+1))->ZX h' (s.heap.objs.size+3) .none .none->
   gq l1 h' s.heap.objs.size a1 0->gq l2 h' (s.heap.objs.size+1) a2 0->(∀c o,s.heap.get? c=some o->h'.get? c=some o)->Q (.ref (s.heap.objs.size+4)) {s with heap:=h'}):WU (W7 prog w) A (call (.type "zip") [.ref a1,.ref a2]) Q E s:=by
 refine callType_new F.called_zip (by decide) (F.typeCall_zip_2 _ _) (F.newCall_zip_2 _ _) (λobj=>F.args_object_init_3 obj _ _) F.entry_zip_new (Fd l1 l2 a1 a2 xs ys) ⟨g1,g2,?_⟩;have z1:(QK l1 s.heap a1).objs.size=s.heap.objs.size+1:=X2 ..;have z2:(QL l1 l2 s.heap a1 a2).objs.size=s.heap.objs.size+2:=by rw[X2,z1]
 have z3:(QM l1 l2 s.heap a1 a2).objs.size=s.heap.objs.size+3:=by rw[X2,z2]
 have z4:(QN l1 l2 s.heap a1 a2).objs.size=s.heap.objs.size+4:=by rw[X2,z3]
 have e5:(Nh l1 l2 s.heap a1 a2).get? (QN l1 l2 s.heap a1 a2).objs.size=some _:=WJ _ rfl;have e4:(Nh l1 l2 s.heap a1 a2).get? (QM l1 l2 s.heap a1 a2).objs.size=some _:=Ws _ (WJ _ rfl);have e3:(Nh l1 l2 s.heap a1 a2).get? (QL l1 l2 s.heap a1 a2).objs.size=some _:=Ws _ (Ws _ (WJ _ rfl));have e2:(Nh l1 l2 s.heap a1 a2).get? (QK l1 s.heap a1).objs.size=some _:=Ws _ (Ws _ (Ws _ (WJ _ rfl)));have e1:(Nh l1 l2 s.heap a1 a2).get? s.heap.objs.size=some _:=Ws _ (Ws _ (Ws _ (Ws _ (WJ _ rfl))));show _/\_;rw[z2,z3,z4] at e5;rw[z1,z2] at e3;rw[z3] at e4;rw[z1] at e2;rw[z4];have mk:∀(l:Bool) (hp:Y8) (it a:WT) (_:hp.get? it=some {cls:=.type (CV l),data:=.fields #[.ref a,.int 0 0]}),gq l hp it a 0:=λl hp it a e=>by
  cases l with
  |true=>exact⟨_,e,rfl,rfl⟩
  |false=>exact⟨_,e,rfl,rfl⟩
 exact⟨⟨_,e5,rfl⟩,h _ e5 e3 e4 (mk l1 _ _ _ e1) (mk l2 _ _ _ e2) λc o x=>Ws _ (Ws _ (Ws _ (Ws _ (Ws _ x))))⟩
end
end Hc.Zp
namespace L2
open Hc.Zp
section
variable {T:WT}{o:HO}
theorem aN.turnNew {t':Nat}(I:aN X pins σ H s)(hf:∀b∈fp,p6 X pins H b)(k:∀b o,b∉fp->s.heap.get? b=some o->h'.get? b=some o)(hT:s.heap.objs.size<=T)(new:dU X.prog X.w (cY H T o) h' T o) :
  aN X pins σ (cY H T o) {s with heap:=h',toks:=t'}:=by
 have hn:H T=none:=I.hok.fresh hT;have nf:∀b u,H b=some u->b∉fp:=λb u e z=>by rw[(hf b z).1] at e;cases e
 have nT:∀b u,H b=some u->b≠T:=λb u e z=>by rw[z,hn] at e;cases e
 refine I.step (g':=s.gens) (d':=s.drawn) (ch:=fp) (λb hb=>?_) (λb o _ _ hc e _=>k b o hc e) (λb o _ _ hc e _=>⟨o.slots,k b o hc e⟩) (λb o _ e n=>?_) (λb o hc e=>⟨o,k b o hc e⟩)
  (λb xs e=>?_) (λb o u e=>?_) (λb ps e=>⟨#[],?_⟩) (λm hm=>?_) (λb u e=>?_) I.bare
 ·obtain⟨f0,f1,f2,f3,f4,f5⟩:=hf b hb;exact⟨f3,f1,f4,f5⟩
 ·rw[bo (W6 (Xe (WO e) hT))];exact n
 ·rw[bo (nT b _ e)];exact e
 ·rw[bo (nT b _ e)];exact e
 ·rw[bo (nT b _ e),e];simp
 ·obtain⟨o,es,ep,ho,r⟩:=hm;exact⟨o,es,ep,k _ o (λz=>(hf _ z).2.1 rfl) ho,r⟩
 ·by_cases c:b=T
  ·subst c;rw[bT] at e;cases e;exact new
  ·rw[bo c] at e;refine (I.hok b u e).stay (λc v hc q=>k c v ?_ q) (λc q=>by rw[bo (nT c _ q)];exact q) λc xs q=>by rw[bo (nT c _ q)];exact q
   rcases hc with z|z
   ·rw[z];exact nf b u e
   ·exact nf c _ z
theorem aN.turneds {t':Nat}(I:aN X pins σ H s)(hf:∀b∈fp,p6 X pins H b)(k:∀b o,b∉fp->s.heap.get? b=some o->h'.get? b=some o):aN X pins σ H {s with heap:=h',toks:=t'}:=by
 have nf:∀b u,H b=some u->b∉fp:=λb u e z=>by rw[(hf b z).1] at e;cases e
 refine I.step (g':=s.gens) (d':=s.drawn) (ch:=fp) (λb hb=>?_) (λb o _ _ hc e _=>k b o hc e) (λb o _ _ hc e _=>⟨o.slots,k b o hc e⟩) (λb o _ e n=>n) (λb o hc e=>⟨o,k b o hc e⟩)
  (λb xs e=>e) (λb o u e=>e) (λb ps e=>⟨#[],by rw[e];simp⟩) (λm hm=>?_) (λb u e=>?_) I.bare
 ·obtain⟨f0,f1,f2,f3,f4,f5⟩:=hf b hb;exact⟨f3,f1,f4,f5⟩
 ·obtain⟨o,es,ep,ho,r⟩:=hm;exact⟨o,es,ep,k _ o (λz=>(hf _ z).2.1 rfl) ho,r⟩
 ·refine (I.hok b u e).stay (λc v hc q=>k c v ?_ q) (λ_ q=>q) λ_ _ q=>q;rcases hc with z|z
  ·rw[z];exact nf b u e
  ·exact nf c _ z
def C2 (l:Bool)(K:Wv)(H:Hp)(a:WT)(xs:List V):Prop:=if l=true then f7 K H a xs else gK K H a xs
theorem aN.sq {l:Bool}(I:aN X pins σ H s)(q:C2 l X.K H a xs):∃its,a9 xs its/\i_ l s.heap a its.toArray:=by
 cases l with
 |true=>obtain⟨its,rv,p,_⟩:=I.list q;exact⟨its,rv,p.isList⟩
 |false=>obtain⟨its,rv,p,_⟩:=I.tuple q;exact⟨its,rv,p⟩
theorem aN.sq_inj {l:Bool}{ys:List V}(I:aN X pins σ H s)(q:C2 l X.K H a xs)(q':C2 l X.K H a ys):xs=ys:=by
 cases l with
 |true=>exact I.list_inj q q'
 |false=>exact I.tuple_inj q q'
end
noncomputable def TU (K:Wv)(l1 l2:Bool)(a1 a2:WT):It:=
  ⟨λi H=>∃xs ys x y,C2 l1 K H a1 xs/\C2 l2 K H a2 ys/\xs[i]? = some x/\ys[i]? = some y,
   λi H v H'=>∃T x y,v=.ref T/\H T=none/\H'=cY H T (.tup [x,y])/\(∀xs,C2 l1 K H a1 xs->xs[i]? = some x)/\(∀ys,C2 l2 K H a2 ys->ys[i]? = some y),
   λi H=>∃xs ys,C2 l1 K H a1 xs/\C2 l2 K H a2 ys/\(xs.length<=i\/ys.length<=i)⟩
theorem Fe {P:XF}{GX:List Yv}{kt:Nat}{tp:Pos}{TI TO:WT}(D:ZipApart z TI TO i1 i2 a1 a2) :
  Cq P w K (.Tuple GX kt tp) (TU K l1 l2 a1 a2) [z,TI,TO,i1,i2] z (λi h=>IsZip h z TI TO .none/\ZX h TI (.ref i1) (.ref i2)/\(∃p q,ZX h TO p q)/\gq l1 h i1 a1 i/\gq l2 h i2 a2 i) where
 mem:=by simp
 obj:=λi h ⟨hz,hI,⟨p,q,hO⟩,h1,h2⟩ b hb=>by
  obtain⟨o1,e1,d1,_⟩:=h1.obj;obtain⟨o2,e2,d2,_⟩:=h2.obj;simp only[WK,Z9,or_false] at hb;rcases hb with rfl|rfl|rfl|rfl|rfl
  ·exact⟨_,hz,λv e=>by cases e⟩
  ·exact⟨_,hI,λv e=>by cases e⟩
  ·exact⟨_,hO,λv e=>by cases e⟩
  ·exact⟨o1,e1,λv e=>by rw[d1] at e;cases e⟩
  ·exact⟨o2,e2,λv e=>by rw[d2] at e;cases e⟩
 keep:=λi h h' ⟨hz,hI,⟨p,q,hO⟩,h1,h2⟩ k=>⟨k z (by simp) _ hz,k TI (by simp) _ hI,⟨p,q,k TO (by simp) _ hO⟩,h1.at λo e=>k i1 (by simp) o e,h2.at λo e=>k i2 (by simp) o e⟩
 item:=by
  intro X hP hw hK hc i pins s σ H E I hf st hg;subst hP hw hK;obtain⟨hz,hI,⟨p,q,hO⟩,h1,h2⟩:=st;obtain⟨xs,ys,x,y,q1,q2,hx,hy⟩:=hg;obtain⟨is1,v1,g1⟩:=I.sq q1;obtain⟨is2,v2,g2⟩:=I.sq q2;obtain⟨u1,kg,r1⟩:=v1.get hx;obtain⟨u2,Tz,r2⟩:=v2.get hy;obtain⟨o1,e1,_,_⟩:=h1.obj;obtain⟨o2,e2,_,_⟩:=h2.obj;have lz:=WO hz;have lI:=WO hI;have lO:=WO hO;have Vt:=WO e1;have Vu:=WO e2;refine CZ D hz hI hO h1 h2 g1 g2 (x:=u1) (y:=u2) (by simpa using kg) (by simpa using Tz) λh' c1 c2 c3 c4 c5 kp=>⟨_,rfl,?_⟩;refine wpAny_letOwnedTupleGo_zip c1 λKG z2 sb=>?_;have M5:ZX KG s.heap.objs.size u1 u2:=sb.extBut _ _ (Zz lz) c5;have Vv:∀b o,b∉[z,TI,TO,i1,i2]->s.heap.get? b=some o->KG.get? b=some o:=λb o hb e=>by
   simp only[WK,Z9,or_false,not_or] at hb;exact sb.extBut _ _ hb.1 (kp b o hb.1 hb.2.2.1 hb.2.2.2.1 hb.2.2.2.2 e)
  have I2:aN X pins σ (cY H s.heap.objs.size (.tup [x,y])) {s with heap:=KG}:=I.turnNew (t':=s.toks) hf Vv (WI _) ⟨by rw[Yx];simp,[u1,u2],.cons r1 (.cons r2 .nil),⟨_,M5,rfl,_,rfl⟩,_,M5⟩;have fr:H s.heap.objs.size=none:=I.hok.fresh (WI _);refine⟨.ref s.heap.objs.size,_,I2,rfl,⟨_,x,y,rfl,fr,rfl,λzs hq=>by rw[I.sq_inj hq q1];exact hx,λzs hq=>by rw[I.sq_inj hq q2];exact hy⟩,⟨z2,?_,⟨u1,u2,?_⟩,?_,?_⟩,λb hb=>?_⟩
  ·exact sb.extBut _ _ D.TIz (kp _ _ D.TIz D.TITO D.TIi1 D.TIi2 hI)
  ·exact sb.extBut _ _ D.TOz c2
  ·exact c3.at λo e=>sb.extBut _ _ D.i1z e
  ·exact c4.at λo e=>sb.extBut _ _ D.i2z e
  ·have hn:b≠s.heap.objs.size:=by
    simp only[WK,Z9,or_false] at hb;rcases hb with rfl|rfl|rfl|rfl|rfl
    ·exact W6 lz
    ·exact W6 lI
    ·exact W6 lO
    ·exact W6 Vt
    ·exact W6 Vu
   rw[bo hn];exact (hf b hb).1
 done:=by
  intro X hP hw hK hc i pins s σ H E I hf st hg;subst hP hw hK;obtain⟨hz,hI,⟨p,q,hO⟩,h1,h2⟩:=st;obtain⟨xs,ys,q1,q2,he⟩:=hg;obtain⟨is1,v1,g1⟩:=I.sq q1;obtain⟨is2,v2,g2⟩:=I.sq q2;have n1:=v1.length;have n2:=v2.length;refine C0 (I.ok.hd hc) D hz hI hO h1 h2 g1 g2 (by
   rcases he with he|he
   ·exact .inl (by simp;lia)
   ·exact .inr (by simp;lia)) λh' kp=>⟨rfl,I.turneds (t':=s.toks) hf λb o hb e=>?_⟩
  simp only[WK,Z9,or_false,not_or] at hb;exact kp b o hb.1 hb.2.2.1 hb.2.2.2.1 hb.2.2.2.2 e
 self:=λ_ _ _ _ _ st h=>wpAny_pyIter_zip st.1 h
section
variable {GX:List Yv}{kt:Nat}{tp p:Pos}{a b:Yv}
theorem LW:XG "zip"=some (.type "zip"):=by decide+kernel
def RL (K:Wv)(ta:TA):TI:=λσ H R=>ta σ H λvs H1=>∃l1 l2 a1 a2 xs ys,vs=[.ref a1,.ref a2]/\C2 l1 K H1 a1 xs/\C2 l2 K H1 a2 ys/\R (TU K l1 l2 a1 a2) H1
theorem LX {ta:TA}(hg:Gl X "zip")(hm:X.mg "zip"=none)(ha:PA X [a,b] ta)(hs:WY [a,b] X.env=[(false,Z0 a X.env),(false,Z0 b X.env)]:=by rfl)(cH:WY [b] X.env=[(false,Z0 b X.env)]:=by rfl) :
  PI X (.Tuple GX kt tp) (.Call (.Name "zip" p) [a,b] [] pos) (RL X.K ta):=by
 intro pins s σ H R I h;refine Call_ (vM I hg hm LW (ZA (eE (ha pos pins s σ H _ I h) λus s1 ⟨vs,H1,I1,r1,q1⟩=>?_) (by rw[hs,cH]) (by rw[cH];rfl)));obtain⟨l1,l2,a1,a2,xs,ys,rfl,g1,g2,q⟩:=q1;cases r1 with
 |cons r rr=>
  cases rr with
  |cons r' rr=>
   cases rr;cases r;cases r';obtain⟨is1,v1,m1⟩:=I1.sq g1;obtain⟨is2,v2,m2⟩:=I1.sq g2;have lt:∀(l:Bool) (c:WT) (zs:Array WB),i_ l s1.heap c zs->c<s1.heap.objs.size:=λl c zs hq=>by
    cases l with
    |true=>obtain⟨_,e,_⟩:=hq;exact WO e
    |false=>obtain⟨_,e,_⟩:=hq;exact WO e
   refine C1 m1 m2 λh' z1 z2 z3 z4 z5 kp=>wpAny_pyIter_zip z1 ?_;refine⟨_,[s1.heap.objs.size+4,s1.heap.objs.size+2,s1.heap.objs.size+3,s1.heap.objs.size,s1.heap.objs.size+1],_,_,H1,rfl,I1.kept (t':=s1.toks) λb o e=>kp b o e,Fe (zipApart_new (lt l1 a1 _ m1) (lt l2 a2 _ m2)),⟨z1,z2,⟨_,_,z3⟩,z4,z5⟩,λb hb=>?_,q⟩;have hb:s1.heap.objs.size<=b:=by
    simp only[WK,Z9,or_false] at hb;rcases hb with rfl|rfl|rfl|rfl|rfl
    ·exact Yc _ _
    ·exact Yc _ _
    ·exact Yc _ _
    ·exact WI _
    ·exact Yc _ _
   exact I1.fpOk hb (I1.hok.fresh hb)
end
noncomputable def Ii:U->Option (List U)
 | .lst us=>some us
 | .tup us=>some us
 |_=>none
noncomputable def C3 (ga:Ev->R (List U×Ev)):Ev->R (List U×Ev):=λρ=>(ga ρ).bind λx=>match x.1 with
 | [u,w]=>match Ii u,Ii w with
  |some us,some ws=>.ok (aaf (λa b=>.tup [a,b]) us ws,x.2)
  |_,_=>.stk
 |_=>.stk
section
variable {GX:List Yv}{kt:Nat}{tp p1:Pos}{a b:Yv}{b1:Bool}{ga:Ev->R (List U×Ev)}
theorem Ff (e:Ii u=some us)(h:Rp K H A u v):∃l a xs,v=.ref a/\us.length<=WE/\aO K H A us xs/\C2 l K H a xs/\∀H',fh A H H'->(∀b,A b->Mu (H b))->C2 l K H' a xs:=by
 unfold Ii at e;split at e;rotate_right
 ·cases e
 rotate_left
 ·cases e;unfold Rp at h;obtain⟨a,xs,rfl,q,l,z⟩:=h;exact⟨false,a,xs,rfl,l,z,gK.of q,λH' x mu=>gK.of (x a _ (λy=>by have:=mu a y;rw[q] at this;exact this) q)⟩
 ·cases e;unfold Rp at h;obtain⟨a,xs,rfl,na,q,l,z⟩:=h;exact⟨true,a,xs,rfl,l,z,f7.of q,λH' x mu=>f7.of (x a _ na q)⟩
theorem Af (ha:DA X G [a,b] b1 false ga)(hm:X.mg "zip"=none)(hg:Gl X "zip":=by rfl)(hs:WY [a,b] X.env=[(false,Z0 a X.env),(false,Z0 b X.env)]:=by rfl)(cH:WY [b] X.env=[(false,Z0 b X.env)]:=by rfl) :
  DI X G (.Tuple GX kt tp) (.Call (.Name "zip" p1) [a,b] [] pos) b1 false (C3 ga):=⟨(LX hg hm ha.un hs cH).to λσ H RR h00=>by
 obtain⟨Z,A,ρ,q,f⟩:=h00;unfold C3 at f;cases e1:ga ρ with
 |stk=>rw[e1] at f;exact f.elim
 |exc=>rw[e1] at f;exact f.elim
 |ok y=>
  obtain⟨us,ρ1⟩:=y;rw[e1] at f;dsimp only[L2.R.bind] at f;refine⟨Z,A,ρ,q,?_⟩;rw[e1];intro vs H1 q1 x1 s1 vm;split at f
  ·rename_i Vn ρ' e2;split at e2
   ·rename_i u w';split at e2
    ·rename_i as bs ea eb;cases e2;have r:=vm.rps;unfold aO at r;obtain⟨v,vr,rfl,r1,r2⟩:=r;unfold aO at r2;obtain⟨v',vr',rfl,r3,r4⟩:=r2;unfold aO at r4;subst r4;obtain⟨l1,a1,xs,rfl,n1,z1,k1,za⟩:=Ff ea r1;obtain⟨l2,a2,ys,rfl,n2,z2,k2,lG⟩:=Ff eb r3;refine⟨l1,l2,a1,a2,xs,ys,rfl,k1,k2,f _ H1 q1 x1 s1 ⟨?_,λH2 A' hx AQ=>?_⟩⟩
     ·rw[abc];exact Xz (Nat.min_le_left _ _) n1
     ·rw[hU WA] at hx;have Tq:=za H2 hx q1.mu;have Tr:=lG H2 hx q1.mu;have w1:=z1.re q1.mu hx AQ;have w2:=z2.re q1.mu hx AQ;refine⟨λi u hu=>?_,⟨xs,ys,Tq,Tr,?_⟩⟩
      ·rw[List.getElem?_zipWith] at hu;cases hA:as[i]? with
       |none=>rw[hA] at hu;cases hu
       |some ua=>cases hB:bs[i]? with
        |none=>rw[hA,hB] at hu;cases hu
        |some ub=>
         rw[hA,hB] at hu;cases hu;obtain⟨x,hx1,px⟩:=w1.get hA;obtain⟨y,hy1,py⟩:=w2.get hB;refine⟨⟨xs,ys,x,y,Tq,Tr,hx1,hy1⟩,λx' H' yl=>?_⟩;obtain⟨T,x2,y2,rfl,hT,rfl,g1,g2⟩:=yl;have ex:x2=x:=by have:=g1 xs Tq;rw[hx1] at this;cases this;rfl
         have ey:y2=y:=by have:=g2 ys Tr;rw[hy1] at this;cases this;rfl
         subst ex ey;have sm:=cW hT (.tup [x2,y2]);refine⟨sm,?_⟩;unfold Rp;exact⟨T,_,rfl,bT,by have:WE=16777216:=rfl;rw[this];simp,aO.cons (px.same sm) (aO.cons (py.same sm) aO.nil)⟩
      ·rw[abc,←z1.length,←z2.length];rcases Nat.le_total as.length bs.length with z|z
       ·exact .inl (by rw[ZL z];exact WI _)
       ·exact .inr (by rw[Nat.min_eq_right z];exact WI _)
    ·cases e2
   ·cases e2
  ·exact f.elim⟩
end
end L2
namespace L2
section
variable {e:Yv}{p1 p2 p3 p4:Pos}{b1:Bool}{m1 m:Md}{g1:Ev->R (U×Ev)}{v:Option Yv}{w:Option Yv}
theorem LY {g:Ev->SR}(h:∀ρ,∃c u,g ρ=.exc c u)(hW:∀H,¬G.W H:=by exact λ_ h=>h):DS X G m (.Raise v w pos) g:=⟨λpins s σ H D I h00=>by
 obtain⟨Z,A,ρ,q,f⟩:=h00;obtain⟨c,u,e⟩:=h ρ;rw[e] at f;exact absurd (f H q.bas) (hW H)⟩
end
end L2
namespace L2
theorem nr {α:Sort _}{a b:α}(h:a=b):a=b:=h
noncomputable def look (o:Option (Option U))(ρ:Ev):R (U×Ev):=match o with
 |some (some u)=>.ok (u,ρ)
 |_=>.stk
noncomputable def TV (u:U)(ρ:Ev):R (Bool×Ev):=match u with
 | .bl c=>.ok (c,ρ)
 |_=>.stk
noncomputable def QO (o:Option U):R U:=match o with
 |some u=>.ok u
 |none=>.stk
noncomputable def SR.seq (r:SR)(g:Ev->SR):SR:=match r with
 | .nx ρ=>g ρ
 |r=>r
noncomputable def SR.turn (r:SR)(g:Ev->SR):SR:=match r with
 | .nx ρ=>g ρ
 | .ct ρ=>g ρ
 | .bk ρ=>.nx ρ
 |r=>r
noncomputable def Ou (m:Md)(r:SR):R U:=match r with
 | .rt u _=>.ok u
 | .nx _=>if m=.S then .ok .non else .stk
 | .exc c u=>.exc c u
 |_=>.stk
noncomputable def io0 (u:U)(o:Option (Option U)):R (U×U):=match o with
 |some (some w)=>.ok (u,w)
 |_=>.stk
noncomputable def fy (r:SR):R (U×U):=match r with
 | .rt u ρ=>io0 u ρ[0]?
 | .nx ρ=>io0 .non ρ[0]?
 | .exc c u=>.exc c u
 |_=>.stk
section
variable {w:U}{α β:Type}{g g1 g2 g3:Ev->R (U×Ev)}{h h1 h2:Ev->R (Bool×Ev)}{s s1 s2:Ev->SR}{ga:Ev->R (List U×Ev)}{m:Md}{ws:List U}
theorem Jx:ag i ρ=look ρ[i]? ρ:=nr rfl
theorem Fg:look (some (some u)) ρ=.ok (u,ρ):=nr rfl
theorem TX:gC u ρ=.ok (u,ρ):=nr rfl
theorem C4 {a:α}{f:α->R β}:(R.ok a).bind f=f a:=nr rfl
theorem Jy {f:α->R β}:(R.stk:R α).bind f=.stk:=nr rfl
theorem rX {a:α}{f:α->SR}:SR.of (R.ok a) f=f a:=nr rfl
theorem Ov {p:U->U->R U}:aJ p g1 g2 ρ=(g1 ρ).bind λx=>(g2 x.2).bind λy=>(p x.1 y.1).bind λz=>.ok (z,y.2):=nr rfl
theorem TY:gB g ρ=(g ρ).bind λx=>TV x.1 x.2:=nr rfl
theorem Jz {c:Bool}:TV (.bl c) ρ=.ok (c,ρ):=nr rfl
theorem Fh:ox h1 h2 ρ=(h1 ρ).bind λx=>if x.1=true then h2 x.2 else .ok (false,x.2):=nr rfl
theorem JA:HL h1 h2 ρ=(h1 ρ).bind λx=>if x.1=true then .ok (true,x.2) else h2 x.2:=nr rfl
theorem Fi:EC h ρ=(h ρ).bind λx=>.ok (!x.1,x.2):=nr rfl
theorem JB:CF g1 g2 ρ=(gB g1 ρ).bind λx=>if x.1=true then g2 x.2 else .ok (.bl false,x.2):=nr rfl
theorem Ow:UP g1 g2 ρ=(gB g1 ρ).bind λx=>if x.1=true then .ok (.bl true,x.2) else g2 x.2:=nr rfl
theorem JC:RB g ρ=(gB g ρ).bind λx=>.ok (.bl (!x.1),x.2):=nr rfl
theorem Ox:RC h g1 g2 ρ=(h ρ).bind λx=>if x.1=true then g1 x.2 else g2 x.2:=nr rfl
noncomputable def TZ (p':U->U->R U)(g3:Ev->R (U×Ev))(y:U×Ev)(z:U):R (U×Ev):=match z with
 | .bl k=>if k=true then (g3 y.2).bind λw=>(p' y.1 w.1).bind λz'=>.ok (z',w.2) else .ok (.bl false,y.2)
 |_=>.stk
theorem By {p p':U->U->R U}:rE p p' g1 g2 g3 ρ=(g1 ρ).bind λx=>(g2 x.2).bind λy=>(p x.1 y.1).bind λz=>TZ p' g3 y z:=nr rfl
theorem JD {p':U->U->R U}{y:U×Ev}{k:Bool}:TZ p' g3 y (.bl k)=if k=true then (g3 y.2).bind λw=>(p' y.1 w.1).bind λz'=>.ok (z',w.2) else .ok (.bl false,y.2):=nr rfl
theorem Oy {p:U->R U}:UQ p g ρ=(g ρ).bind λx=>(p x.1).bind λz=>.ok (z,x.2):=nr rfl
theorem Fj:ar ρ=.ok ([],ρ):=nr rfl
theorem Bz:af g ga ρ=(g ρ).bind λx=>(ga x.2).bind λy=>.ok (x.1::y.1,y.2):=nr rfl
theorem Fl:aQ ga ρ=(ga ρ).bind λx=>if x.1.length<=WE then .ok (.tup x.1,x.2) else .stk:=nr rfl
theorem Fm:bE ga ρ=(ga ρ).bind λx=>if x.1.length<=WE then .ok (.lst x.1,x.2) else .stk:=nr rfl
theorem Oz {p:List U->R U}:gG p ga ρ=(ga ρ).bind λx=>(p x.1).bind λz=>.ok (z,x.2):=nr rfl
theorem OA {f:List U->R U}:dQ n f ga ρ=(ga ρ).bind λx=>(zI n f x.1).bind λz=>.ok (z,x.2):=nr rfl
theorem JE {f:List U->R α}(h:us.length=n):zI n f us=f us:=hV h
noncomputable def T2 (n:Nat)(f:List U->R (U×U))(us:List U)(i:Nat)(ρ:Ev)(o:Option (Option U)):R (U×Ev):=match o with
 |some (some u0)=>(zI n f (u0::us)).bind λz=>.ok (z.1,ρ.set i (some z.2))
 |_=>.stk
theorem JF {f:List U->R (U×U)}:T2 n f us i ρ (some (some u))=(zI n f (u::us)).bind λz=>.ok (z.1,ρ.set i (some z.2)):=nr rfl
noncomputable def Fo (o:Option (Option U)):Bool:=match o with
 |some (some _)=>true
 |_=>false
theorem BA:Fo (some (some u))=true:=nr rfl
theorem OB {f:List U->R (U×U)}:uS n i f ga ρ=if Fo ρ[i]? = true then (ga ρ).bind λx=>T2 n f x.1 i x.2 x.2[i]? else .stk:=nr rfl
noncomputable def RM (i:Nat)(p:U->List U->R (U×U))(us:List U)(ρ:Ev)(o:Option (Option U)):R (U×Ev):=match o with
 |some (some u0)=>(p u0 us).bind λz=>.ok (z.1,ρ.set i (some z.2))
 |_=>.stk
theorem JG {p:U->List U->R (U×U)}:RM i p us ρ (some (some u))=(p u us).bind λz=>.ok (z.1,ρ.set i (some z.2)):=nr rfl
noncomputable def T3 (T:String)(i:Nat)(p:U->List U->R (U×U))(ga:Ev->R (List U×Ev))(ρ:Ev)(o:Option (Option U)):R (U×Ev):=match o with
 |some (some u1)=>if CG u1 T=true then (ga ρ).bind λx=>RM i p x.1 x.2 x.2[i]? else .stk
 |_=>.stk
theorem JH {T:String}{p:U->List U->R (U×U)}:T3 T i p ga ρ (some (some u))=if CG u T=true then (ga ρ).bind λx=>RM i p x.1 x.2 x.2[i]? else .stk:=nr rfl
theorem T4 {T:String}{p:U->List U->R (U×U)}:gM T i p ga ρ=T3 T i p ga ρ ρ[i]? := nr rfl
theorem Fp:CG (.lst us) "list"=true:=nr rfl
theorem BB:o7 ρ=.ok (none,ρ):=nr rfl
noncomputable def T5 (u:U)(ρ:Ev):R (Option Int×Ev):=match u with
 | .int i=>.ok (some i,ρ)
 |_=>.stk
theorem JI {k:Int}:T5 (.int k) ρ=.ok (some k,ρ):=nr rfl
theorem BC:mR g ρ=(g ρ).bind λx=>T5 x.1 x.2:=nr rfl
theorem OC {p:U->Option Int->Option Int->R U}{lo hi:Ev->R (Option Int×Ev)}:Jo p g lo hi ρ=(g ρ).bind λx=>(lo x.2).bind λl=>(hi l.2).bind λh=>(p x.1 l.1 h.1).bind λz=>.ok (z,h.2):=nr rfl
noncomputable def jr (T:String)(u:U)(ρ:Ev):R (U×Ev):=if QH u="script" then .stk else .ok (.bl (jb (QH u) T),ρ)
theorem Fq {T:String}:Oe T g ρ=(g ρ).bind λx=>jr T x.1 x.2:=nr rfl
theorem Fs:bF ρ=.nx ρ:=nr rfl
theorem BD:LA ρ=.bk ρ:=nr rfl
theorem Ft:N9 ρ=.ct ρ:=nr rfl
theorem ng:aK s1 s2 ρ=(s1 ρ).seq s2:=nr rfl
theorem jW:(SR.nx ρ).seq s=s ρ:=nr rfl
theorem Fu:(SR.rt u ρ).seq s=.rt u ρ:=nr rfl
theorem Fv:(SR.bk ρ).seq s=.bk ρ:=nr rfl
theorem Fw:(SR.ct ρ).seq s=.ct ρ:=nr rfl
theorem Fx:lU g ρ=SR.of (g ρ) λx=>.nx x.2:=nr rfl
theorem JJ:bg g ρ=SR.of (g ρ) λx=>.rt x.1 x.2:=nr rfl
theorem Fy:a8 i g ρ=SR.of (g ρ) λx=>.nx (x.2.set i (some x.1)):=nr rfl
theorem JK {sg:U->Ev->R Ev}:xM sg g ρ=SR.of (g ρ) λx=>SR.of (sg x.1 x.2) .nx:=nr rfl
theorem JL:ku h s1 s2 ρ=SR.of (h ρ) λx=>if x.1=true then s1 x.2 else s2 x.2:=nr rfl
noncomputable def T6 (i j:Nat)(ρ:Ev)(o:Option (Option U)):SR:=match o with
 |some (some u)=>.nx ((ρ.set j none).set i (some u))
 |_=>.stk
theorem Fz:N_ i j ρ=T6 i j ρ ρ[j]? := nr rfl
theorem JM:T6 i j ρ (some (some u))=.nx ((ρ.set j none).set i (some u)):=nr rfl
noncomputable def OD (i j:Nat)(us:List U)(ρ:Ev):SR:=match us with
 | [u,w]=>.nx ((ρ.set i (some u)).set j (some w))
 |_=>.stk
theorem JN:LB i j ga ρ=SR.of (ga ρ) λx=>OD i j x.1 x.2:=nr rfl
theorem FA:OD i j [u,w] ρ=.nx ((ρ.set i (some u)).set j (some w)):=nr rfl
noncomputable def QP (i:Nat)(v k:U)(ρ:Ev)(o:Option (Option U)):SR:=match k with
 | .int k=>match o with
  |some (some (.lst us))=>match DC us.length k with
   |some j=>.nx (ρ.set i (some (.lst (us.set j v))))
   |none=>.stk
  |_=>.stk
 |_=>.stk
theorem FC:mX i g1 g2 ρ=SR.of (g1 ρ) λx=>if Fo x.2[i]? = true then SR.of (g2 x.2) λy=>QP i x.1 y.1 y.2 y.2[i]? else .stk:=nr rfl
theorem OE {k:Int}(h:DC us.length k=some j):QP i w (.int k) ρ (some (some (.lst us)))=.nx (ρ.set i (some (.lst (us.set j w)))):=by
 unfold QP;dsimp only;rw[h]
noncomputable def OF (i:Nat)(p:U->U->R U)(g:Ev->R (U×Ev))(ρ:Ev)(o:Option (Option U)):SR:=match o with
 |some (some u)=>SR.of (g ρ) λy=>SR.of (p u y.1) λz=>.nx (y.2.set i (some z))
 |_=>.stk
theorem JO {p:U->U->R U}:RH i p g ρ=OF i p g ρ ρ[i]? := nr rfl
theorem FD {p:U->U->R U}:OF i p g ρ (some (some u))=SR.of (g ρ) λy=>SR.of (p u y.1) λz=>.nx (y.2.set i (some z)):=nr rfl
theorem JP {gi:Ev->R (List U×Ev)}{sg:U->Ev->R Ev}:g_ gi sg s ρ=SR.of (gi ρ) λx=>gb sg s x.1 x.2:=nr rfl
theorem BE {sg:U->Ev->R Ev}:gb sg s [] ρ=.nx ρ:=nr rfl
theorem FE:gb sg s (u::us) ρ=SR.of (sg u ρ) λρ1=>(s ρ1).turn (gb sg s us):=nr rfl
theorem BF:(SR.nx ρ).turn s=s ρ:=nr rfl
theorem BG:(SR.ct ρ).turn s=s ρ:=nr rfl
theorem BH:(SR.bk ρ).turn s=.nx ρ:=nr rfl
theorem BI:(SR.rt u ρ).turn s=.rt u ρ:=nr rfl
noncomputable def Ij (u:U)(ρ:Ev):R (List U×Ev):=match u with
 | .lst us=>.ok (us,ρ)
 | .tup us=>.ok (us,ρ)
 | .scr us=>.ok (us,ρ)
 |_=>.stk
theorem FF:bW g ρ=(g ρ).bind λx=>Ij x.1 x.2:=nr rfl
theorem FG:Ij (.lst us) ρ=.ok (us,ρ):=nr rfl
theorem FH:Ij (.tup us) ρ=.ok (us,ρ):=nr rfl
theorem FI:Ij (.scr us) ρ=.ok (us,ρ):=nr rfl
noncomputable def LZ (us:List U)(ρ:Ev):R (List U×Ev):=match us with
 | [.int j]=>if -1000000<=j/\j<=1000000 then .ok (cu 0 j.toNat,ρ) else .stk
 |_=>.stk
theorem FJ:lV ga ρ=(ga ρ).bind λx=>LZ x.1 x.2:=nr rfl
theorem L0 {k:Int}:LZ [.int k] ρ=if -1000000<=k/\k<=1000000 then .ok (cu 0 k.toNat,ρ) else .stk:=nr rfl
noncomputable def FK (us:List U)(ρ:Ev):R (U×Ev):=match us with
 | [.int j]=>if zT 0 j=true then .ok (.lst (cu 0 (j-0).toNat),ρ) else .stk
 |_=>.stk
noncomputable def OG (us:List U)(ρ:Ev):R (U×Ev):=match us with
 | [.int j]=>if zT 0 j=true then .ok (.tup (cu 0 (j-0).toNat),ρ) else .stk
 |_=>.stk
theorem FN:o8 ga ρ=(ga ρ).bind λx=>FK x.1 x.2:=nr rfl
theorem FO:Of ga ρ=(ga ρ).bind λx=>OG x.1 x.2:=nr rfl
theorem OH {k:Int}(h0:0<=k)(h1:k<=1000000):zT 0 k=true:=by
 unfold zT;simp only[WX,decide_eq_true_eq];lia
theorem Ik (n:Nat)(h:n<=1000000):FK [.int n] ρ=.ok (.lst (cu 0 n),ρ):=by
 unfold FK;dsimp only;rw[hV (OH (by lia) (by lia)),show ((n:Int)-0).toNat=n by lia]
theorem Ag (n:Nat)(h:n<=1000000):LZ [.int n] ρ=.ok (cu 0 n,ρ):=by
 rw[L0,hV (by lia)];rfl
theorem JQ {gi:Ev->R (List U×Ev)}{js:List (Option Nat)}{sg:U->Ev->R Ev}:dO gi js sg h g ρ=(gi ρ).bind λx=>(Nf (Ng js sg h g x.2) x.1).bind λys=>.ok (.lst ys,x.2):=nr rfl
theorem JR {G:Gm}{gi:Ev->R (List U×Ev)}{js:List (Option Nat)}{sg:U->Ev->R Ev}:zL G gi js sg h g ρ=(gi ρ).bind λx=>(oy G js sg h g x.1 x.2).bind λy=>.ok (.lst y.1,y.2):=nr rfl
theorem JS {js:List (Option Nat)}{sg:U->Ev->R Ev}:Ng js sg h g ρ u=(sg u (jS js ρ)).bind λρi=>(h ρi).bind λc=>if c.1=true then (g ρi).bind λy=>.ok (some y.1) else .ok none:=nr rfl
theorem FP {G:Gm}{js:List (Option Nat)}{sg:U->Ev->R Ev}:oy G js sg h g [] ρ=.ok ([],ρ):=nr rfl
theorem L7:oy G js sg h g (u::us) ρ=(sg u (jS js ρ)).bind λρi=>(h ρi).bind λc=>if c.1=true then (g c.2).bind λy=>(oy G js sg h g us (wb G js y.2 ρ)).bind λr=>.ok (y.1::r.1,r.2) else oy G js sg h g us (wb G js c.2 ρ):=nr rfl
theorem FQ:fJ ρ=.ok (true,ρ):=nr rfl
theorem JT:bD i u ρ=.ok (ρ.set i (some u)):=nr rfl
theorem OI:QI ρ=.ok (.dct [] [],ρ):=nr rfl
theorem oF:dC m n s us=Ou m (s (i9 n us)):=nr rfl
theorem BJ:Ou m (.rt u ρ)=.ok u:=nr rfl
theorem FR:xP n s us=fy (s (i9 n us)):=nr rfl
theorem BK:fy (.rt u ρ)=io0 u ρ[0]? := nr rfl
theorem JU:io0 u (some (some w))=.ok (u,w):=nr rfl
theorem ya {ρ:Ev}:jS [] ρ=[]:=nr rfl
theorem u7 {js:List (Option Nat)}:jS (none::js) ρ=none::jS js ρ:=nr rfl
theorem u9 {js:List (Option Nat)}:jS (some j::js) ρ=(ρ[j]?).getD none::jS js ρ:=by
 unfold jS;rw[WQ];congr 1;dsimp only;cases ρ[j]? <;> rfl
end
section
variable {i j k:Int}{ws:List U}{w:U}{lo:Option Int}
theorem FT:dR (.int i) (.int j)=.ok (.int (i+j)):=nr rfl
theorem FU:dR (.tup us) (.tup ws)=if us.length+ws.length<=WE then .ok (.tup (us++ws)) else .stk:=nr rfl
theorem FV:dR (.lst us) (.lst ws)=if us.length+ws.length<=WE then .ok (.lst (us++ws)) else .stk:=nr rfl
theorem JV:ui (.int i) (.int j)=.ok (.int (i-j)):=nr rfl
theorem JW:c9 (.int i) (.int j)=if qb i j=true then .ok (.int (i*j)) else .stk:=nr rfl
theorem FW:mZ (.int i) (.int j)=if xS i j=true then .ok (.int (i / j)) else .stk:=nr rfl
theorem JX:rN (.int i) (.int j)=if decide (0<j)=true then .ok (.int (i % j)) else .stk:=nr rfl
theorem JY:HW (.int i) (.int j)=if HV i j=true then .ok (.int (i ^ j.toNat)) else .stk:=nr rfl
theorem JZ:RI (.int i)=.ok (.int (-i)):=nr rfl
theorem OJ:Ob (.int i) (.int j)=.ok (.bl (decide (i<j))):=nr rfl
theorem OM:LN (.int i) (.int j)=.ok (.bl (decide (i<=j))):=nr rfl
theorem ON:Oc (.int i) (.int j)=.ok (.bl (decide (j<i))):=nr rfl
theorem OO:RJ (.int i) (.int j)=.ok (.bl (decide (j<=i))):=nr rfl
theorem J0:bZ (.lst us) (.int i)=QO (og us i):=by show (match og us i with|some z=>R.ok z|none=>.stk)=_;cases og us i<;>rfl
theorem J1:bZ (.tup us) (.int i)=QO (og us i):=by show (match og us i with|some z=>R.ok z|none=>.stk)=_;cases og us i<;>rfl
theorem J2:bZ (.scr us) (.int i)=QO (og us i):=by show (match og us i with|some z=>R.ok z|none=>.stk)=_;cases og us i<;>rfl
theorem J3:QO (some u)=.ok u:=nr rfl
theorem J5:EO (.lst us) lo hi=.ok (.lst (qc us lo hi)):=nr rfl
theorem J6:EO (.tup us) lo hi=.ok (.tup (qc us lo hi)):=nr rfl
theorem J7:EO (.scr us) lo hi=.ok (.lst (qc us lo hi)):=nr rfl
theorem FX:iq [.lst us]=.ok (.int us.length):=nr rfl
theorem FY:iq [.tup us]=.ok (.int us.length):=nr rfl
theorem FZ:iq [.scr us]=.ok (.int us.length):=nr rfl
theorem F0:fL [.lst us]=.ok (.tup us):=nr rfl
theorem F1:fL [.tup us]=.ok (.tup us):=nr rfl
theorem F2:Jr [.lst us]=.ok (.lst us):=nr rfl
theorem F3:Jr [.tup us]=.ok (.lst us):=nr rfl
theorem J8 {a b:Bool}{f:Bool->Bool}:RK f (.bl a) (.bl b)=.ok (.bl (f (decide (a=b)))):=nr rfl
theorem J9 {f:Bool->Bool}:m4 f u .non=.ok (.bl (f (EN u))):=nr rfl
theorem F4:Bl [.int i,.int j]=.ok (.int (if j<i then j else i)):=nr rfl
theorem F5:Bk [.int i,.int j]=.ok (.int (if j>i then j else i)):=nr rfl
theorem OP {f:Bool->Bool}:iJ f u w=(zO u w).bind λb=>.ok (.bl (f b)):=nr rfl
theorem BL (n:Nat):og us (n:Int)=us[n]? := by
 unfold og DC;by_cases h:n<us.length
 ·rw[hV (by lia),hV (by lia)];rfl
 ·rw[hV (by lia),hU (by lia)];rw[X_.mpr (by lia)];rfl
theorem J_:og us 0=us[0]? := BL 0
theorem Ka:og us 1=us[1]? := BL 1
theorem Kb:og us 2=us[2]? := BL 2
theorem OQ (h:0<us.length):DC us.length 0=some 0:=by unfold DC;rw[hV (by lia),hV (by lia)];rfl
theorem qC (h0:0<j)(h1:j<18446744073709551616):xS i j=true:=by unfold xS;simp[h0,h1]
theorem v_ (h0:0<=i)(h1:i<18446744073709551616):qb i j=true:=by
 unfold qb;simp only[aat,WX,decide_eq_true_eq];exact .inl ⟨by lia,by lia⟩
theorem L8 (h0:0<=j)(h1:j<18446744073709551616):qb i j=true:=by
 unfold qb;simp only[aat,WX,decide_eq_true_eq];exact .inr ⟨by lia,by lia⟩
end
end L2
namespace L2
theorem BM {i:Nat}{w u:U}{us:List U}{ρ:Ev}:QP i w (.int 0) ρ (some (some (.lst (u::us))))=.nx (ρ.set i (some (.lst (w::us)))):=by
 rw[OE (j:=0) (OQ (by rw[Ww];lia))];rfl
theorem BN {ρ:Ev}:fy (.nx ρ)=io0 .non ρ[0]? := rfl
theorem rY {G:Gm}{js:List (Option Nat)}{sg:U->Ev->R Ev}{ge:Ev->R (U×Ev)}{σ:Type}(ev:σ->Ev)(N:Nat)(I:List U->σ->Prop)
  (step:∀done u s,done.length<N->I done s->∃ρi y ρi' s',sg u (jS js (ev s))=.ok ρi/\ge ρi=.ok (y,ρi')/\wb G js ρi' (ev s)=ev s'/\I (done++[y]) s') :
  ∀(us done:List U) (s:σ),done.length+us.length<=N->I done s->∃ys s',oy G js sg fJ ge us (ev s)=.ok (ys,ev s')/\ys.length=us.length/\I (done++ys) s'
 | [],done,s,_,h=>⟨[],s,rfl,rfl,by rw[Xj];exact h⟩
 |u::us,done,s,hl,h=>by
  rw[Ww] at hl;obtain⟨ρi,y,ρi',s',e1,e2,e3,h'⟩:=step done u s (by lia) h;obtain⟨ys,MR,e4,e5,h''⟩:=rY ev N I step us (done++[y]) s' (by rw[WG,ZD];lia) h';refine⟨y::ys,MR,?_,by rw[Ww,Ww,e5],by rw[W4] at h'';exact h''⟩;rw[L7,e1,C4,FQ,C4,hV rfl,e2,C4,e3,e4,C4]
theorem oG {s:Ev->SR}(I:Nat->Ev->Prop)(step:∀(i:Nat) (u:U) (ρ:Ev),us[i]? = some u->I i ρ->∃ρ1 ρ2,sg u ρ=.ok ρ1/\(s ρ1=.nx ρ2\/s ρ1=.ct ρ2)/\I (i+1) ρ2)(h:I 0 ρ) :
  ∃ρ',gb sg s us ρ=.nx ρ'/\I us.length ρ':=by
 have gen:∀(n i:Nat) (ρ:Ev),i+n=us.length->I i ρ->∃ρ',gb sg s (us.drop i) ρ=.nx ρ'/\I us.length ρ':=by
  intro n
  induction n with
  |zero=>
   intro i ρ hi h;have:i=us.length:=by lia
   subst this;rw[Z7];exact⟨ρ,rfl,h⟩
  |succ n ih=>
   intro i ρ hi h;have zi:i<us.length:=by lia
   obtain⟨ρ1,ρ2,e1,e2,h2⟩:=step i us[i] ρ (Wr zi) h;obtain⟨ρ',e3,h3⟩:=ih (i+1) ρ2 (by lia) h2;refine⟨ρ',?_,h3⟩;rw[XS zi,FE,e1,rX];rcases e2 with e2|e2<;>(rw[e2];exact e3)
 have:=gen us.length 0 ρ (by lia) h
 rwa [aaO] at this
theorem C5 (ns:List Int):lL (ns.map .int)=some (ns.map .int):=by
 induction ns with
 |nil=>unfold lL;rfl
 |cons n ns ih=>rw[WQ];unfold lL;rw[ih];unfold rO;rfl
theorem Ah (ns:List Int):j4 (ns.map .int)=0:=by
 induction ns with
 |nil=>unfold j4;rfl
 |cons n ns ih=>rw[WQ];unfold j4;rw[ih];unfold eQ;rfl
noncomputable def iL (n:Nat):List Int:=(Wu n).map λi=>(i:Nat)
theorem yb (n:Nat):cu 0 n=(iL n).map .int:=by
 unfold cu iL;rw[Ys];exact Zt λi _=>by show U.int (0+(i:Int))=.int _;rw[Int.zero_add]
theorem rZ (n:Nat):(iL n).length=n:=by unfold iL;rw[WC,X6]
theorem Ai {x:Int}:x∈iL n↔0<=x/\x<n:=by
 unfold iL;rw[Xp];constructor
 ·rintro⟨i,h,rfl⟩;have:=Xb.mp h;lia
 ·intro h;exact⟨x.toNat,Xb.mpr (by lia),by lia⟩
end L2
namespace L2
theorem inb (s:String){T:String}{u:U}{ρ:Ev}{b:Bool}(h:QH u=s)(h1:¬s="script")(h2:jb s T=b):jr T u ρ=.ok (.bl b,ρ):=by unfold jr;rw[h,hU h1,h2]
theorem pf {ρ:Ev}:jr "bool" (.non) ρ=.ok (.bl false,ρ):=inb "NoneType" rfl (by decide) (by decide)
theorem r6 {ρ:Ev}:jr "int" (.non) ρ=.ok (.bl false,ρ):=inb "NoneType" rfl (by decide) (by decide)
theorem r9 {ρ:Ev}:jr "str" (.non) ρ=.ok (.bl false,ρ):=inb "NoneType" rfl (by decide) (by decide)
theorem ph {ρ:Ev}:jr "list" (.non) ρ=.ok (.bl false,ρ):=inb "NoneType" rfl (by decide) (by decide)
theorem nh {ρ:Ev}:jr "tuple" (.non) ρ=.ok (.bl false,ρ):=inb "NoneType" rfl (by decide) (by decide)
theorem pj {ρ:Ev}:jr "dict" (.non) ρ=.ok (.bl false,ρ):=inb "NoneType" rfl (by decide) (by decide)
theorem r_ {b:Bool}{ρ:Ev}:jr "bool" (.bl b) ρ=.ok (.bl true,ρ):=inb "bool" rfl (by decide) (by decide)
theorem u_ {b:Bool}{ρ:Ev}:jr "int" (.bl b) ρ=.ok (.bl true,ρ):=inb "bool" rfl (by decide) (by decide)
theorem va {b:Bool}{ρ:Ev}:jr "str" (.bl b) ρ=.ok (.bl false,ρ):=inb "bool" rfl (by decide) (by decide)
theorem sd {b:Bool}{ρ:Ev}:jr "list" (.bl b) ρ=.ok (.bl false,ρ):=inb "bool" rfl (by decide) (by decide)
theorem pq {b:Bool}{ρ:Ev}:jr "tuple" (.bl b) ρ=.ok (.bl false,ρ):=inb "bool" rfl (by decide) (by decide)
theorem se {b:Bool}{ρ:Ev}:jr "dict" (.bl b) ρ=.ok (.bl false,ρ):=inb "bool" rfl (by decide) (by decide)
theorem pz {i:Int}{ρ:Ev}:jr "bool" (.int i) ρ=.ok (.bl false,ρ):=inb "int" rfl (by decide) (by decide)
theorem sf {i:Int}{ρ:Ev}:jr "int" (.int i) ρ=.ok (.bl true,ρ):=inb "int" rfl (by decide) (by decide)
theorem sh {i:Int}{ρ:Ev}:jr "str" (.int i) ρ=.ok (.bl false,ρ):=inb "int" rfl (by decide) (by decide)
theorem pA {i:Int}{ρ:Ev}:jr "list" (.int i) ρ=.ok (.bl false,ρ):=inb "int" rfl (by decide) (by decide)
theorem nj {i:Int}{ρ:Ev}:jr "tuple" (.int i) ρ=.ok (.bl false,ρ):=inb "int" rfl (by decide) (by decide)
theorem pB {i:Int}{ρ:Ev}:jr "dict" (.int i) ρ=.ok (.bl false,ρ):=inb "int" rfl (by decide) (by decide)
theorem pD {x:Str}{ρ:Ev}:jr "bool" (.str x) ρ=.ok (.bl false,ρ):=inb "str" rfl (by decide) (by decide)
theorem su {x:Str}{ρ:Ev}:jr "int" (.str x) ρ=.ok (.bl false,ρ):=inb "str" rfl (by decide) (by decide)
theorem sv {x:Str}{ρ:Ev}:jr "str" (.str x) ρ=.ok (.bl true,ρ):=inb "str" rfl (by decide) (by decide)
theorem pE {x:Str}{ρ:Ev}:jr "list" (.str x) ρ=.ok (.bl false,ρ):=inb "str" rfl (by decide) (by decide)
theorem nq {x:Str}{ρ:Ev}:jr "tuple" (.str x) ρ=.ok (.bl false,ρ):=inb "str" rfl (by decide) (by decide)
theorem pF {x:Str}{ρ:Ev}:jr "dict" (.str x) ρ=.ok (.bl false,ρ):=inb "str" rfl (by decide) (by decide)
theorem pG {us:List U}{ρ:Ev}:jr "bool" (.tup us) ρ=.ok (.bl false,ρ):=inb "tuple" rfl (by decide) (by decide)
theorem sC {us:List U}{ρ:Ev}:jr "int" (.tup us) ρ=.ok (.bl false,ρ):=inb "tuple" rfl (by decide) (by decide)
theorem sD {us:List U}{ρ:Ev}:jr "str" (.tup us) ρ=.ok (.bl false,ρ):=inb "tuple" rfl (by decide) (by decide)
theorem pH {us:List U}{ρ:Ev}:jr "list" (.tup us) ρ=.ok (.bl false,ρ):=inb "tuple" rfl (by decide) (by decide)
theorem nv {us:List U}{ρ:Ev}:jr "tuple" (.tup us) ρ=.ok (.bl true,ρ):=inb "tuple" rfl (by decide) (by decide)
theorem pJ {us:List U}{ρ:Ev}:jr "dict" (.tup us) ρ=.ok (.bl false,ρ):=inb "tuple" rfl (by decide) (by decide)
theorem pK {us:List U}{ρ:Ev}:jr "bool" (.lst us) ρ=.ok (.bl false,ρ):=inb "list" rfl (by decide) (by decide)
theorem sE {us:List U}{ρ:Ev}:jr "int" (.lst us) ρ=.ok (.bl false,ρ):=inb "list" rfl (by decide) (by decide)
theorem sF {us:List U}{ρ:Ev}:jr "str" (.lst us) ρ=.ok (.bl false,ρ):=inb "list" rfl (by decide) (by decide)
theorem pL {us:List U}{ρ:Ev}:jr "list" (.lst us) ρ=.ok (.bl true,ρ):=inb "list" rfl (by decide) (by decide)
theorem ny {us:List U}{ρ:Ev}:jr "tuple" (.lst us) ρ=.ok (.bl false,ρ):=inb "list" rfl (by decide) (by decide)
theorem pM {us:List U}{ρ:Ev}:jr "dict" (.lst us) ρ=.ok (.bl false,ρ):=inb "list" rfl (by decide) (by decide)
theorem pN {ρ:Ev}:jr "bool" (.dct [] []) ρ=.ok (.bl false,ρ):=inb "dict" rfl (by decide) (by decide)
theorem sG {ρ:Ev}:jr "int" (.dct [] []) ρ=.ok (.bl false,ρ):=inb "dict" rfl (by decide) (by decide)
theorem sH {ρ:Ev}:jr "str" (.dct [] []) ρ=.ok (.bl false,ρ):=inb "dict" rfl (by decide) (by decide)
theorem pO {ρ:Ev}:jr "list" (.dct [] []) ρ=.ok (.bl false,ρ):=inb "dict" rfl (by decide) (by decide)
theorem nA {ρ:Ev}:jr "tuple" (.dct [] []) ρ=.ok (.bl false,ρ):=inb "dict" rfl (by decide) (by decide)
theorem pP {ρ:Ev}:jr "dict" (.dct [] []) ρ=.ok (.bl true,ρ):=inb "dict" rfl (by decide) (by decide)
theorem cJ:type_of% @Jx/\type_of% @Fg/\type_of% @TX/\type_of% @C4/\type_of% @Jy/\type_of% @rX/\type_of% @Ov/\type_of% @TY/\type_of% @Jz/\type_of% @Fh/\type_of% @JA/\type_of% @Fi/\type_of% @JB/\type_of% @Ow/\type_of% @JC/\type_of% @Ox/\type_of% @By/\type_of% @Oy/\type_of% @Fj/\type_of% @Bz/\type_of% @Fl/\type_of% @Fm/\type_of% @Oz/\type_of% @OA/\type_of% @JF/\type_of% @BA/\type_of% @OB/\type_of% @JG/\type_of% @JH/\type_of% @T4/\type_of% @Fp/\type_of% @BB/\type_of% @JI/\type_of% @BC/\type_of% @OC/\type_of% @Fq/\type_of% @Fs/\type_of% @BD/\type_of% @Ft/\type_of% @ng/\type_of% @jW/\type_of% @Fu/\type_of% @Fv/\type_of% @Fw/\type_of% @Fx/\type_of% @JJ/\type_of% @Fy/\type_of% @JK/\type_of% @JL/\type_of% @Fz/\type_of% @JM/\type_of% @JN/\type_of% @FA/\type_of% @FC/\type_of% @JO/\type_of% @FD/\type_of% @JP/\type_of% @BE/\type_of% @BF/\type_of% @BG/\type_of% @BH/\type_of% @BI/\type_of% @FF/\type_of% @FG/\type_of% @FH/\type_of% @FI/\type_of% @FJ/\type_of% @FN/\type_of% @FO/\type_of% @JQ/\type_of% @JR/\type_of% @JS/\type_of% @FP/\type_of% @FQ/\type_of% @JT/\type_of% @OI/\type_of% @oF/\type_of% @BJ/\type_of% @FR/\type_of% @BK/\type_of% @JU/\type_of% @ya/\type_of% @u7/\type_of% @u9/\type_of% @FT/\type_of% @FU/\type_of% @FV/\type_of% @JV/\type_of% @JW/\type_of% @FW/\type_of% @JX/\type_of% @JY/\type_of% @JZ/\type_of% @OJ/\type_of% @OM/\type_of% @ON/\type_of% @OO/\type_of% @J0/\type_of% @J1/\type_of% @J2/\type_of% @J3/\type_of% @J5/\type_of% @J6/\type_of% @J7/\type_of% @FX/\type_of% @FY/\type_of% @FZ/\type_of% @F0/\type_of% @F1/\type_of% @F2/\type_of% @F3/\type_of% @J8/\type_of% @J9/\type_of% @F4/\type_of% @F5/\type_of% @OP/\type_of% @J_/\type_of% @Ka/\type_of% @Kb/\type_of% @JD/\type_of% @pf/\type_of% @r6/\type_of% @r9/\type_of% @ph/\type_of% @nh/\type_of% @pj/\type_of% @r_/\type_of% @u_/\type_of% @va/\type_of% @sd/\type_of% @pq/\type_of% @se/\type_of% @pz/\type_of% @sf/\type_of% @sh/\type_of% @pA/\type_of% @nj/\type_of% @pB/\type_of% @pD/\type_of% @su/\type_of% @sv/\type_of% @pE/\type_of% @nq/\type_of% @pF/\type_of% @pG/\type_of% @sC/\type_of% @sD/\type_of% @pH/\type_of% @nv/\type_of% @pJ/\type_of% @pK/\type_of% @sE/\type_of% @sF/\type_of% @pL/\type_of% @ny/\type_of% @pM/\type_of% @pN/\type_of% @sG/\type_of% @sH/\type_of% @pO/\type_of% @nA/\type_of% @pP/\type_of% @BM/\type_of% @BN:=
 ⟨@Jx,@Fg,@TX,@C4,@Jy,@rX,@Ov,@TY,@Jz,@Fh,@JA,@Fi,@JB,@Ow,@JC,@Ox,@By,@Oy,@Fj,@Bz,@Fl,@Fm,@Oz,@OA,@JF,@BA,@OB,@JG,@JH,@T4,@Fp,@BB,@JI,@BC,@OC,@Fq,@Fs,@BD,@Ft,@ng,@jW,@Fu,@Fv,@Fw,@Fx,@JJ,@Fy,@JK,@JL,@Fz,@JM,@JN,@FA,@FC,@JO,@FD,@JP,@BE,@BF,@BG,@BH,@BI,@FF,@FG,@FH,@FI,@FJ,@FN,@FO,@JQ,@JR,@JS,@FP,@FQ,@JT,@OI,@oF,@BJ,@FR,@BK,@JU,@ya,@u7,@u9,@FT,@FU,@FV,@JV,@JW,@FW,@JX,@JY,@JZ,@OJ,@OM,@ON,@OO,@J0,@J1,@J2,@J3,@J5,@J6,@J7,@FX,@FY,@FZ,@F0,@F1,@F2,@F3,@J8,@J9,@F4,@F5,@OP,@J_,@Ka,@Kb,@JD,@pf,@r6,@r9,@ph,@nh,@pj,@r_,@u_,@va,@sd,@pq,@se,@pz,@sf,@sh,@pA,@nj,@pB,@pD,@su,@sv,@pE,@nq,@pF,@pG,@sC,@sD,@pH,@nv,@pJ,@pK,@sE,@sF,@pL,@ny,@pM,@pN,@sG,@sH,@pO,@nA,@pP,@BM,@BN⟩
end L2
namespace Hc.Dw
def oH (h:Y8)(a:WT)(ds:Array DictEntry)(ep:Nat):Prop:=∃o,h.get? a=some o/\o.ExactDict/\o.data=.dict ds ep
theorem oH.ty (x:oH s.heap a ds ep):s.TypeIs (.ref a) "dict":=by
 obtain⟨o,e,c,_⟩:=x;exact⟨o,e,c.1⟩
theorem oH.at (x:oH h a ds ep)(e:∀o,h.get? a=some o->h'.get? a=some o):oH h' a ds ep:=by
 obtain⟨o,q,r⟩:=x;exact⟨o,e o q,r⟩
theorem oH.lt (x:oH h a ds ep):a<h.objs.size:=by obtain⟨o,e,_⟩:=x;exact WO e
section
variable {A:Xh}{d vw:WT}
theorem OR (lo:(d==YN)=false)(x:oH s.heap d ds ep)(q:Q (.ref s.heap.objs.size) {s with heap:=s.heap.push {cls:=.type "dict_keyiterator",data:=.fields #[.ref d,.int 0 0,.int ds.size 0,.int ep 0]}}):WU (W7 prog w) A (pyIter (.ref d)) Q E s:=by
 have ty:=x.ty;obtain⟨od,e1,e2,e3⟩:=x;refine abU ty F.slot_dict_iter (Xl F.slot_dict_iter ty F.entry_dict_iter ?_ (F.args_dict_iter_1 _));unfold Builtin.«dict.__iter__»;refine Wq ?_;unfold Builtin.Dict.dictSlotNone;refine Wq (wpAny_notOrdered_dict ty ?_);change WU _ _ (pure (Value.ref d)) _ _ s;refine Wt ?_;change WU _ _ (Builtin.Dict.showsAll d >>= _) _ _ s;unfold Builtin.Dict.showsAll;rw[hU (by rw[lo];exact WA)];refine Wq (Wt (Wq (aaJ e1 e3 (Wq (wpAny_dictEpoch e1 e3 ?_)))));refine Wq (Xk (Wt ⟨_,rfl,"dict_keyiterator",_,⟨_,WJ _ rfl,rfl⟩,F.slot_dict_keyiterator_next.lookup,?_⟩));simpa [abm] using q
theorem OS {Q:Option WB->WN->Prop}(t:s.heap.IsKeyIter it d i ds.size ep)(x:oH s.heap d ds ep)(hi:i<ds.size)
  (q:∀h',h'.IsKeyIter it d (i+1) ds.size ep->YD it s.heap h'->Q (some ds[i].key) {s with heap:=h'}):WU (W7 prog w) A (aaV (.ref it)) Q E s:=by
 have ty:=t.typeIs;obtain⟨oi,i1,i2,i3⟩:=t;obtain⟨od,e1,e2,e3⟩:=x;unfold aaV;refine Wq (Zs (Xo (name:=YE "__next__") ty YK (Xl YK ty aaU ?_ (aaQ _))));refine Wq (Wt (Wq (Wq ?_)))
 first|refine Wq (YG ty (Wt ?_))|refine Wq (Zm ty (Wt ?_))
 refine Wq (abH i1 i3 ?_);simp only[show aa2 "dict_keyiterator"=false by decide,W9,if_false];change WU _ _ (if (Value.ref d==Value.none)=true then _ else _) _ _ s;rw[hU (show ¬((Value.ref d==Value.none)=true) from WA)];refine Wq (Wt (Wq (aaJ e1 e3 ?_)));rw[hU (by simp)];refine Wq (Wt (Wq (wpAny_dictEpoch e1 e3 ?_)));rw[hU (by simp)];refine Wt ?_;simp only[show ¬((i:Int)<0) from by lia,if_false,X7,W5 hi];refine Wq ?_
 first|refine Wq (YG ty (Wt ?_))|refine Wq (Zm ty (Wt ?_))
 refine Wq (wpAny_isOneOf_keyiter ty ?_);change WU _ _ (setField (.ref it) 1 (abm ((i:Int)+1)) >>= _) _ _ s;refine Wq (Zx i1 i3 (by simp) ?_);have t':(s.heap.update it (Obj.mapFields (·.setIfInBounds 1 (abm ((i:Int)+1))))).IsKeyIter it d (i+1) ds.size ep:=
  ⟨_,Yh _ i1 (ZK (Yl i3 _)),(aaI ..).trans i2,by rw[Yl i3];simp[abm]⟩
 refine Wq (X4 (Wq ?_));refine wpAny_isOneOf_keyiter (s:={s with heap:=s.heap.update it (Obj.mapFields (·.setIfInBounds 1 (abm ((i:Int)+1))))}) t'.typeIs ?_;change WU _ _ (pure ds[i].key) _ _ _;exact Wt (Wt ⟨_,rfl,Wt (q _ t' (XJ ..))⟩)
theorem OT {Q:Option WB->WN->Prop}(hh:A.handled=none)(t:s.heap.IsKeyIter it d i ds.size ep)(x:oH s.heap d ds ep)(hi:ds.size<=i)
  (q:∀h',Heap.ExtBut it s.heap h'->Q none {s with heap:=h'}):WU (W7 prog w) A (aaV (.ref it)) Q E s:=by
 have ty:=t.typeIs;obtain⟨oi,i1,i2,i3⟩:=t;obtain⟨od,e1,e2,e3⟩:=x;unfold aaV;refine Wq (Zs (Xo (name:=YE "__next__") ty YK (Xl YK ty aaU ?_ (aaQ _))));refine Wq (Wt (Wq (Wq ?_)))
 first|refine Wq (YG ty (Wt ?_))|refine Wq (Zm ty (Wt ?_))
 refine Wq (abH i1 i3 ?_);simp only[show aa2 "dict_keyiterator"=false by decide,W9,if_false];change WU _ _ (if (Value.ref d==Value.none)=true then _ else _) _ _ s;rw[hU (show ¬((Value.ref d==Value.none)=true) from WA)];refine Wq (Wt (Wq (aaJ e1 e3 ?_)));rw[hU (by simp)];refine Wq (Wt (Wq (wpAny_dictEpoch e1 e3 ?_)));rw[hU (by simp)];refine Wt ?_;simp only[show ¬((i:Int)<0) from by lia,if_false,X7,aaA hi];refine Wq ?_
 first|refine Wq (YG ty (Wt ?_))|refine Wq (Zm ty (Wt ?_))
 change WU _ _ (setField (.ref it) 0 .none >>= _) _ _ s;refine Wq (Zx i1 i3 (by simp) ?_);change WU _ _ (newExc (.type "StopIteration") [] >>= _) _ _ _;refine Wq ?_;simp only[newExc,newTuple];refine Wq (Xk (hd:=by size_fits) ?_);refine Wq (m:=Z2 _ _) (aaH (a:=Value.none) (by first|rfl|(simp only[Z2];rfl)) (Xk (hd:=by size_fits) ?_));simp only[raiseNew];refine Wq (wpAny_handled ?_);rw[show A.in1.handled=none from hh];refine Wq (Wt (wpAny_throw ?_));refine Wq (Z6 (b:=true) (T:="StopIteration") ⟨_,WJ _ rfl,rfl⟩ isSubtype_stop ?_);exact Wt (q _ (((XJ ..).extBut.push _).push _))
end
end Hc.Dw
namespace L2
open Hc.Dw
theorem sI {α β:Type}{R:α->β->Prop}:∀{xs:List α} {ys:List β} {i:Nat} {y:β},abk R xs ys->ys[i]? = some y->∃x,xs[i]? = some x/\R x y
 |_,_,_,_,.nil,h=>by simp at h
 |x::xs,y'::ys,0,y,.cons r t,h=>by simp at h;subst h;exact⟨x,by simp,r⟩
 |x::xs,y'::ys,i+1,y,.cons r t,h=>by
  obtain⟨x',m,q⟩:=sI t (i:=i) (by simpa using h);exact⟨x',by simpa using m,q⟩
theorem aN.rawD (I:aN X pins σ H s)(q:H a=some (DN a ep es)):(a==YN)=false/\∃ds,oH s.heap a ds ep/\ds.size=es.length/\∀(i:Nat) (hi:i<ds.size),∃e,es[i]? = some e/\ds[i].key=.ref e.2.1/\bu e.2.2 ds[i].val:=by
 obtain⟨⟨l,o,ds,xs,h1,h2,h3,h4,h5⟩,_⟩:=I.hok a _ q;have n1:ds.size=es.length:=by rw[←Wx,h5,WC,Paired.length h4]
 refine⟨l,ds,⟨o,h1,h2,h3⟩,n1,λi hi=>?_⟩;have e1:ds.toList[i]? = some ds[i]:=by rw[WS];exact getElem?_pos ds i hi
 rw[h5,Xc] at e1;cases e2:xs[i]? with
 |none=>rw[e2] at e1;cases e1
 |some x=>
  rw[e2] at e1;have e3:N3 x=ds[i]:=by injection e1
  obtain⟨e,m,r⟩:=sI h4 e2;refine⟨e,m,?_,?_⟩
  ·rw[←e3,r.2.1];rfl
  ·rw[←e3];exact r.2.2
structure M0 (X:Cx)(o:Yv)(m:Str)(gR cpos:Pos):Prop where
 base:aan o m X.env (Z0 o X.env)=Z0 o X.env
 few:((Zc cpos (WY [] X.env)).all (λx=> !x.1)&&(backToKw cpos (aa9 [] X.env)).all (λx=>x.1.isSome)
  && decide (([]:List Yv).length+([]:List aaR).length+(if ([]:List aaR).isEmpty then 0 else 1)<30))=true
 line:(gR.endLine==cpos.line)=true
 trees:Zc cpos (WY [] X.env)=[]
end L2
namespace L2
open Hc.Dw
mutual
theorem OU {K:Wv}{H:Hp}{A:WT->Prop}:∀{u:U} {v:V},KH H u v->Rp K H A u v
 | .int i,v,h=>by unfold KH at h;unfold Rp;exact h
 | .tup us,v,h=>by
  unfold KH at h;unfold Rp;obtain⟨b,ys,e,q,l,z⟩:=h;exact⟨b,ys,e,q,l,Aj z⟩
 | .non,v,h=>by unfold KH at h;exact h.elim
 | .bl _,v,h=>by unfold KH at h;exact h.elim
 | .str _,v,h=>by unfold KH at h;exact h.elim
 | .lst _,v,h=>by unfold KH at h;exact h.elim
 | .dct _ _,v,h=>by unfold KH at h;exact h.elim
 | .scr _,v,h=>by unfold KH at h;exact h.elim
theorem Aj {K:Wv}{H:Hp}{A:WT->Prop}:∀{us:List U} {vs:List V},rq H us vs->aO K H A us vs
 | [],vs,h=>by unfold rq at h;unfold aO;exact h
 |u::us,vs,h=>by
  unfold rq at h;unfold aO;obtain⟨x,r,q,p,z⟩:=h;exact⟨x,r,q,OU p,Aj z⟩
end
theorem Kc (h:zC H us b):Rp K H A (.tup us) (.ref b):=by
 obtain⟨_,ys,q,l,z⟩:=h;unfold Rp;exact⟨b,ys,rfl,q,l,Aj z⟩
noncomputable def RN:U->Bool
 | .tup _=>true
 |_=>false
noncomputable def OV (ks:List U):Bool:= !ks.isEmpty&&ks.all RN
theorem F6 (w:OV ks=true)(d:CD H a ks xs):∃es ep,H a=some (DN a ep es)/\(∀e∈es,zC H e.1 e.2.1)/\ks=es.map (λp=>.tup p.1)/\xs=es.map (·.2.2):=by
 unfold OV at w;rw[WX] at w;rcases d with⟨cC,h,rfl,rfl⟩|⟨es,n,h,e1,e2⟩
 ·exfalso;cases cC with
  |nil=>exact absurd w.1 (by simp)
  |cons p r=>
   have:=w.2;rw[WQ,aaq,WX] at this;obtain⟨p1,p2⟩:=p;cases p1<;>cases this.1
 ·obtain⟨ep,q⟩:=h.ne n;exact⟨es,ep,q,h.key,e1,e2⟩
end L2
namespace L2
noncomputable def Gm.un (G:Gm)(i:Nat):Gm:=⟨G.own.set i false,G.io,G.W⟩
theorem jX:(G.un i).is i=false:=by
 unfold Gm.un Gm.is;dsimp only;rw[ZY,List.getElem?_set];split
 ·split<;>rfl
 ·rename_i h;exact absurd rfl h
theorem kD (h:i≠j):(G.un i).is j=G.is j:=by
 unfold Gm.un Gm.is;dsimp only;rw[ZY,ZY,W_ h]
section
variable {A':WT->Prop}{ρ':Ev}
theorem cE.un (r:cE K G Z A ρ σ H)(hi:G.io=true->i≠0):∃A',cE K (G.un i) Z A' ρ σ H:=by
 have io0:∀h:(G.un i).io=true,σ[0]? = some (some (.ref Z.a0))/\(G.un i).is 0=true:=λh=>by
  obtain⟨a,b⟩:=r.io0 h;exact⟨a,by rw[kD (hi h)];exact b⟩
 by_cases c:G.is i=true/\∃u,ρ[i]? = some (some u)
 ·obtain⟨c,u,hu⟩:=c;obtain⟨a,h1,h2,h3,h4,h5⟩:=r.own c hu;have na:¬Z.A0 a:=by
   rcases h4 with h4|⟨h4,h6⟩
   ·exact h4
   ·exact absurd h6 (hi h4)
  have sub:∀b,(A b/\b≠a)->A b:=λb z=>z.1;refine⟨λb=>A b/\b≠a,?_⟩;exact {
   slot:=λj w hj=>by
    obtain⟨v,s1,s2⟩:=r.slot j w hj;refine⟨v,s1,?_⟩;by_cases e:i=j
    ·subst e;rw[hu] at hj;cases hj;rw[h1] at s1;cases s1;rw[hU (by rw[jX];exact WA)];exact h5.rp sub λz=>z.2 rfl
    ·rw[kD e];by_cases cj:G.is j=true
     ·rw[hV cj] at s2 ⊢;obtain⟨b,e1,e2,e3,e4,e5⟩:=s2;refine⟨b,e1,⟨e2,λz=>?_⟩,e3,e4,e5.mono sub⟩;subst z e1;exact r.dis i j u w b c cj e hu hj h1 s1
     ·rw[hU cj] at s2 ⊢;exact s2.mono sub
   dis:=λj k w w' b cj ck ne hj hk sj sk=>by
    have e1:i≠j:=λz=>by subst z;rw[jX] at cj;cases cj
    have e2:i≠k:=λz=>by subst z;rw[jX] at ck;cases ck
    rw[kD e1] at cj;rw[kD e2] at ck;exact r.dis j k w w' b cj ck ne hj hk sj sk
   mu:=λb z=>r.mu b z.1
   sup:=λb z=>⟨r.sup b z,λe=>na (e▸z)⟩
   out:=λb z=>r.out b z.1
   bas:=r.bas
   io0:=io0
   len:=r.len}
 ·refine⟨A,?_⟩;exact {
   slot:=λj w hj=>by
    obtain⟨v,s1,s2⟩:=r.slot j w hj;refine⟨v,s1,?_⟩;by_cases e:i=j
    ·subst e;rw[hU (by rw[jX];exact WA)];rw[hU (λz=>c ⟨z,w,hj⟩)] at s2;exact s2
    ·rw[kD e];exact s2
   dis:=λj k w w' b cj ck ne hj hk sj sk=>by
    have e1:i≠j:=λz=>by subst z;rw[jX] at cj;cases cj
    have e2:i≠k:=λz=>by subst z;rw[jX] at ck;cases ck
    rw[kD e1] at cj;rw[kD e2] at ck;exact r.dis j k w w' b cj ck ne hj hk sj sk
   mu:=r.mu
   sup:=r.sup
   out:=r.out
   bas:=r.bas
   io0:=io0
   len:=r.len}
theorem cE.reun (r:cE K (G.un i) Z A ρ σ H):cE K G Z A (ρ.set i none) σ H where
 slot:=λj w hj=>by
  rcases cZ hj with⟨rfl,e⟩|⟨ne,e⟩
  ·cases e
  ·obtain⟨v,s1,s2⟩:=r.slot j w e;rw[kD ne] at s2;exact⟨v,s1,s2⟩
 dis:=λj k w w' a cj ck ne hj hk sj sk=>by
  rcases cZ hj with⟨rfl,e⟩|⟨n1,e1⟩
  ·cases e
  ·rcases cZ hk with⟨rfl,e⟩|⟨n2,e2⟩
   ·cases e
   ·exact r.dis j k w w' a (by rw[kD n1];exact cj) (by rw[kD n2];exact ck) ne e1 e2 sj sk
 mu:=r.mu
 sup:=r.sup
 out:=r.out
 bas:=r.bas
 io0:=λh=>by
  obtain⟨a,b⟩:=r.io0 h;refine⟨a,?_⟩;by_cases e:i=0
  ·subst e;rw[jX] at b;cases b
  ·rw[kD e] at b;exact b
 len:=by rw[XA];exact r.len
end
noncomputable def lM (i:Nat)(g:Ev->SR):Ev->SR:=λρ=>match g ρ with
 | .nx ρ'=>.nx (ρ'.set i none)
 | .bk ρ'=>.bk (ρ'.set i none)
 | .ct ρ'=>.ct (ρ'.set i none)
 | .rt u ρ'=>.rt u (ρ'.set i none)
 |r=>r
section
variable {e:Yv}{Qp:List aak}{m m1:Md}{g:Ev->SR}{g1:Ev->R (U×Ev)}{h1:Ev->R (Bool×Ev)}
theorem F7 (hi:G.io=true->i≠0){D:l_}(h:Nc X.K G m (lM i g) D σ H):Nc X.K (G.un i) m g D σ H:=by
 obtain⟨Z,A,ρ,q,f⟩:=h;obtain⟨A',q'⟩:=q.un hi;refine⟨Z,A',ρ,q',?_⟩;unfold lM at f;cases e:g ρ with
 |nx=>rw[e] at f;exact λA2 σ2 H2 q2=>f A2 σ2 H2 q2.reun
 |bk=>rw[e] at f;exact λA2 σ2 H2 q2=>f A2 σ2 H2 q2.reun
 |ct=>rw[e] at f;exact λA2 σ2 H2 q2=>f A2 σ2 H2 q2.reun
 |rt=>rw[e] at f;exact λA2 σ2 H2 v q2 vm=>f A2 σ2 H2 v q2.reun vm
 |exc=>rw[e] at f;exact f
 |stk=>rw[e] at f;exact f.elim
theorem qD (i:Nat)(h:zJ X (G.un i) m Qp g)(hi:G.io=true->i≠0:=by decide):zJ X G m Qp (lM i g):=⟨h.un.to λ_ _ _ z=>F7 hi z⟩
end
end L2
namespace Hc.Ts
noncomputable def gI:Bool->W3->Array W3->Nat->Nat->Nat->StateT W2 Sem (Option Nat):=sortPriv% PySem.Builtin.gallop
noncomputable def ir (left:Bool)(key:W3)(arr:Array W3)(base i:Nat):StateT W2 Sem (Option Bool):=do
 let x ←abI arr (base+i)
 if left then lt' x key else return (←lt' key x).map (!·)
theorem Ak (left:Bool)(key:W3)(arr:Array W3)(base n hint:Nat):gI left key arr base n hint=(do
 let mut lastofs:=0
 let mut ofs:=1
 let mut lo:=0
 let mut hi:=0
 let some right ←ir left key arr base hint|return none
 if right then
  let maxofs:=n-hint
  for _ in [0:n] do
   if ofs≥maxofs then break
   let some more ←ir left key arr base (hint+ofs)|return none
   if !more then break
   lastofs:=ofs
   ofs:=2*ofs+1
  lo:=hint+lastofs+1
  hi:=hint+min ofs maxofs
 else
  let maxofs:=hint+1
  for _ in [0:n] do
   if ofs≥maxofs then break
   let some found ←ir left key arr base (hint-ofs)|return none
   if found then break
   lastofs:=ofs
   ofs:=2*ofs+1
  lo:=hint+1-min ofs maxofs
  hi:=hint-lastofs
 for _ in [0:n] do
  if lo≥hi then break
  let m:=lo+(hi-lo) / 2
  let some more ←ir left key arr base m|return none
  if more then lo:=m+1 else hi:=m
 return some hi):=rfl
section
variable {A:Xh}
noncomputable def Il (left:Bool)(key:W3)(arr:Array W3)(base n Vw Tt:Nat):StateT W2 Sem (Option Nat):=do
 let mut lo:=Vw
 let mut hi:=Tt
 for _ in [0:n] do
  if lo≥hi then break
  let m:=lo+(hi-lo) / 2
  let some more ←ir left key arr base m|return none
  if more then lo:=m+1 else hi:=m
 return some hi
theorem BO {left:Bool}{key:W3}{lo hi:Nat}{st:W2}{Q:Option Nat->W2->Prop}(b:Nat->Bool)(hb:∀i,i<n->∀Q:Option Bool->W2->Prop,Q (some (b i)) st->wpS M A E s (ir left key arr base i) Q st)(mono:∀i j,i<=j->j<n->b j=true->b i=true)(h1:lo<=hi)(h2:hi<=n)(hl:∀i,i<lo->b i=true)(hr:∀i,hi<=i->i<n->b i=false)(h:∀k,k<=n->(∀i,i<k->b i=true)->(∀i,k<=i->i<n->b i=false)->Q (some k) st):wpS M A E s (Il left key arr base n lo hi) Q st:=by
 unfold Il;refine WM (Y6 (X0 (I:=λx c aU=>aU=st/\∃l r,c=(none,l,r)/\l<=r/\r<=n/\r-l<=n-x/\(∀i,i<l->b i=true)/\∀i,r<=i->i<n->b i=false)
  (Q:=λc aU=>aU=st/\∃k,c=(none,k,k)/\k<=n/\(∀i,i<k->b i=true)/\∀i,k<=i->i<n->b i=false) ?step ?fin ⟨rfl,lo,hi,rfl,h1,h2,by lia,hl,hr⟩) ?post)
 case fin=>
  rintro c aU ⟨rfl,l,r,rfl,a1,a2,a3,a4,a5⟩;have:l=r:=by lia
  subst this;exact⟨rfl,l,rfl,a2,a4,a5⟩
 case step=>
  rintro x c aU _ hx ⟨rfl,l,r,rfl,a1,a2,a3,a4,a5⟩;dsimp only;by_cases c:l≥r
  ·rw[hV c];have:l=r:=by lia
   subst this;exact WV ⟨rfl,l,rfl,a2,a4,a5⟩
  ·rw[hU c];refine WM (hb _ (by lia) _ ?_);dsimp only;cases e:b (l+(r-l) / 2) with
   |true=>
    rw[hV rfl];exact WV ⟨rfl,_,r,rfl,by lia,a2,by lia,λi hi=>mono i _ (by lia) (by lia) e,a5⟩
   |false=>
    rw[hU WA];refine WV ⟨rfl,l,_,rfl,by lia,by lia,by lia,a4,λi h1 h2=>?_⟩;cases e2:b i with
    |false=>rfl
    |true=>rw[mono _ i h1 h2 e2] at e;cases e
 case post=>
  rintro c aU ⟨rfl,k,rfl,a1,a2,a3⟩;exact WV (h k a1 a2 a3)
theorem vb {left:Bool}{key:W3}{hint:Nat}{st:W2}{Q:Option Nat->W2->Prop}(b:Nat->Bool)(hb:∀i,i<n->∀Q:Option Bool->W2->Prop,Q (some (b i)) st->wpS M A E s (ir left key arr base i) Q st)(mono:∀i j,i<=j->j<n->b j=true->b i=true)(hh:hint<n)(h:∀k,k<=n->(∀i,i<k->b i=true)->(∀i,k<=i->i<n->b i=false)->Q (some k) st):wpS M A E s (gI left key arr base n hint) Q st:=by
 have UA:∀i j,i<=j->j<n->b i=false->b j=false:=λi j h1 h2 e=>by
  cases e2:b j with
  |false=>rfl
  |true=>rw[mono i j h1 h2 e2] at e;cases e
 rw[Ak];refine WM (hb hint hh _ ?_);dsimp only;cases e0:b hint with
 |true=>
  rw[hV rfl];refine WM (Y6 (X0 (I:=λx c aU=>aU=st/\∃l o,c=(none,l,o)/\l<o/\x+1<=o/\hint+l<n/\b (hint+l)=true)
   (Q:=λc aU=>aU=st/\∃l o,c=(none,l,o)/\l<o/\hint+l<n/\b (hint+l)=true/\(o≥n-hint\/b (hint+o)=false)) ?step ?fin ⟨rfl,0,1,rfl,by lia,by lia,hh,e0⟩) ?post)
  case fin=>
   rintro c aU ⟨rfl,l,o,rfl,a1,a2,a3,a4⟩;exact⟨rfl,l,o,rfl,a1,a3,a4,.inl (by lia)⟩
  case step=>
   rintro x c aU _ hx ⟨rfl,l,o,rfl,a1,a2,a3,a4⟩;dsimp only;by_cases c:o≥n-hint
   ·rw[hV c];exact WV ⟨rfl,l,o,rfl,a1,a3,a4,.inl c⟩
   ·rw[hU c];refine WM (hb _ (by lia) _ ?_);dsimp only;cases e:b (hint+o) with
    |true=>
     rw[hU (by decide)];exact WV ⟨rfl,o,_,rfl,by lia,by lia,by lia,e⟩
    |false=>
     rw[hV (by decide)];exact WV ⟨rfl,l,o,rfl,a1,a3,a4,.inr e⟩
  case post=>
   rintro c aU ⟨rfl,l,o,rfl,a1,a3,a4,a5⟩;show wpS _ _ _ _ (Il left key arr base n (hint+l+1) (hint+min o (n-hint))) _ _;refine BO b hb mono (by lia) (by lia) (λi hi=>mono i _ (by lia) a3 a4) (λi h1 h2=>?_) h;rcases a5 with a5|a5
   ·lia
   ·by_cases c:o<=n-hint
    ·rw[ZL c] at h1;exact UA _ i h1 h2 a5
    ·lia
 |false=>
  rw[hU WA];refine WM (Y6 (X0 (I:=λx c aU=>aU=st/\∃l o,c=(none,l,o)/\l<o/\x+1<=o/\l<=hint/\b (hint-l)=false)
   (Q:=λc aU=>aU=st/\∃l o,c=(none,l,o)/\l<o/\l<=hint/\b (hint-l)=false/\(o≥hint+1\/b (hint-o)=true)) ?step ?fin ⟨rfl,0,1,rfl,by lia,by lia,by lia,e0⟩) ?post)
  case fin=>
   rintro c aU ⟨rfl,l,o,rfl,a1,a2,a3,a4⟩;exact⟨rfl,l,o,rfl,a1,a3,a4,.inl (by lia)⟩
  case step=>
   rintro x c aU _ hx ⟨rfl,l,o,rfl,a1,a2,a3,a4⟩;dsimp only;by_cases c:o≥hint+1
   ·rw[hV c];exact WV ⟨rfl,l,o,rfl,a1,a3,a4,.inl c⟩
   ·rw[hU c];refine WM (hb _ (by lia) _ ?_);dsimp only;cases e:b (hint-o) with
    |true=>
     rw[hV rfl];exact WV ⟨rfl,l,o,rfl,a1,a3,a4,.inr e⟩
    |false=>
     rw[hU WA];exact WV ⟨rfl,o,_,rfl,by lia,by lia,by lia,e⟩
  case post=>
   rintro c aU ⟨rfl,l,o,rfl,a1,a3,a4,a5⟩;show wpS _ _ _ _ (Il left key arr base n (hint+1-min o (hint+1)) (hint-l)) _ _;refine BO b hb mono (by lia) (by lia) (λi hi=>?_) (λi h1 h2=>UA _ i h1 h2 a4) h;rcases a5 with a5|a5
   ·lia
   ·by_cases c:o<=hint+1
    ·rw[ZL c] at hi;exact mono i _ (by lia) (by lia) a5
    ·lia
end
end Hc.Ts
namespace Hc.Ts
section
variable {O:abW}(key:W3->O.α)
def i8 (l:List W3):Prop:=l.Pairwise λx y=>O.kle (key x) (key y)
structure MI (T o ra rb:List W3):Prop where
 perm:(o++(ra++rb)).Perm T
 so:i8 key o
 sa:i8 key ra
 sb:i8 key rb
 oa:∀x∈o,∀y∈ra,O.kle (key x) (key y)
 ob:∀x∈o,∀y∈rb,O.kle (key x) (key y)
structure MH (T ra rb o:List W3):Prop where
 perm:((ra++rb)++o).Perm T
 so:i8 key o
 sa:i8 key ra
 sb:i8 key rb
 oa:∀x∈ra,∀y∈o,O.kle (key x) (key y)
 ob:∀x∈rb,∀y∈o,O.kle (key x) (key y)
variable {key}
theorem bC {r:List W3}:i8 key (l++r)↔i8 key l/\i8 key r/\∀x∈l,∀y∈r,O.kle (key x) (key y):=List.pairwise_append
theorem MI.stepA {x:List W3}(h:MI key T o (x++ra) rb)(hx:∀a∈x,∀b∈rb,O.kle (key a) (key b)):MI key T (o++x) ra rb:=by
 obtain⟨s1,s2,s3⟩:=bC.mp h.sa;refine⟨?_,bC.mpr ⟨h.so,s1,λa ha b hb=>h.oa a ha b (W8 _ hb)⟩,s2,h.sb,λa ha b hb=>?_,λa ha b hb=>?_⟩
 ·have e:o++x++(ra++rb)=o++(x++ra++rb):=by simp[W4]
  rw[e];exact h.perm
 ·rcases WW.mp ha with ha|ha
  ·exact h.oa a ha b (WL _ hb)
  ·exact s3 a ha b hb
 ·rcases WW.mp ha with ha|ha
  ·exact h.ob a ha b hb
  ·exact hx a ha b hb
theorem MI.stepB {y:List W3}(h:MI key T o ra (y++rb))(hy:∀b∈y,∀a∈ra,O.kle (key b) (key a)):MI key T (o++y) ra rb:=by
 obtain⟨s1,s2,s3⟩:=bC.mp h.sb;refine⟨?_,bC.mpr ⟨h.so,s1,λa ha b hb=>h.ob a ha b (W8 _ hb)⟩,h.sa,s2,λa ha b hb=>?_,λa ha b hb=>?_⟩
 ·refine List.Perm.trans ?_ h.perm;have e:o++y++(ra++rb)=o++((y++ra)++rb):=by simp[W4]
  have e2:o++(ra++(y++rb))=o++((ra++y)++rb):=by simp[W4]
  rw[e,e2];exact XY o (Yw rb ZM)
 ·rcases WW.mp ha with ha|ha
  ·exact h.oa a ha b hb
  ·exact hy a ha b hb
 ·rcases WW.mp ha with ha|ha
  ·exact h.ob a ha b (WL _ hb)
  ·exact s3 a ha b hb
theorem MI.endA (h:MI key T o ra []):(o++ra).Perm T/\i8 key (o++ra):=by
 refine⟨?_,bC.mpr ⟨h.so,h.sa,h.oa⟩⟩;have:=h.perm;rw[Xj] at this;exact this
theorem MI.endB (h:MI key T o [] rb):(o++rb).Perm T/\i8 key (o++rb):=⟨h.perm,bC.mpr ⟨h.so,h.sb,h.ob⟩⟩
theorem MI.last (h:MI key T o ra rb)(hl:∀b∈rb,∀a∈ra,O.kle (key b) (key a)):(o++(rb++ra)).Perm T/\i8 key (o++(rb++ra)):=
 ⟨(XY o ZM).trans h.perm,bC.mpr ⟨h.so,bC.mpr ⟨h.sb,h.sa,hl⟩,λa ha b hb=>by
  rcases WW.mp hb with hb|hb
  ·exact h.ob a ha b hb
  ·exact h.oa a ha b hb⟩⟩
theorem MH.stepA {x:List W3}(h:MH key T (ra++x) rb o)(hx:∀b∈rb,∀a∈x,O.kle (key b) (key a)):MH key T ra rb (x++o):=by
 obtain⟨s1,s2,s3⟩:=bC.mp h.sa;refine⟨?_,bC.mpr ⟨s2,h.so,λa ha b hb=>h.oa a (WL _ ha) b hb⟩,s1,h.sb,λa ha b hb=>?_,λa ha b hb=>?_⟩
 ·refine List.Perm.trans ?_ h.perm;have e:ra++rb++(x++o)=(ra++(rb++x))++o:=by simp[W4]
  have e2:ra++x++rb++o=(ra++(x++rb))++o:=by simp[W4]
  rw[e,e2];exact Yw o (XY ra ZM)
 ·rcases WW.mp hb with hb|hb
  ·exact s3 a ha b hb
  ·exact h.oa a (W8 _ ha) b hb
 ·rcases WW.mp hb with hb|hb
  ·exact hx a ha b hb
  ·exact h.ob a ha b hb
theorem MH.stepB {y:List W3}(h:MH key T ra (rb++y) o)(hy:∀a∈ra,∀b∈y,O.kle (key a) (key b)):MH key T ra rb (y++o):=by
 obtain⟨s1,s2,s3⟩:=bC.mp h.sb;refine⟨?_,bC.mpr ⟨s2,h.so,λa ha b hb=>h.ob a (WL _ ha) b hb⟩,h.sa,s1,λa ha b hb=>?_,λa ha b hb=>?_⟩
 ·have e:ra++rb++(y++o)=ra++(rb++y)++o:=by simp[W4]
  rw[e];exact h.perm
 ·rcases WW.mp hb with hb|hb
  ·exact hy a ha b hb
  ·exact h.oa a ha b hb
 ·rcases WW.mp hb with hb|hb
  ·exact s3 a ha b hb
  ·exact h.ob a (W8 _ ha) b hb
theorem MH.endB (h:MH key T [] rb o):(rb++o).Perm T/\i8 key (rb++o):=⟨h.perm,bC.mpr ⟨h.sb,h.so,h.ob⟩⟩
theorem MH.endA (h:MH key T ra [] o):(ra++o).Perm T/\i8 key (ra++o):=by
 refine⟨?_,bC.mpr ⟨h.sa,h.so,h.oa⟩⟩;have:=h.perm;rw[Xj] at this;exact this
theorem MH.first (h:MH key T ra rb o)(hl:∀b∈rb,∀a∈ra,O.kle (key b) (key a)):((rb++ra)++o).Perm T/\i8 key ((rb++ra)++o):=
 ⟨(Yw o ZM).trans h.perm,bC.mpr ⟨bC.mpr ⟨h.sb,h.sa,hl⟩,h.so,λa ha b hb=>by
  rcases WW.mp ha with ha|ha
  ·exact h.ob a ha b hb
  ·exact h.oa a ha b hb⟩⟩
end
structure lZ (M:Model)(A:Xh)(E:WB->WN->Prop)(s:WN)(O:abW)(key:W3->O.α)(knd:Z_)(D:W3->Prop):Prop where
 lt:∀(x y:W3) (st:W2) (Q:Option Bool->W2->Prop),D x->D y->XW st=knd->Q (some (O.blt (key x) (key y))) st->wpS M A E s (lt' x y) Q st
section
variable {A:Xh}{O:abW}{key:W3->O.α}{knd:Z_}{D:W3->Prop}
theorem bH {x:W3}{st:W2}{Q:W3->W2->Prop}(h:arr.toList[i]? = some x)(q:Q x st):wpS M A E s (abI arr i) Q st:=by
 have h:arr[i]? = some x:=by rw[←WS];exact h
 rw[elem'_eq,h];exact WV q
theorem mn (C:lZ M A E s O key knd D){kx:W3}{hint:Nat}{seg:List W3}{st:W2}{Q:Option Nat->W2->Prop}(M_:∀i x,seg[i]? = some x->arr.toList[base+i]? = some x)(hs:i8 key seg)(hD:∀x∈seg,D x)(hk:D kx)(kd:XW st=knd)(hh:hint<seg.length)(h:∀k,k<=seg.length->(∀x∈seg.take k,O.kle (key x) (key kx))->(∀x∈seg.drop k,O.klt (key kx) (key x))->Q (some k) st):wpS M A E s (gI false kx arr base seg.length hint) Q st:=by
 have at_:∀i,(hi:i<seg.length)->seg[i]? = some seg[i]:=λi hi=>Wr hi;refine vb (λi=> !(match seg[i]? with|some x=>O.blt (key kx) (key x)|none=>false)) (λi hi Q q=>?_) (λi j uE hj e=>?_) hh λk AO h1 h2=>h k AO (λx hx=>?_) λx hx=>?_
 ·rw[at_ i hi] at q;unfold ir;refine WM (bH (M_ i _ (at_ i hi)) ?_);rw[hU WA];exact WM (C.lt _ _ st _ hk (hD _ (Xm hi)) kd (WV q))
 ·have hi:i<seg.length:=by lia
  simp only[at_ i hi,at_ j hj,Bool.not_eq_true'] at e ⊢;by_cases c:i=j
  ·subst c;exact e
  ·have:=Za.mp hs i j hi hj (by lia);exact Xa this e
 ·obtain⟨i,hi,rfl⟩:=YH.mp hx;rw[Xr] at hi;have:=h1 i (by lia);simp only[at_ i (by lia),Bool.not_eq_true'] at this;rw[aaK];exact this
 ·obtain⟨i,hi,rfl⟩:=YH.mp hx;rw[X1] at hi;have:=h2 (k+i) (by lia) (by lia);simp only[at_ (k+i) (by lia),Bool.not_eq_false'] at this;rw[List.getElem_drop];exact this
theorem mq (C:lZ M A E s O key knd D){kx:W3}{hint:Nat}{seg:List W3}{st:W2}{Q:Option Nat->W2->Prop}(M_:∀i x,seg[i]? = some x->arr.toList[base+i]? = some x)(hs:i8 key seg)(hD:∀x∈seg,D x)(hk:D kx)(kd:XW st=knd)(hh:hint<seg.length)(h:∀k,k<=seg.length->(∀x∈seg.take k,O.klt (key x) (key kx))->(∀x∈seg.drop k,O.kle (key kx) (key x))->Q (some k) st):wpS M A E s (gI true kx arr base seg.length hint) Q st:=by
 have at_:∀i,(hi:i<seg.length)->seg[i]? = some seg[i]:=λi hi=>Wr hi;refine vb (λi=>match seg[i]? with|some x=>O.blt (key x) (key kx)|none=>false) (λi hi Q q=>?_) (λi j uE hj e=>?_) hh λk AO h1 h2=>h k AO (λx hx=>?_) λx hx=>?_
 ·rw[at_ i hi] at q;unfold ir;refine WM (bH (M_ i _ (at_ i hi)) ?_);rw[hV rfl];exact C.lt _ _ st _ (hD _ (Xm hi)) hk kd q
 ·have hi:i<seg.length:=by lia
  simp only[at_ i hi,at_ j hj] at e ⊢;by_cases c:i=j
  ·subst c;exact e
  ·have:=Za.mp hs i j hi hj (by lia);exact KeyOrd.klt_of_kle_of_klt this e
 ·obtain⟨i,hi,rfl⟩:=YH.mp hx;rw[Xr] at hi;have:=h1 i (by lia);simp only[at_ i (by lia)] at this;rw[aaK];exact this
 ·obtain⟨i,hi,rfl⟩:=YH.mp hx;rw[X1] at hi;have:=h2 (k+i) (by lia) (by lia);simp only[at_ (k+i) (by lia)] at this;rw[List.getElem_drop];exact this
end
end Hc.Ts
namespace Hc.Ts
noncomputable abbrev dG (st:W2)(g:Nat):W2:=SortSt.mk' (XW st) (Xg st) (Xd st) g (aaa st)
noncomputable def cm (g:Nat):StateT W2 Sem Unit:=modify λs=>dG s g
noncomputable def sJ:Array W3->Array W3->StateT W2 Sem (Array W3):=sortPriv% PySem.Builtin.mergeLo
noncomputable abbrev Kd:=Option (Array W3)×Array W3×Nat×Nat×Nat×Nat×Nat
noncomputable abbrev Ni:=Option (Array W3)×Array W3×Nat×Nat×Nat×Nat
noncomputable abbrev QQ:=Option (Array W3)×Array W3×Nat×Nat×Nat
noncomputable def ic (a b out:Array W3)(ia ib:Nat):Array W3:=out++a.extract ia a.size++b.extract ib b.size
noncomputable def mw (a b out:Array W3)(ia ib:Nat):Array W3:=out++b.extract ib b.size++a.extract ia a.size
noncomputable def Im (a b out:Array W3)(ia ib g k k1:Nat):StateT W2 Sem (ForInStep Kd):=do
 let x ←abI a ia
 if (ia+1+1==a.size)=true then pure (.done (some (mw a b (out.push x) (ia+1) ib),out.push x,ia+1,ib,g,k,k1))
 else if (decide (k<7)&&decide (k1<7))=true then pure (.done (none,out.push x,ia+1,ib,g,k,k1))
 else pure (.yield (none,out.push x,ia+1,ib,g,k,k1))
noncomputable def Io (a b out:Array W3)(ia ib g k bc:Nat):StateT W2 Sem (ForInStep Kd):=do
 let y ←abI b ib
 if (ib+1==b.size)=true then pure (.done (some (ic a b (out.push y) ia (ib+1)),out.push y,ia,ib+1,g,k,bc))
 else do
  let x ←abI a ia
  let some k1 ←gI true x b (ib+1) (b.size-(ib+1)) 0|pure (.done (some (ic a b (out.push y) ia (ib+1)),out.push y,ia,ib+1,g,k,bc))
  if k1>0 then
   if (ib+1+k1==b.size)=true then pure (.done (some (ic a b (out.push y++b.extract (ib+1) (ib+1+k1)) ia (ib+1+k1)),out.push y++b.extract (ib+1) (ib+1+k1),ia,ib+1+k1,g,k,k1))
   else Im a b (out.push y++b.extract (ib+1) (ib+1+k1)) ia (ib+1+k1) g k k1
  else Im a b (out.push y) ia (ib+1) g k k1
noncomputable def Iq (a b out:Array W3)(ia ib g ac bc:Nat):StateT W2 Sem (ForInStep Kd):=do
 cm g
 let y ←abI b ib
 let some k ←gI false y a ia (a.size-ia) 0|pure (.done (some (ic a b out ia ib),out,ia,ib,g,ac,bc))
 if k>0 then
  if (ia+k+1==a.size)=true then pure (.done (some (mw a b (out++a.extract ia (ia+k)) (ia+k) ib),out++a.extract ia (ia+k),ia+k,ib,g,k,bc))
  else if (ia+k==a.size)=true then pure (.done (some (ic a b (out++a.extract ia (ia+k)) (ia+k) ib),out++a.extract ia (ia+k),ia+k,ib,g,k,bc))
  else Io a b (out++a.extract ia (ia+k)) (ia+k) ib g k bc
 else Io a b out ia ib g k bc
noncomputable def RO (a b:Array W3)(_:Nat)(c:Kd):StateT W2 Sem (ForInStep Kd):=
 if c.2.2.2.2.1>1 then Iq a b c.2.1 c.2.2.1 c.2.2.2.1 (c.2.2.2.2.1-1) c.2.2.2.2.2.1 c.2.2.2.2.2.2
 else Iq a b c.2.1 c.2.2.1 c.2.2.2.1 c.2.2.2.2.1 c.2.2.2.2.2.1 c.2.2.2.2.2.2
noncomputable def RP (a b:Array W3)(g:Nat)(_:Nat)(c:Ni):StateT W2 Sem (ForInStep Ni):=do
 let y ←abI b c.2.2.2.1
 let x ←abI a c.2.2.1
 let some bWins ←lt' y x|pure (.done (some (ic a b c.2.1 c.2.2.1 c.2.2.2.1),c.2.1,c.2.2.1,c.2.2.2.1,c.2.2.2.2.1,c.2.2.2.2.2))
 if bWins=true then do
   let y ←abI b c.2.2.2.1
   if (c.2.2.2.1+1==b.size)=true then pure (.done (some (ic a b (c.2.1.push y) c.2.2.1 (c.2.2.2.1+1)),c.2.1.push y,c.2.2.1,c.2.2.2.1+1,0,c.2.2.2.2.2+1))
   else if c.2.2.2.2.2+1≥g then pure (.done (none,c.2.1.push y,c.2.2.1,c.2.2.2.1+1,0,c.2.2.2.2.2+1))
   else pure (.yield (none,c.2.1.push y,c.2.2.1,c.2.2.2.1+1,0,c.2.2.2.2.2+1))
 else do
   let x ←abI a c.2.2.1
   if (c.2.2.1+1+1==a.size)=true then pure (.done (some (mw a b (c.2.1.push x) (c.2.2.1+1) c.2.2.2.1),c.2.1.push x,c.2.2.1+1,c.2.2.2.1,c.2.2.2.2.1+1,0))
   else if c.2.2.2.2.1+1≥g then pure (.done (none,c.2.1.push x,c.2.2.1+1,c.2.2.2.1,c.2.2.2.2.1+1,0))
   else pure (.yield (none,c.2.1.push x,c.2.2.1+1,c.2.2.2.1,c.2.2.2.2.1+1,0))
noncomputable def RQ (a b:Array W3)(_:Nat)(c:QQ):StateT W2 Sem (ForInStep QQ):=do
 let d ←forIn [0:a.size+b.size] (none,c.2.1,c.2.2.1,c.2.2.2.1,0,0) (RP a b c.2.2.2.2)
 match d.1 with
 |some r=>pure (.done (some r,d.2.1,d.2.2.1,d.2.2.2.1,c.2.2.2.2))
 |none=>do
  liftM (rule "list.sort.gallop")
  let e ←forIn [0:a.size+b.size] (none,d.2.1,d.2.2.1,d.2.2.2.1,c.2.2.2.2+1,d.2.2.2.2.1,d.2.2.2.2.2) (RO a b)
  match e.1 with
  |some r=>pure (.done (some r,e.2.1,e.2.2.1,e.2.2.2.1,e.2.2.2.2.1))
  |none=>do
   cm (e.2.2.2.2.1+1)
   pure (.yield (none,e.2.1,e.2.2.1,e.2.2.2.1,e.2.2.2.2.1+1))
theorem wa (a b:Array W3):sJ a b=(do
  liftM (rule "list.sort.merge-lo")
  let y ←abI b 0
  if (1==b.size)=true then pure (ic a b #[y] 0 1)
  else if (0+1==a.size)=true then pure (mw a b #[y] 0 1)
  else do
   let st ←get
   let c ←forIn [0:a.size+b.size] ((none,#[y],0,1,abB st):QQ) (RQ a b)
   match c.1 with
   |some r=>pure r
   |none=>liftM (aaG "internal:list.sort.merge-bound")):=by kernel_rfl
section
variable {A:Xh}{O:abW}{key:W3->O.α}{knd:Z_}{D:W3->Prop}
theorem qE (a:Array W3)(i:Nat):(a.extract i a.size).toList=a.toList.drop i:=by
 rw[Zd,Zb];exact YY (by simp)
theorem wc (a:Array W3)(i k:Nat):(a.extract i (i+k)).toList=(a.toList.drop i).take k:=by
 rw[Zd,Zb,Ym]
theorem yc (a b out:Array W3)(ia ib:Nat):(ic a b out ia ib).toList=out.toList++(a.toList.drop ia++b.toList.drop ib):=by
 unfold ic;rw[Xt,Xt,qE,qE,W4]
theorem F8 (a b out:Array W3)(ia ib:Nat):(mw a b out ia ib).toList=out.toList++(b.toList.drop ib++a.toList.drop ia):=by
 unfold mw;rw[Xt,Xt,qE,qE,W4]
theorem ly (h:i<l.length):l.drop i=[l[i]]++l.drop (i+1):=XS h
theorem sL (i k:Nat):l.drop i=(l.drop i).take k++l.drop (i+k):=by rw[←List.drop_drop,XZ]
def qF (key:W3->O.α)(T:List W3)(r:Array W3):Prop:=r.toList.Perm T/\i8 key r.toList
structure LI (key:W3->O.α)(T:List W3)(a b out:Array W3)(ia ib:Nat):Prop where
 ha:ia+1<a.size
 hb:ib<b.size
 mi:MI key T out.toList (a.toList.drop ia) (b.toList.drop ib)
structure LR (key:W3->O.α)(D:W3->Prop)(a b:Array W3):Prop where
 da:∀x∈a.toList,D x
 db:∀x∈b.toList,D x
 last:∀i,i+1=a.size->∀y∈b.toList,∀x,a.toList[i]? = some x->O.kle (key y) (key x)
variable {a b out:Array W3}{ia ib:Nat}
theorem LR.fin (R:LR key D a b)(h:MI key T out.toList (a.toList.drop ia) (b.toList.drop ib))(e:ia+1=a.size):qF key T (mw a b out ia ib):=by
 unfold qF;rw[F8];refine h.last λy hy x hx=>?_;have hl:ia<a.toList.length:=by rw[Wx];lia
 have hn:a.toList.drop (ia+1)=[]:=Zy (by rw[Wx];lia);rw[ly hl,hn,Xj,WZ] at hx;subst hx;exact R.last ia e y (YI hy) _ (Wr hl)
theorem BP (h:MI key T out.toList (a.toList.drop ia) (b.toList.drop ib))(e:ib=b.size):qF key T (ic a b out ia ib):=by
 have hn:b.toList.drop ib=[]:=Zy (by rw[Wx];lia);unfold qF;rw[yc];rw[hn] at h ⊢;rw[Xj];exact h.endA
theorem OW (h:MI key T out.toList (a.toList.drop ia) (b.toList.drop ib))(e:ia=a.size):qF key T (ic a b out ia ib):=by
 have hn:a.toList.drop ia=[]:=Zy (by rw[Wx];lia);unfold qF;rw[yc];rw[hn] at h ⊢;rw[XX];exact h.endB
theorem kE (h:i8 key (l.drop i))(hl:i<l.length):∀x∈l.drop i,O.kle (key l[i]) (key x):=by
 intro x hx;rw[ly hl] at h hx;rcases WW.mp hx with hx|hx
 ·rw[WZ] at hx;subst hx;exact Yb _
 ·exact (bC.mp h).2.2 _ (by simp) x hx
theorem Ke (h:MI key T out.toList (a.toList.drop ia) (b.toList.drop ib))(hl:ia<a.toList.length)(hx:∀y∈b.toList.drop ib,O.kle (key a.toList[ia]) (key y)):MI key T (out.push a.toList[ia]).toList (a.toList.drop (ia+1)) (b.toList.drop ib):=by
 rw[YT];rw[ly hl] at h;exact h.stepA λx t7 y hy=>by rw[WZ] at t7;subst t7;exact hx y hy
theorem F9 (h:MI key T out.toList (a.toList.drop ia) (b.toList.drop ib))(hl:ib<b.toList.length)(hx:∀x∈a.toList.drop ia,O.kle (key b.toList[ib]) (key x)):MI key T (out.push b.toList[ib]).toList (a.toList.drop ia) (b.toList.drop (ib+1)):=by
 rw[YT];rw[ly hl] at h;exact h.stepB λx t7 y hy=>by rw[WZ] at t7;subst t7;exact hx y hy
def GE (key:W3->O.α)(T:List W3)(a b:Array W3)(n:Nat)(cD:W2)(c:Kd)(st:W2):Prop:=
 (∃g,st=dG cD g)/\((∃r,c.1=some r/\qF key T r)\/(c.1=none/\LI key T a b c.2.1 c.2.2.1 c.2.2.2.1/\n<=c.2.2.1+c.2.2.2.1))
def GS (key:W3->O.α)(T:List W3)(a b:Array W3)(n:Nat)(cD:W2)(r:ForInStep Kd)(st:W2):Prop:=
 match r with
 | .done c=>GE key T a b n cD c st
 | .yield c=>GE key T a b n cD c st/\c.1=none
theorem BQ (R:LR key D a b){k1:Nat}{st cD:W2}(jl:∃g,st=dG cD g)(h:LI key T a b out ia ib)(hn:n<=ia+ib)(hx:∀(hl:ia<a.toList.length),∀y∈b.toList.drop ib,O.kle (key a.toList[ia]) (key y)) :
  wpS M A E s (Im a b out ia ib g k k1) (GS key T a b n cD) st:=by
 have hl:ia<a.toList.length:=by have:=h.ha;rw[Wx];lia
 have m:=Ke h.mi hl (hx hl);unfold Im;refine WM (bH (Wr hl) ?_);by_cases c:ia+1+1=a.size
 ·rw[hV (by simpa using c)];exact WV ⟨jl,.inl ⟨_,rfl,R.fin m c⟩⟩
 ·rw[hU (by simpa using c)];have L:LI key T a b (out.push a.toList[ia]) (ia+1) ib:=⟨by have:=h.ha;lia,h.hb,m⟩;by_cases c2:(decide (k<7)&&decide (k1<7))=true
  ·rw[hV c2];exact WV ⟨jl,.inr ⟨rfl,L,by simp only;lia⟩⟩
  ·rw[hU c2];exact WV ⟨⟨jl,.inr ⟨rfl,L,by simp only;lia⟩⟩,rfl⟩
theorem BR (C:lZ M A E s O key knd D)(R:LR key D a b){st cD:W2}(jl:∃g,st=dG cD g)(kd:XW cD=knd)(h:LI key T a b out ia ib)(hn:n<=ia+ib)(hx:∀(hl:ib<b.toList.length),∀x∈a.toList.drop ia,O.kle (key b.toList[ib]) (key x)) :
  wpS M A E s (Io a b out ia ib g k bc) (GS key T a b n cD) st:=by
 have mI:ib<b.toList.length:=by have:=h.hb;rw[Wx];lia
 have qv:ia<a.toList.length:=by have:=h.ha;rw[Wx];lia
 have m:=F9 h.mi mI (hx mI);have GY:XW st=knd:=by obtain⟨g,rfl⟩:=jl;exact kd
 unfold Io;refine WM (bH (Wr mI) ?_);by_cases c:ib+1=b.size
 ·rw[hV (by simpa using c)];exact WV ⟨jl,.inl ⟨_,rfl,BP m c⟩⟩
 ·rw[hU (by simpa using c)];refine WM (bH (Wr qv) ?_);have df:b.size-(ib+1)=(b.toList.drop (ib+1)).length:=by rw[X1,Wx]
  rw[df];refine WM (mq C (seg:=b.toList.drop (ib+1)) (λi x e=>by rw[aau] at e;exact e) m.sb (λx hx=>R.db x (YI hx)) (R.da _ (Xm qv)) GY (by rw[←df];have:=h.hb;lia) λk1 AO p1 p2=>?_);dsimp only;by_cases c1:k1>0
  ·rw[hV c1];have m2:MI key T (out.push b.toList[ib]++b.extract (ib+1) (ib+1+k1)).toList (a.toList.drop ia) (b.toList.drop (ib+1+k1)):=by
    rw[Xt,wc];have m':=m;rw[sL (l:=b.toList) (ib+1) k1] at m';exact m'.stepB λy hy x t7=>Xa (Xq (p1 y hy)) (kE h.mi.sa qv x t7)
   by_cases c2:ib+1+k1=b.size
   ·rw[hV (by simpa using c2)];exact WV ⟨jl,.inl ⟨_,rfl,BP m2 c2⟩⟩
   ·rw[hU (by simpa using c2)];have:k1<=b.size-(ib+1):=by rw[df];exact AO
    refine BQ R jl ⟨h.ha,by have:=h.hb;lia,m2⟩ (by lia) λhl y hy=>?_;rw[←List.drop_drop] at hy;exact p2 y hy
  ·rw[hU c1];have:k1=0:=by lia
   subst this;refine BQ R jl ⟨h.ha,by have:=h.hb;lia,m⟩ (by lia) λhl y hy=>p2 y hy
theorem BS (C:lZ M A E s O key knd D)(R:LR key D a b){ac:Nat}{st cD:W2}(jl:∃g,st=dG cD g)(kd:XW cD=knd)(h:LI key T a b out ia ib)(hn:n<=ia+ib) :
  wpS M A E s (Iq a b out ia ib g ac bc) (GS key T a b n cD) st:=by
 have mI:ib<b.toList.length:=by have:=h.hb;rw[Wx];lia
 have qv:ia<a.toList.length:=by have:=h.ha;rw[Wx];lia
 unfold Iq cm;have zd:∃g',dG st g=dG cD g':=by obtain⟨g0,rfl⟩:=jl;exact⟨g,rfl⟩
 have GY:XW (dG st g)=knd:=by obtain⟨g0,rfl⟩:=jl;exact kd
 refine WM (aag ?_);refine WM (bH (Wr mI) ?_);have df:a.size-ia=(a.toList.drop ia).length:=by rw[X1,Wx]
 rw[df];refine WM (mn C (seg:=a.toList.drop ia) (λi x e=>by rw[aau] at e;exact e) h.mi.sa (λx hx=>R.da x (YI hx)) (R.db _ (Xm mI)) GY (by rw[←df];have:=h.ha;lia) λk hk p1 p2=>?_);dsimp only;by_cases c1:k>0
 ·rw[hV c1];have m2:MI key T (out++a.extract ia (ia+k)).toList (a.toList.drop (ia+k)) (b.toList.drop ib):=by
   rw[Xt,wc];have m':=h.mi;rw[sL (l:=a.toList) ia k] at m';exact m'.stepA λx hx y hy=>Xa (p1 x hx) (kE h.mi.sb mI y hy)
  by_cases c2:ia+k+1=a.size
  ·rw[hV (by simpa using c2)];exact WV ⟨zd,.inl ⟨_,rfl,R.fin m2 c2⟩⟩
  ·rw[hU (by simpa using c2)];by_cases c3:ia+k=a.size
   ·rw[hV (by simpa using c3)];exact WV ⟨zd,.inl ⟨_,rfl,OW m2 c3⟩⟩
   ·rw[hU (by simpa using c3)];have:k<=a.size-ia:=by rw[df];exact hk
    refine BR C R zd kd ⟨by have:=h.ha;lia,h.hb,m2⟩ (by lia) λhl x hx=>?_;rw[←List.drop_drop] at hx;exact Xq (p2 x hx)
 ·rw[hU c1];have:k=0:=by lia
  subst this;exact BR C R zd kd h hn λhl x hx=>Xq (p2 x hx)
theorem L9 (C:lZ M A E s O key knd D)(R:LR key D a b){c:Kd}{st cD:W2}(jl:∃g,st=dG cD g)(kd:XW cD=knd)(h:LI key T a b c.2.1 c.2.2.1 c.2.2.2.1)(hn:n<=c.2.2.1+c.2.2.2.1) :
  wpS M A E s (RO a b i c) (GS key T a b n cD) st:=by
 unfold RO;split
 ·exact BS C R jl kd h hn
 ·exact BS C R jl kd h hn
theorem L_ (C:lZ M A E s O key knd D)(R:LR key D a b){c:Ni}{st:W2}{Q:ForInStep Ni->W2->Prop}(kd:XW st=knd)(h:LI key T a b c.2.1 c.2.2.1 c.2.2.2.1)(h1:∀d:Ni,(∃r,d.1=some r/\qF key T r)\/(d.1=none/\LI key T a b d.2.1 d.2.2.1 d.2.2.2.1/\c.2.2.1+c.2.2.2.1+1=d.2.2.1+d.2.2.2.1)->Q (.done d) st)(h2:∀d:Ni,d.1=none->LI key T a b d.2.1 d.2.2.1 d.2.2.2.1->c.2.2.1+c.2.2.2.1+1=d.2.2.1+d.2.2.2.1->Q (.yield d) st) :
  wpS M A E s (RP a b g i c) Q st:=by
 obtain⟨r0,out,ia,ib,ac,bc⟩:=c;dsimp only at h h1 h2 ⊢;have mI:ib<b.toList.length:=by have:=h.hb;rw[Wx];lia
 have qv:ia<a.toList.length:=by have:=h.ha;rw[Wx];lia
 unfold RP;dsimp only;refine WM (bH (Wr mI) ?_);refine WM (bH (Wr qv) ?_);refine WM (C.lt _ _ st _ (R.db _ (Xm mI)) (R.da _ (Xm qv)) kd ?_);dsimp only;cases e:O.blt (key b.toList[ib]) (key a.toList[ia]) with
 |true=>
  rw[hV rfl];have m:=F9 h.mi mI λx hx=>Xa (Xq e) (kE h.mi.sa qv x hx);refine WM (bH (Wr mI) ?_);by_cases c:ib+1=b.size
  ·rw[hV (by simpa using c)];exact WV (h1 _ (.inl ⟨_,rfl,BP m c⟩))
  ·rw[hU (by simpa using c)];have L:LI key T a b (out.push b.toList[ib]) ia (ib+1):=⟨h.ha,by have:=h.hb;lia,m⟩;split
   ·exact WV (h1 _ (.inr ⟨rfl,L,by simp only;lia⟩))
   ·exact WV (h2 _ rfl L (by simp only;lia))
 |false=>
  rw[hU WA];have m:=Ke h.mi qv λy hy=>Xa (show O.kle _ _ from e) (kE h.mi.sb mI y hy);refine WM (bH (Wr qv) ?_);by_cases c:ia+1+1=a.size
  ·rw[hV (by simpa using c)];exact WV (h1 _ (.inl ⟨_,rfl,R.fin m c⟩))
  ·rw[hU (by simpa using c)];have L:LI key T a b (out.push a.toList[ia]) (ia+1) ib:=⟨by have:=h.ha;lia,h.hb,m⟩;split
   ·exact WV (h1 _ (.inr ⟨rfl,L,by simp only;lia⟩))
   ·exact WV (h2 _ rfl L (by simp only;lia))
theorem Ma (C:lZ M A E s O key knd D)(R:LR key D a b){c:QQ}{st cD:W2}(jl:∃g,st=dG cD g)(kd:XW cD=knd)(h:LI key T a b c.2.1 c.2.2.1 c.2.2.2.1) :
  wpS M A E s (RQ a b i c) (λr aU=>(∃g,aU=dG cD g)/\match r with
   | .done d=>∃r,d.1=some r/\qF key T r
   | .yield d=>d.1=none/\LI key T a b d.2.1 d.2.2.1 d.2.2.2.1/\c.2.2.1+c.2.2.2.1+1<=d.2.2.1+d.2.2.2.1) st:=by
 obtain⟨r0,out,ia,ib,g0⟩:=c;dsimp only at h ⊢;have GY:XW st=knd:=by obtain⟨g,rfl⟩:=jl;exact kd
 unfold RQ;dsimp only;have hs:1<=a.size+b.size:=by have:=h.hb;lia
 refine WM (Y6 (X0 (I:=λx d aU=>aU=st/\d.1=none/\LI key T a b d.2.1 d.2.2.1 d.2.2.2.1/\ia+ib+x=d.2.2.1+d.2.2.2.1)
  (Q:=λd aU=>aU=st/\((∃r,d.1=some r/\qF key T r)\/(d.1=none/\LI key T a b d.2.1 d.2.2.1 d.2.2.2.1/\ia+ib+1<=d.2.2.1+d.2.2.2.1))) ?step ?fin ⟨rfl,rfl,h,by simp only;lia⟩) ?post)
 case fin=>
  rintro d aU ⟨rfl,e1,e2,e3⟩;exact⟨rfl,.inr ⟨e1,e2,by lia⟩⟩
 case step=>
  rintro x d aU _ hx ⟨rfl,e1,e2,e3⟩;refine L_ C R GY e2 (λd' hd=>?_) λd' p1 p2 p3=>?_
  ·rcases hd with hd|⟨p1,p2,p3⟩
   ·exact⟨rfl,.inl hd⟩
   ·exact⟨rfl,.inr ⟨p1,p2,by lia⟩⟩
  ·exact⟨rfl,p1,p2,by lia⟩
 case post=>
  rintro d aU ⟨rfl,hd⟩;obtain⟨dr,dout,dia,dib,dac,dbc⟩:=d;dsimp only at hd ⊢;rcases hd with⟨r,rfl,hr⟩|⟨rfl,hL,hn⟩
  ·exact WV ⟨jl,r,rfl,hr⟩
  ·dsimp only;refine WM (wpS_lift (YQ ⟨rfl,?_⟩));refine WM (Y6 (X0 (I:=λx d aU=>GE key T a b (ia+ib+1) cD d aU/\d.1=none)
    (Q:=λd aU=>GE key T a b (ia+ib+1) cD d aU) ?_ (λd aU h=>h.1) ⟨⟨jl,.inr ⟨rfl,hL,hn⟩⟩,rfl⟩) ?_)
   ·rintro x d aU _ hx ⟨⟨hs',hd⟩,e1⟩;rcases hd with⟨r,e2,_⟩|⟨_,e3,e4⟩
    ·rw[e1] at e2;cases e2
    ·refine Y6 (L9 C R hs' kd e3 e4) λr Na hr=>?_;cases r with
     |done d'=>exact hr
     |yield d'=>exact hr
   ·rintro d aU ⟨hs',hd⟩;obtain⟨er,eout,eia,eib,eg,eac,ebc⟩:=d;dsimp only at hd ⊢;rcases hd with⟨r,rfl,hr⟩|⟨rfl,hL2,KA⟩
    ·exact WV ⟨hs',r,rfl,hr⟩
    ·dsimp only;unfold cm;refine WM (aag (WV ⟨?_,rfl,hL2,KA⟩));obtain⟨g,rfl⟩:=hs';exact⟨_,rfl⟩
theorem Al (C:lZ M A E s O key knd D)(R:LR key D a b){st:W2}{Q:Array W3->W2->Prop}(kd:XW st=knd)(sa:i8 key a.toList)(sb:i8 key b.toList)(ha:0<a.size)(hb:0<b.size)
  (first:∀y,b.toList[0]? = some y->∀x∈a.toList,O.kle (key y) (key x))
  (h:∀r g,r.toList.Perm (a.toList++b.toList)->i8 key r.toList->Q r (dG st g)):wpS M A E s (sJ a b) Q st:=by
 have mI:0<b.toList.length:=by rw[Wx];exact hb
 have m:MI key (a.toList++b.toList) (#[b.toList[0]]:Array W3).toList (a.toList.drop 0) (b.toList.drop 1):=by
  have m0:MI key (a.toList++b.toList) (#[]:Array W3).toList (a.toList.drop 0) (b.toList.drop 0):=
   ⟨by simp,List.Pairwise.nil,sa,sb,λx hx=>absurd hx (by simp),λx hx=>absurd hx (by simp)⟩
  exact F9 m0 mI (λx hx=>first _ (Wr mI) x hx)
 have fin:∀r g,qF key (a.toList++b.toList) r->Q r (dG st g):=λr g hr=>h r g hr.1 hr.2;rw[wa];refine WM (wpS_lift (YQ ⟨rfl,?_⟩));refine WM (bH (Wr mI) ?_);by_cases c:1=b.size
 ·rw[hV (by simpa using c)];exact WV (fin _ (abB st) (BP m c))
 ·rw[hU (by simpa using c)];by_cases c2:0+1=a.size
  ·rw[hV (by simpa using c2)];exact WV (fin _ (abB st) (R.fin m c2))
  ·rw[hU (by simpa using c2)];refine WM (abJ ?_);refine WM (Y6 (X0 (I:=λx d aU=>(∃g,aU=dG st g)/\d.1=none/\LI key (a.toList++b.toList) a b d.2.1 d.2.2.1 d.2.2.2.1/\x<=d.2.2.1+d.2.2.2.1)
    (Q:=λd aU=>(∃g,aU=dG st g)/\∃r,d.1=some r/\qF key (a.toList++b.toList) r) ?step ?fin ⟨⟨abB st,rfl⟩,rfl,⟨by simp only;lia,by simp only;lia,m⟩,by simp only;lia⟩) ?post)
   case fin=>
    rintro d aU ⟨hs',e1,e2,e3⟩;have:=e2.ha;have:=e2.hb;lia
   case step=>
    rintro x d aU _ hx ⟨hs',e1,e2,e3⟩;refine Y6 (Ma C R hs' kd e2) λr Na hr=>?_;obtain⟨cH,hr⟩:=hr;cases r with
    |done d'=>exact⟨cH,hr⟩
    |yield d'=>exact⟨cH,hr.1,hr.2.1,by have:=hr.2.2;lia⟩
   case post=>
    rintro d aU ⟨⟨g,rfl⟩,r,e,hr⟩;obtain⟨dr,d'⟩:=d;dsimp only at e ⊢;subst e;exact WV (fin r g hr)
end
end Hc.Ts
namespace Hc.Ts
noncomputable def sM:Array W3->Array W3->StateT W2 Sem (Array W3):=sortPriv% PySem.Builtin.mergeHi
noncomputable abbrev Kg:=Option (Array W3)×Nat×Nat×Array W3×Nat×Nat×Nat
noncomputable abbrev Nj:=Option (Array W3)×Nat×Nat×Array W3×Nat×Nat
noncomputable abbrev QR:=Option (Array W3)×Nat×Nat×Array W3×Nat
noncomputable def ie (a b out:Array W3)(na nb:Nat):Array W3:=a.extract 0 na++b.extract 0 nb++out.reverse
noncomputable def jY (a b out:Array W3)(na nb:Nat):Array W3:=b.extract 0 nb++a.extract 0 na++out.reverse
noncomputable def Ir (a b out:Array W3)(na nb g k k1:Nat):StateT W2 Sem (ForInStep Kg):=do
 let x ←abI a (na-1)
 if (na-1==0)=true then pure (.done (some (ie a b (out.push x) (na-1) nb),na-1,nb,out.push x,g,k,k1))
 else if (decide (k<7)&&decide (k1<7))=true then pure (.done (none,na-1,nb,out.push x,g,k,k1))
 else pure (.yield (none,na-1,nb,out.push x,g,k,k1))
noncomputable def Iu (a b out:Array W3)(na nb g k bc:Nat):StateT W2 Sem (ForInStep Kg):=do
 let y ←abI b (nb-1)
 if (nb-1==1)=true then pure (.done (some (jY a b (out.push y) na (nb-1)),na,nb-1,out.push y,g,k,bc))
 else do
  let x ←abI a (na-1)
  let some kY ←gI true x b 0 (nb-1) (nb-1-1)|pure (.done (some (ie a b (out.push y) na (nb-1)),na,nb-1,out.push y,g,k,bc))
  if nb-1-kY>0 then
   if (kY==1)=true then pure (.done (some (jY a b (out.push y++(b.extract kY (nb-1)).reverse) na kY),na,kY,out.push y++(b.extract kY (nb-1)).reverse,g,k,nb-1-kY))
   else if (kY==0)=true then pure (.done (some (ie a b (out.push y++(b.extract kY (nb-1)).reverse) na kY),na,kY,out.push y++(b.extract kY (nb-1)).reverse,g,k,nb-1-kY))
   else Ir a b (out.push y++(b.extract kY (nb-1)).reverse) na kY g k (nb-1-kY)
  else Ir a b (out.push y) na (nb-1) g k (nb-1-kY)
noncomputable def Iv (a b out:Array W3)(na nb g ac bc:Nat):StateT W2 Sem (ForInStep Kg):=do
 cm g
 let y ←abI b (nb-1)
 let some vK ←gI false y a 0 na (na-1)|pure (.done (some (ie a b out na nb),na,nb,out,g,ac,bc))
 if na-vK>0 then
  if (vK==0)=true then pure (.done (some (ie a b (out++(a.extract vK na).reverse) vK nb),vK,nb,out++(a.extract vK na).reverse,g,na-vK,bc))
  else Iu a b (out++(a.extract vK na).reverse) vK nb g (na-vK) bc
 else Iu a b out na nb g (na-vK) bc
noncomputable def RS (a b:Array W3)(_:Nat)(c:Kg):StateT W2 Sem (ForInStep Kg):=
 if c.2.2.2.2.1>1 then Iv a b c.2.2.2.1 c.2.1 c.2.2.1 (c.2.2.2.2.1-1) c.2.2.2.2.2.1 c.2.2.2.2.2.2
 else Iv a b c.2.2.2.1 c.2.1 c.2.2.1 c.2.2.2.2.1 c.2.2.2.2.2.1 c.2.2.2.2.2.2
noncomputable def RT (a b:Array W3)(g:Nat)(_:Nat)(c:Nj):StateT W2 Sem (ForInStep Nj):=do
 let y ←abI b (c.2.2.1-1)
 let x ←abI a (c.2.1-1)
 let some aWins ←lt' y x|pure (.done (some (ie a b c.2.2.2.1 c.2.1 c.2.2.1),c.2.1,c.2.2.1,c.2.2.2.1,c.2.2.2.2.1,c.2.2.2.2.2))
 if aWins=true then do
  let x ←abI a (c.2.1-1)
  if (c.2.1-1==0)=true then pure (.done (some (ie a b (c.2.2.2.1.push x) (c.2.1-1) c.2.2.1),c.2.1-1,c.2.2.1,c.2.2.2.1.push x,c.2.2.2.2.1+1,0))
  else if c.2.2.2.2.1+1≥g then pure (.done (none,c.2.1-1,c.2.2.1,c.2.2.2.1.push x,c.2.2.2.2.1+1,0))
  else pure (.yield (none,c.2.1-1,c.2.2.1,c.2.2.2.1.push x,c.2.2.2.2.1+1,0))
 else do
  let y ←abI b (c.2.2.1-1)
  if (c.2.2.1-1==1)=true then pure (.done (some (jY a b (c.2.2.2.1.push y) c.2.1 (c.2.2.1-1)),c.2.1,c.2.2.1-1,c.2.2.2.1.push y,0,c.2.2.2.2.2+1))
  else if c.2.2.2.2.2+1≥g then pure (.done (none,c.2.1,c.2.2.1-1,c.2.2.2.1.push y,0,c.2.2.2.2.2+1))
  else pure (.yield (none,c.2.1,c.2.2.1-1,c.2.2.2.1.push y,0,c.2.2.2.2.2+1))
noncomputable def RU (a b:Array W3)(_:Nat)(c:QR):StateT W2 Sem (ForInStep QR):=do
 let d ←forIn [0:a.size+b.size] (none,c.2.1,c.2.2.1,c.2.2.2.1,0,0) (RT a b c.2.2.2.2)
 match d.1 with
 |some r=>pure (.done (some r,d.2.1,d.2.2.1,d.2.2.2.1,c.2.2.2.2))
 |none=>do
  liftM (rule "list.sort.gallop")
  let e ←forIn [0:a.size+b.size] (none,d.2.1,d.2.2.1,d.2.2.2.1,c.2.2.2.2+1,d.2.2.2.2.1,d.2.2.2.2.2) (RS a b)
  match e.1 with
  |some r=>pure (.done (some r,e.2.1,e.2.2.1,e.2.2.2.1,e.2.2.2.2.1))
  |none=>do
   cm (e.2.2.2.2.1+1)
   pure (.yield (none,e.2.1,e.2.2.1,e.2.2.2.1,e.2.2.2.2.1+1))
theorem wd (a b:Array W3):sM a b=(do
  liftM (rule "list.sort.merge-hi")
  let x ←abI a (a.size-1)
  if (a.size-1==0)=true then pure (ie a b #[x] (a.size-1) b.size)
  else if (b.size==1)=true then pure (jY a b #[x] (a.size-1) b.size)
  else do
   let st ←get
   let c ←forIn [0:a.size+b.size] ((none,a.size-1,b.size,#[x],abB st):QR) (RU a b)
   match c.1 with
   |some r=>pure r
   |none=>liftM (aaG "internal:list.sort.merge-bound")):=by kernel_rfl
section
variable {A:Xh}{O:abW}{key:W3->O.α}{knd:Z_}{D:W3->Prop}
theorem we (a:Array W3)(n:Nat):(a.extract 0 n).toList=a.toList.take n:=by
 rw[Zd,Zb];rfl
theorem wg (a:Array W3)(i n:Nat):(a.extract i n).toList=(a.toList.take n).drop i:=by
 rw[Zd,Zb,List.drop_take]
theorem yd (a b out:Array W3)(na nb:Nat):(ie a b out na nb).toList=(a.toList.take na++b.toList.take nb)++out.toList.reverse:=by
 unfold ie;rw[Xt,Xt,we,we,ZZ]
theorem C6 (a b out:Array W3)(na nb:Nat):(jY a b out na nb).toList=(b.toList.take nb++a.toList.take na)++out.toList.reverse:=by
 unfold jY;rw[Xt,Xt,we,we,ZZ]
theorem oI (h0:0<n)(h:n-1<l.length):l.take n=l.take (n-1)++[l[n-1]]:=by
 obtain⟨m,rfl⟩:∃m,n=m+1:=⟨n-1,by lia⟩;simp only[Nat.add_sub_cancel] at h ⊢;exact Yu h
theorem sN (h:k<=n):l.take n=l.take k++(l.take n).drop k:=by
 conv=>lhs;rw[←XZ k (l.take n)]
 rw[List.take_take,ZL h]
structure HI (key:W3->O.α)(T:List W3)(a b out:Array W3)(na nb:Nat):Prop where
 a0:0<na
 a1:na<=a.size
 b0:1<nb
 b1:nb<=b.size
 mh:MH key T (a.toList.take na) (b.toList.take nb) out.toList.reverse
structure HR (key:W3->O.α)(D:W3->Prop)(a b:Array W3):Prop where
 da:∀x∈a.toList,D x
 db:∀x∈b.toList,D x
 first:∀y,b.toList[0]? = some y->∀x∈a.toList,O.kle (key y) (key x)
variable {a b out:Array W3}{na nb:Nat}
theorem HR.fin (R:HR key D a b)(h:MH key T (a.toList.take na) (b.toList.take nb) out.toList.reverse)(e:nb=1):qF key T (jY a b out na nb):=by
 unfold qF;rw[C6];refine h.first λy hy x hx=>?_
 subst e;cases hb:b.toList with
 |nil=>rw[hb] at hy;cases hy
 |cons z r=>
  rw[hb] at hy;have:y=z:=by simpa using hy
  subst this;exact R.first y (by rw[hb];rfl) x (Yo hx)
theorem wj (h:MH key T (a.toList.take na) (b.toList.take nb) out.toList.reverse)(e:na=0):qF key T (ie a b out na nb):=by
 subst e;unfold qF;rw[yd];rw[List.take_zero] at h ⊢;rw[XX];exact h.endB
theorem Mb (h:MH key T (a.toList.take na) (b.toList.take nb) out.toList.reverse)(e:nb=0):qF key T (ie a b out na nb):=by
 subst e;unfold qF;rw[yd];rw[List.take_zero] at h ⊢;rw[Xj];exact h.endA
theorem iM (h:i8 key (l.take n))(h0:0<n)(hl:n-1<l.length):∀x∈l.take n,O.kle (key x) (key l[n-1]):=by
 intro x hx;rw[oI h0 hl] at h hx;rcases WW.mp hx with hx|hx
 ·exact (bC.mp h).2.2 x hx _ (by simp)
 ·rw[WZ] at hx;subst hx;exact Yb _
theorem Am (h:MH key T (a.toList.take na) (b.toList.take nb) out.toList.reverse)(h0:0<na)(hl:na-1<a.toList.length)(hx:∀y∈b.toList.take nb,O.kle (key y) (key a.toList[na-1])):MH key T (a.toList.take (na-1)) (b.toList.take nb) (out.push a.toList[na-1]).toList.reverse:=by
 rw[YT,aad];rw[oI h0 hl] at h;exact h.stepA λy hy x t7=>by rw[WZ] at t7;subst t7;exact hx y hy
theorem F_ (h:MH key T (a.toList.take na) (b.toList.take nb) out.toList.reverse)(h0:0<nb)(hl:nb-1<b.toList.length)(hx:∀x∈a.toList.take na,O.kle (key x) (key b.toList[nb-1])):MH key T (a.toList.take na) (b.toList.take (nb-1)) (out.push b.toList[nb-1]).toList.reverse:=by
 rw[YT,aad];rw[oI h0 hl] at h;exact h.stepB λx t7 y hy=>by rw[WZ] at hy;subst hy;exact hx x t7
def HE (key:W3->O.α)(T:List W3)(a b:Array W3)(n:Nat)(cD:W2)(c:Kg)(st:W2):Prop:=
 (∃g,st=dG cD g)/\((∃r,c.1=some r/\qF key T r)\/(c.1=none/\HI key T a b c.2.2.2.1 c.2.1 c.2.2.1/\c.2.1+c.2.2.1<=n))
def HS (key:W3->O.α)(T:List W3)(a b:Array W3)(n:Nat)(cD:W2)(r:ForInStep Kg)(st:W2):Prop:=
 match r with
 | .done c=>HE key T a b n cD c st
 | .yield c=>HE key T a b n cD c st/\c.1=none
theorem BU (R:HR key D a b){k1:Nat}{st cD:W2}(jl:∃g,st=dG cD g)(h:HI key T a b out na nb)(hn:na+nb<=n)(hx:∀(hl:na-1<a.toList.length),∀y∈b.toList.take nb,O.kle (key y) (key a.toList[na-1])) :
  wpS M A E s (Ir a b out na nb g k k1) (HS key T a b n cD) st:=by
 have hl:na-1<a.toList.length:=by have:=h.a0;have:=h.a1;rw[Wx];lia
 have m:=Am h.mh h.a0 hl (hx hl);unfold Ir;refine WM (bH (Wr hl) ?_);by_cases c:na-1=0
 ·rw[hV (by simpa using c)];exact WV ⟨jl,.inl ⟨_,rfl,wj m c⟩⟩
 ·rw[hU (by simpa using c)];have L:HI key T a b (out.push a.toList[na-1]) (na-1) nb:=⟨by lia,by have:=h.a1;lia,h.b0,h.b1,m⟩;by_cases c2:(decide (k<7)&&decide (k1<7))=true
  ·rw[hV c2];exact WV ⟨jl,.inr ⟨rfl,L,by simp only;lia⟩⟩
  ·rw[hU c2];exact WV ⟨⟨jl,.inr ⟨rfl,L,by simp only;lia⟩⟩,rfl⟩
theorem BV (C:lZ M A E s O key knd D)(R:HR key D a b){st cD:W2}(jl:∃g,st=dG cD g)(kd:XW cD=knd)(h:HI key T a b out na nb)(hn:na+nb<=n)(hx:∀(hl:nb-1<b.toList.length),∀x∈a.toList.take na,O.kle (key x) (key b.toList[nb-1])) :
  wpS M A E s (Iu a b out na nb g k bc) (HS key T a b n cD) st:=by
 have mI:nb-1<b.toList.length:=by have:=h.b0;have:=h.b1;rw[Wx];lia
 have qv:na-1<a.toList.length:=by have:=h.a0;have:=h.a1;rw[Wx];lia
 have b0:=h.b0;have b1:=h.b1;have a0:=h.a0;have a1:=h.a1;have m:=F_ h.mh (by lia) mI (hx mI);have GY:XW st=knd:=by obtain⟨g,rfl⟩:=jl;exact kd
 unfold Iu;refine WM (bH (Wr mI) ?_);by_cases c:nb-1=1
 ·rw[hV (by simpa using c)];exact WV ⟨jl,.inl ⟨_,rfl,R.fin m c⟩⟩
 ·rw[hU (by simpa using c)];refine WM (bH (Wr qv) ?_);have df:(b.toList.take (nb-1)).length=nb-1:=by rw[Xr,Wx];lia
  have GZ:=λQ=>mq C (Q:=Q) (kx:=a.toList[na-1]) (arr:=b) (base:=0) (hint:=nb-1-1) (seg:=b.toList.take (nb-1)) (st:=st) (λi x e=>by
   rw[Y2];rw[aax] at e;split at e
   ·exact e
   ·cases e) m.sb (λx hx=>R.db x (Yo hx)) (R.da _ (Xm qv)) GY (by rw[df];lia)
  rw[df] at GZ;refine WM (GZ _ λkY AO p1 p2=>?_);dsimp only;rw[List.take_take,ZL AO] at p1;by_cases c1:nb-1-kY>0
  ·rw[hV c1];have m2:MH key T (a.toList.take na) (b.toList.take kY) (out.push b.toList[nb-1]++(b.extract kY (nb-1)).reverse).toList.reverse:=by
    rw[Xt,ZZ,aad,List.reverse_reverse,wg];have m':=m;rw[sN (l:=b.toList) (n:=nb-1) (k:=kY) (by lia)] at m';exact m'.stepB λx t7 y hy=>Xa (iM h.mh.sa a0 qv x t7) (p2 y hy)
   by_cases c2:kY=1
   ·rw[hV (by simpa using c2)];exact WV ⟨jl,.inl ⟨_,rfl,R.fin m2 c2⟩⟩
   ·rw[hU (by simpa using c2)];by_cases c3:kY=0
    ·rw[hV (by simpa using c3)];exact WV ⟨jl,.inl ⟨_,rfl,Mb m2 c3⟩⟩
    ·rw[hU (by simpa using c3)];refine BU R jl ⟨a0,a1,by lia,by lia,m2⟩ (by lia) λhl y hy=>Xq (p1 y hy)
  ·rw[hU c1];have:kY=nb-1:=by lia
   subst this;refine BU R jl ⟨a0,a1,by lia,by lia,m⟩ (by lia) λhl y hy=>Xq (p1 y hy)
theorem BW (C:lZ M A E s O key knd D)(R:HR key D a b){ac:Nat}{st cD:W2}(jl:∃g,st=dG cD g)(kd:XW cD=knd)(h:HI key T a b out na nb)(hn:na+nb<=n) :
  wpS M A E s (Iv a b out na nb g ac bc) (HS key T a b n cD) st:=by
 have mI:nb-1<b.toList.length:=by have:=h.b0;have:=h.b1;rw[Wx];lia
 have qv:na-1<a.toList.length:=by have:=h.a0;have:=h.a1;rw[Wx];lia
 have b0:=h.b0;have b1:=h.b1;have a0:=h.a0;have a1:=h.a1;unfold Iv cm;have zd:∃g',dG st g=dG cD g':=by obtain⟨g0,rfl⟩:=jl;exact⟨g,rfl⟩
 have GY:XW (dG st g)=knd:=by obtain⟨g0,rfl⟩:=jl;exact kd
 refine WM (aag ?_);refine WM (bH (Wr mI) ?_);have df:(a.toList.take na).length=na:=by rw[Xr,Wx];lia
 have GZ:=λQ=>mn C (Q:=Q) (kx:=b.toList[nb-1]) (arr:=a) (base:=0) (hint:=na-1) (seg:=a.toList.take na) (st:=dG st g) (λi x e=>by
   rw[Y2];rw[aax] at e;split at e
   ·exact e
   ·cases e) h.mh.sa (λx hx=>R.da x (Yo hx)) (R.db _ (Xm mI)) GY (by rw[df];lia)
 rw[df] at GZ;refine WM (GZ _ λvK hk p1 p2=>?_);dsimp only;rw[List.take_take,ZL hk] at p1;by_cases c1:na-vK>0
 ·rw[hV c1];have m2:MH key T (a.toList.take vK) (b.toList.take nb) (out++(a.extract vK na).reverse).toList.reverse:=by
   rw[Xt,ZZ,aad,List.reverse_reverse,wg];have m':=h.mh;rw[sN (l:=a.toList) (n:=na) (k:=vK) (by lia)] at m';exact m'.stepA λy hy x hx=>Xa (iM h.mh.sb (by lia) mI y hy) (Xq (p2 x hx))
  by_cases c2:vK=0
  ·rw[hV (by simpa using c2)];exact WV ⟨zd,.inl ⟨_,rfl,wj m2 c2⟩⟩
  ·rw[hU (by simpa using c2)];exact BV C R zd kd ⟨by lia,by lia,b0,b1,m2⟩ (by lia) λhl x hx=>p1 x hx
 ·rw[hU c1];have:vK=na:=by lia
  subst this;exact BV C R zd kd h hn λhl x hx=>p1 x hx
theorem Mc (C:lZ M A E s O key knd D)(R:HR key D a b){c:Kg}{st cD:W2}(jl:∃g,st=dG cD g)(kd:XW cD=knd)(h:HI key T a b c.2.2.2.1 c.2.1 c.2.2.1)(hn:c.2.1+c.2.2.1<=n) :
  wpS M A E s (RS a b i c) (HS key T a b n cD) st:=by
 unfold RS;split
 ·exact BW C R jl kd h hn
 ·exact BW C R jl kd h hn
theorem Me (C:lZ M A E s O key knd D)(R:HR key D a b){c:Nj}{st:W2}{Q:ForInStep Nj->W2->Prop}(kd:XW st=knd)(h:HI key T a b c.2.2.2.1 c.2.1 c.2.2.1)(h1:∀d:Nj,(∃r,d.1=some r/\qF key T r)\/(d.1=none/\HI key T a b d.2.2.2.1 d.2.1 d.2.2.1/\c.2.1+c.2.2.1=d.2.1+d.2.2.1+1)->Q (.done d) st)(h2:∀d:Nj,d.1=none->HI key T a b d.2.2.2.1 d.2.1 d.2.2.1->c.2.1+c.2.2.1=d.2.1+d.2.2.1+1->Q (.yield d) st) :
  wpS M A E s (RT a b g i c) Q st:=by
 obtain⟨r0,na,nb,out,ac,bc⟩:=c;dsimp only at h h1 h2 ⊢;have mI:nb-1<b.toList.length:=by have:=h.b0;have:=h.b1;rw[Wx];lia
 have qv:na-1<a.toList.length:=by have:=h.a0;have:=h.a1;rw[Wx];lia
 have b0:=h.b0;have b1:=h.b1;have a0:=h.a0;have a1:=h.a1;unfold RT;dsimp only;refine WM (bH (Wr mI) ?_);refine WM (bH (Wr qv) ?_);refine WM (C.lt _ _ st _ (R.db _ (Xm mI)) (R.da _ (Xm qv)) kd ?_);dsimp only;cases e:O.blt (key b.toList[nb-1]) (key a.toList[na-1]) with
 |true=>
  rw[hV rfl];have m:=Am h.mh a0 qv λy hy=>Xa (iM h.mh.sb (by lia) mI y hy) (Xq e);refine WM (bH (Wr qv) ?_);by_cases c:na-1=0
  ·rw[hV (by simpa using c)];exact WV (h1 _ (.inl ⟨_,rfl,wj m c⟩))
  ·rw[hU (by simpa using c)];have L:HI key T a b (out.push a.toList[na-1]) (na-1) nb:=⟨by lia,by lia,b0,b1,m⟩;split
   ·exact WV (h1 _ (.inr ⟨rfl,L,by simp only;lia⟩))
   ·exact WV (h2 _ rfl L (by simp only;lia))
 |false=>
  rw[hU WA];have m:=F_ h.mh (by lia) mI λx hx=>Xa (iM h.mh.sa a0 qv x hx) (show O.kle _ _ from e);refine WM (bH (Wr mI) ?_);by_cases c:nb-1=1
  ·rw[hV (by simpa using c)];exact WV (h1 _ (.inl ⟨_,rfl,R.fin m c⟩))
  ·rw[hU (by simpa using c)];have L:HI key T a b (out.push b.toList[nb-1]) na (nb-1):=⟨a0,a1,by lia,by lia,m⟩;split
   ·exact WV (h1 _ (.inr ⟨rfl,L,by simp only;lia⟩))
   ·exact WV (h2 _ rfl L (by simp only;lia))
theorem Mf (C:lZ M A E s O key knd D)(R:HR key D a b){c:QR}{st cD:W2}(jl:∃g,st=dG cD g)(kd:XW cD=knd)(h:HI key T a b c.2.2.2.1 c.2.1 c.2.2.1) :
  wpS M A E s (RU a b i c) (λr aU=>(∃g,aU=dG cD g)/\match r with
   | .done d=>∃r,d.1=some r/\qF key T r
   | .yield d=>d.1=none/\HI key T a b d.2.2.2.1 d.2.1 d.2.2.1/\d.2.1+d.2.2.1+1<=c.2.1+c.2.2.1) st:=by
 obtain⟨r0,na,nb,out,g0⟩:=c;dsimp only at h ⊢;have GY:XW st=knd:=by obtain⟨g,rfl⟩:=jl;exact kd
 have b0:=h.b0;have b1:=h.b1;have a0:=h.a0;have a1:=h.a1;unfold RU;dsimp only;have hs:1<=a.size+b.size:=by lia
 refine WM (Y6 (X0 (I:=λx d aU=>aU=st/\d.1=none/\HI key T a b d.2.2.2.1 d.2.1 d.2.2.1/\na+nb=d.2.1+d.2.2.1+x)
  (Q:=λd aU=>aU=st/\((∃r,d.1=some r/\qF key T r)\/(d.1=none/\HI key T a b d.2.2.2.1 d.2.1 d.2.2.1/\d.2.1+d.2.2.1+1<=na+nb))) ?step ?fin ⟨rfl,rfl,h,by simp only;lia⟩) ?post)
 case fin=>
  rintro d aU ⟨rfl,e1,e2,e3⟩;exact⟨rfl,.inr ⟨e1,e2,by lia⟩⟩
 case step=>
  rintro x d aU _ hx ⟨rfl,e1,e2,e3⟩;refine Me C R GY e2 (λd' hd=>?_) λd' p1 p2 p3=>?_
  ·rcases hd with hd|⟨p1,p2,p3⟩
   ·exact⟨rfl,.inl hd⟩
   ·exact⟨rfl,.inr ⟨p1,p2,by lia⟩⟩
  ·exact⟨rfl,p1,p2,by lia⟩
 case post=>
  rintro d aU ⟨rfl,hd⟩;obtain⟨dr,dna,dnb,dout,dac,dbc⟩:=d;dsimp only at hd ⊢;rcases hd with⟨r,rfl,hr⟩|⟨rfl,hL,hn⟩
  ·exact WV ⟨jl,r,rfl,hr⟩
  ·dsimp only;refine WM (wpS_lift (YQ ⟨rfl,?_⟩));refine WM (Y6 (X0 (I:=λx d aU=>HE key T a b (na+nb-1) cD d aU/\d.1=none)
    (Q:=λd aU=>HE key T a b (na+nb-1) cD d aU) ?_ (λd aU h=>h.1) ⟨⟨jl,.inr ⟨rfl,hL,by simp only;lia⟩⟩,rfl⟩) ?_)
   ·rintro x d aU _ hx ⟨⟨hs',hd⟩,e1⟩;rcases hd with⟨r,e2,_⟩|⟨_,e3,e4⟩
    ·rw[e1] at e2;cases e2
    ·refine Y6 (Mc C R hs' kd e3 e4) λr Na hr=>?_;cases r with
     |done d'=>exact hr
     |yield d'=>exact hr
   ·rintro d aU ⟨hs',hd⟩;obtain⟨er,ena,enb,eout,eg,eac,ebc⟩:=d;dsimp only at hd ⊢;rcases hd with⟨r,rfl,hr⟩|⟨rfl,hL2,KA⟩
    ·exact WV ⟨hs',r,rfl,hr⟩
    ·dsimp only;unfold cm;refine WM (aag (WV ⟨?_,rfl,hL2,by simp only;lia⟩));obtain⟨g,rfl⟩:=hs';exact⟨_,rfl⟩
theorem An (C:lZ M A E s O key knd D)(R:HR key D a b){st:W2}{Q:Array W3->W2->Prop}(kd:XW st=knd)(sa:i8 key a.toList)(sb:i8 key b.toList)(ha:0<a.size)(hb:0<b.size)
  (last:∀i,i+1=a.size->∀y∈b.toList,∀x,a.toList[i]? = some x->O.kle (key y) (key x))
  (h:∀r g,r.toList.Perm (a.toList++b.toList)->i8 key r.toList->Q r (dG st g)):wpS M A E s (sM a b) Q st:=by
 have qv:a.size-1<a.toList.length:=by rw[Wx];lia
 have ta:a.toList.take a.size=a.toList:=YY (by simp);have tb:b.toList.take b.size=b.toList:=YY (by simp);have m:MH key (a.toList++b.toList) (a.toList.take (a.size-1)) (b.toList.take b.size) (#[a.toList[a.size-1]]:Array W3).toList.reverse:=by
  have m0:MH key (a.toList++b.toList) (a.toList.take a.size) (b.toList.take b.size) (#[]:Array W3).toList.reverse:=by
   rw[ta,tb];exact⟨by simp,List.Pairwise.nil,sa,sb,λx _ y hy=>absurd hy (by simp),λx _ y hy=>absurd hy (by simp)⟩
  exact Am m0 ha qv (λy hy=>last (a.size-1) (by lia) y (Yo hy) _ (Wr qv))
 have fin:∀r g,qF key (a.toList++b.toList) r->Q r (dG st g):=λr g hr=>h r g hr.1 hr.2;rw[wd];refine WM (wpS_lift (YQ ⟨rfl,?_⟩));refine WM (bH (Wr qv) ?_);by_cases c:a.size-1=0
 ·rw[hV (by simpa using c)];exact WV (fin _ (abB st) (wj m c))
 ·rw[hU (by simpa using c)];by_cases c2:b.size=1
  ·rw[hV (by simpa using c2)];exact WV (fin _ (abB st) (R.fin m c2))
  ·rw[hU (by simpa using c2)];refine WM (abJ ?_);refine WM (Y6 (X0 (I:=λx d aU=>(∃g,aU=dG st g)/\d.1=none/\HI key (a.toList++b.toList) a b d.2.2.2.1 d.2.1 d.2.2.1/\d.2.1+d.2.2.1+x<=a.size+b.size)
    (Q:=λd aU=>(∃g,aU=dG st g)/\∃r,d.1=some r/\qF key (a.toList++b.toList) r) ?step ?fin ⟨⟨abB st,rfl⟩,rfl,⟨by simp only;lia,by simp only;lia,by simp only;lia,by simp only;lia,m⟩,by simp only;lia⟩) ?post)
   case fin=>
    rintro d aU ⟨hs',e1,e2,e3⟩;have:=e2.a0;have:=e2.b0;lia
   case step=>
    rintro x d aU _ hx ⟨hs',e1,e2,e3⟩;refine Y6 (Mf C R hs' kd e2) λr Na hr=>?_;obtain⟨cH,hr⟩:=hr;cases r with
    |done d'=>exact⟨cH,hr⟩
    |yield d'=>exact⟨cH,hr.1,hr.2.1,by have:=hr.2.2;lia⟩
   case post=>
    rintro d aU ⟨⟨g,rfl⟩,r,e,hr⟩;obtain⟨dr,d'⟩:=d;dsimp only at e ⊢;subst e;exact WV (fin r g hr)
end
end Hc.Ts
namespace Hc.Ts
noncomputable def lA (l:List W3)(sa:Nat)(a:Array W3):Array W3:=l.zipIdx.foldl (λa (p,j)=>a.setIfInBounds (sa+j) p) a
noncomputable def Mg (x y:Array W3)(sa na nb:Nat):StateT W2 Sem Bool:=do
 let merged ←if na<=nb then sJ x y else sM x y
 modify λs=>setArr s (lA merged.toList sa (Xg s))
 let s ←get
 pure (aaa s).isNone
theorem ye (i:Nat):mergeAt' i=(do
 let st ←get
 let (some (p,n,pw),some (q,m,_)):=((Xd st)[i]?,(Xd st)[i+1]?)|aaG "internal:list.sort.pending"
 set (setPending st (((Xd st).setIfInBounds i (p,n+m,pw)).eraseIdxIfInBounds (i+1)))
 let some k ←gI false (←abI (Xg st) q) (Xg st) p n 0|return false
 let (p,n):=(p+k,n-k)
 if n==0 then return true
 let some m ←gI true (←abI (Xg st) (p+n-1)) (Xg st) q m (m-1)|return false
 if m==0 then return true
 Mg ((Xg st).extract p q) ((Xg st).extract q (q+m)) p n m):=by kernel_rfl
section
variable {A:Xh}{O:abW}{key:W3->O.α}{knd:Z_}{D:W3->Prop}
theorem sO:∀(l m P S:List W3) (n sa:Nat) (a:Array W3),m.length=l.length->sa+n=P.length->a.toList=P++(m++S)->((l.zipIdx n).foldl (λa (p,j)=>a.setIfInBounds (sa+j) p) a).toList=P++(l++S)
 | [],m,P,S,n,sa,a,h1,h2,h3=>by
  have:m=[]:=Yd h1;subst this;exact h3
 |p::l,[],P,S,n,sa,a,h1,h2,h3=>by cases h1
 |p::l,q::m,P,S,n,sa,a,h1,h2,h3=>by
  rw[List.zipIdx_cons,List.foldl_cons];have h4:(a.setIfInBounds (sa+n) p).toList=(P++[p])++(m++S):=by
   rw[abi,h3,h2,Yr,List.set_append_right _ _ (WI _),abz,Yn];simp
  have:=sO l m (P++[p]) S (n+1) sa (a.setIfInBounds (sa+n) p) (by simpa using h1) (by rw[WG,ZD];lia) h4;rw[this];simp
theorem C7 {m P:List W3}{sa:Nat}{a:Array W3}(h1:m.length=l.length)(h2:sa=P.length)(h3:a.toList=P++(m++S)):(lA l sa a).toList=P++(l++S):=
 sO l m P S 0 sa a h1 (by lia) h3
theorem Iw (C:lZ M A E s O key knd D){P x y:List W3}{sa:Nat}{st:W2}{Q:Bool->W2->Prop}{ax ay:Array W3}{na nb:Nat}(ex:ax.toList=x)(ey:ay.toList=y)(hf:aaa st=none)(kd:XW st=knd)(ha:(Xg st).toList=P++((x++y)++S))(hs:sa=P.length)(dx:∀p∈x,D p)(dy:∀p∈y,D p)(sx:i8 key x)(sy:i8 key y)(x0:0<x.length)(y0:0<y.length)(first:∀q,y[0]? = some q->∀p∈x,O.kle (key q) (key p))(last:∀i,i+1=x.length->∀q∈y,∀p,x[i]? = some p->O.kle (key q) (key p))(h:∀z g,z.Perm (x++y)->i8 key z->Q true (dG (setArr st (P++(z++S)).toArray) g)):wpS M A E s (Mg ax ay sa na nb) Q st:=by
 subst ex;subst ey;have fin:∀(r:Array W3) (g:Nat),r.toList.Perm (ax.toList++ay.toList)->i8 key r.toList->wpS M A E s (do
   modify λs=>setArr s (lA r.toList sa (Xg s))
   let s ←get
   pure (aaa s).isNone) Q (dG st g):=by
  intro r g hp hr;refine WM (aag ?_);refine WM (abJ (WV ?_));have e1:lA r.toList sa (Xg st)=(P++(r.toList++S)).toArray:=by
   apply Array.ext';rw[C7 (m:=ax.toList++ay.toList) hp.length_eq.symm hs ha]
  have e2:(aaa (setArr (dG st g) (lA r.toList sa (Xg (dG st g))))).isNone=true:=by
   show (aaa st).isNone=true;rw[hf];rfl
  rw[e2];have e3:setArr (dG st g) (lA r.toList sa (Xg (dG st g)))=dG (setArr st (P++(r.toList++S)).toArray) g:=by
   rw[←e1]
  rw[e3];exact h r.toList g hp hr
 unfold Mg;dsimp only;split
 ·refine WM ?_;exact Al C ⟨dx,dy,λi hi=>last i (by rw[Wx];exact hi)⟩ kd sx sy (by simpa using x0) (by simpa using y0) first fin
 ·refine WM ?_;exact An C ⟨dx,dy,first⟩ kd sx sy (by simpa using x0) (by simpa using y0) (λi hi=>last i (by rw[Wx];exact hi)) fin
theorem Iy {σ:Type}{st aU:σ}{Q:PUnit->σ->Prop}(h:Q ⟨⟩ aU):wpS M A E s (set aU:StateT σ Sem PUnit) Q st:=by
 unfold wpS;rw[StateT.run_set];exact Wt ⟨rfl,h⟩
theorem wm {P x R:List W3}(h:l=P++(x++R))(i:Nat)(p:W3)(e:x[i]? = some p):l[P.length+i]? = some p:=by
 have hi:i<x.length:=by
  rcases ZH i x.length with h|h
  ·exact h
  ·rw[ZN h] at e;cases e
 rw[h,Xx (Yc _ _),Ym,XR hi,e]
noncomputable def vc (p:Array (Nat×Nat×Nat))(i sa n pw:Nat):Array (Nat×Nat×Nat):=(p.setIfInBounds i (sa,n,pw)).eraseIdxIfInBounds (i+1)
theorem Ao (C:lZ M A E s O key knd D){P x y:List W3}{pw pw2:Nat}{st:W2}{Q:Bool->W2->Prop}(hf:aaa st=none)(kd:XW st=knd)(ha:(Xg st).toList=P++(x++(y++S)))(h1:(Xd st)[i]? = some (P.length,x.length,pw))(h2:(Xd st)[i+1]? = some (P.length+x.length,y.length,pw2))(dx:∀p∈x,D p)(dy:∀p∈y,D p)(sx:i8 key x)(sy:i8 key y)(x0:0<x.length)(y0:0<y.length)(h:∀z g,z.Perm (x++y)->i8 key z->Q true (dG (setArr (setPending st (vc (Xd st) i P.length (x.length+y.length) pw)) (P++(z++S)).toArray) g)):wpS M A E s (mergeAt' i) Q st:=by
 have all:∀(hz:i8 key (x++y)),Q true (setPending st (vc (Xd st) i P.length (x.length+y.length) pw)):=by
  intro hz;have:=h (x++y) (abB st) (X3 _) hz;have e:(P++(x++y++S)).toArray=Xg st:=by
   apply Array.ext';rw[ha,W4]
  rw[e] at this;exact this
 have Np:(Xg st).toList=(P++x)++(y++S):=by rw[ha,W4]
 rw[ye];refine WM (abJ ?_);rw[h1,h2];dsimp only;refine WM (Iy ?_);have ey:(Xg st).toList[P.length+x.length]? = some y[0]:=by
  have:=wm Np 0 y[0] (Wr y0);rw[WG] at this;exact this
 refine WM (bH ey ?_);refine WM (mn C (seg:=x) (λi p e=>wm ha i p e) sx dx (dy _ (Xm y0)) kd x0 λk hk p1 p2=>?_);dsimp only;have yh:∀q∈y,O.kle (key y[0]) (key q):=by
  have:=kE (l:=y) (i:=0) (key:=key) (by simpa using sy) y0;simpa using this
 by_cases c:x.length-k=0
 ·rw[hV (by simpa using c)];refine WV (all ?_);have:x.take k=x:=YY (by lia);rw[this] at p1;exact bC.mpr ⟨sx,sy,λp hp q hq=>Xa (p1 p hp) (yh q hq)⟩
 ·rw[hU (by simpa using c)];have Q1:x.length-1<x.length:=by lia
  have Vx:(Xg st).toList[P.length+k+(x.length-k)-1]? = some x[x.length-1]:=by
   have:=wm ha (x.length-1) _ (Wr Q1);rw[show P.length+k+(x.length-k)-1=P.length+(x.length-1) by lia];exact this
  refine WM (bH Vx ?_);refine WM (mq C (seg:=y) (λi p e=>by have:=wm Np i p e;rw[WG] at this;exact this) sy dy (dx _ (Xm Q1)) kd (by lia) λnb Vy q1 q2=>?_);dsimp only;have KP:∀p∈x,O.kle (key p) (key x[x.length-1]):=by
   have:=iM (l:=x) (n:=x.length) (key:=key) (by rw[aab];exact sx) x0 Q1;rw[aab] at this;exact this
  by_cases c2:nb=0
  ·rw[hV (by simpa using c2)];refine WV (all ?_);subst c2;exact bC.mpr ⟨sx,sy,λp hp q hq=>Xa (KP p hp) (q2 q hq)⟩
  ·rw[hU (by simpa using c2)];have xs:x=x.take k++x.drop k:=(XZ k x).symm;have ys:y=y.take nb++y.drop nb:=(XZ nb y).symm;obtain⟨sx1,sx2,sx3⟩:=bC.mp (xs▸sx);obtain⟨sy1,sy2,sy3⟩:=bC.mp (ys▸sy);refine Iw C (P:=P++x.take k) (x:=x.drop k) (y:=y.take nb) (S:=y.drop nb++S) ?ex ?ey hf kd ?ha ?hs (λp hp=>dx p (YI hp)) (λp hp=>dy p (Yo hp)) sx2 sy1 (by rw[X1];lia) (by rw[Xr];lia) ?first ?last λz g hz sz=>?_
   case ex=>
    rw[wg,Np];rw[show P.length+x.length=(P++x).length by rw[WG]];rw[List.take_left,List.drop_append,Zy (by lia),Ym];rfl
   case ey=>
    rw[wc,Np];rw[show P.length+x.length=(P++x).length by rw[WG],List.drop_left,List.take_append_of_le_length Vy]
   case ha=>
    show (Xg st).toList=_;rw[ha]
    conv=>lhs;rw[xs,ys]
    simp only[W4]
   case hs=>rw[WG,Xr];lia
   case first=>
    intro q hq p hp;have:(y.take nb)[0]? = y[0]? := by rw[aax,hV (by lia)]
    rw[this,Wr y0] at hq;injection hq with hq
    subst hq;exact Xq (p2 p hp)
   case last=>
    intro i hi q hq p hp;rw[X1] at hi;rw[aau,show k+i=x.length-1 by lia,Wr Q1] at hp;injection hp with hp
    subst hp;exact Xq (q1 q hq)
   have mz:∀r∈z,r∈x.drop k\/r∈y.take nb:=λr hr=>WW.mp (hz.mem_iff.mp hr);have km:(x.take k++(z++y.drop nb)).Perm (x++y):=by
    have e:x++y=x.take k++((x.drop k++y.take nb)++y.drop nb):=by
     conv=>lhs;rw[xs,ys]
     simp only[W4]
    rw[e];exact XY _ (Yw _ hz)
   have Vz:i8 key (x.take k++(z++y.drop nb)):=by
    refine bC.mpr ⟨sx1,bC.mpr ⟨sz,sy2,λp hp q hq=>?_⟩,λp hp q hq=>?_⟩
    ·rcases mz p hp with hp|hp
     ·exact Xa (KP p (YI hp)) (q2 q hq)
     ·exact sy3 p hp q hq
    ·rcases WW.mp hq with hq|hq
     ·rcases mz q hq with hq|hq
      ·exact sx3 p hp q hq
      ·exact Xa (p1 p hp) (yh q (Yo hq))
     ·exact Xa (p1 p hp) (yh q (YI hq))
   have:=h _ g km Vz;have e:P++(x.take k++(z++y.drop nb)++S)=P++x.take k++(z++(y.drop nb++S)):=by simp only[W4]
   rw[e] at this;exact this
end
end Hc.Ts
namespace Hc.Ts
noncomputable def BX (lo n m:Nat):StateT W2 Sem AscSt:=forIn [n:m] ((none,n):AscSt) λ_ c=>do
 let some sm ←ltAt' (lo+c.2) (lo+c.2-1)|pure (.done (some none,c.2))
 if sm=true then pure (.done (none,c.2)) else pure (.yield (none,c.2+1))
noncomputable def BY (lo n m:Nat):StateT W2 Sem (Option Nat):=do
 aa3 lo (lo+n)
 let c ←BX lo n m
 match c.1 with
 |some r=>pure r
 |none=>pure (some c.2)
noncomputable def Kh (lo:Nat)(c:DescSt):StateT W2 Sem (ForInStep DescSt):=do
 let some sm ←ltAt' (lo+c.2.1) (lo+c.2.1-1)|pure (.done (some none,c.2.1,c.2.2))
 if sm=true then
  if c.2.2>0 then do
   aa3 (lo+c.2.1-(c.2.2+1)) (lo+c.2.1)
   pure (.yield (none,c.2.1+1,0))
  else pure (.yield (none,c.2.1+1,0))
 else do
  let some lg ←ltAt' (lo+c.2.1-1) (lo+c.2.1)|pure (.done (some none,c.2.1,c.2.2))
  if lg=true then pure (.done (none,c.2.1,c.2.2)) else pure (.yield (none,c.2.1+1,c.2.2+1))
noncomputable def Ga (lo n m:Nat):StateT W2 Sem DescSt:=forIn [n:m] ((none,n,0):DescSt) λ_ c=>Kh lo c
noncomputable def BZ (lo n m:Nat):StateT W2 Sem (Option Nat):=do
 liftM (rule "list.sort.descending-run")
 let c ←Ga lo (n+1) m
 match c.1 with
 |some r=>pure r
 |none=>
  if c.2.2>0 then do
   aa3 (lo+c.2.1-(c.2.2+1)) (lo+c.2.1)
   BY lo c.2.1 m
  else BY lo c.2.1 m
theorem yf (lo m:Nat):countRun' lo m=(do
  let c ←BX lo 1 m
  match c.1 with
  |some r=>pure r
  |none=>
   if (c.2==m)=true then pure (some c.2)
   else if c.2>1 then do
    let some rs ←ltAt' lo (lo+c.2-1)|pure none
    if rs=true then pure (some c.2)
    else do
     aa3 lo (lo+c.2)
     BZ lo c.2 m
   else BZ lo c.2 m):=by kernel_rfl
section
variable {A:Xh}{O:abW}{key:W3->O.α}{knd:Z_}{D:W3->Prop}{lo:Nat}{a0:Array W3}{cD:W2}
noncomputable def kx (key:W3->O.α)(l:Array W3)(i:Nat):O.α:=key ((l[i]?).getD (Value.none,Value.none))
theorem yg {l m:Array W3}(h:l[i]? = m[j]?):kx key l i=kx key m j:=by unfold kx;rw[h]
theorem Ap {l:Array W3}(hm:lo+m<=l.size)(k:Nat):kx key (mirror l (lo+n) (lo+m) ((lo+m-(lo+n)) / 2)) (lo+k)=if n<=k/\k<m then kx key l (lo+(n+m-1-k)) else kx key l (lo+k):=by
 have e:=getElem?_mirror_all (i:=lo+n) hm (lo+k);by_cases c:n<=k/\k<m
 ·rw[hV (by lia)] at e;rw[hV c];exact yg (e.trans (by congr 1;lia))
 ·rw[hU (by lia)] at e;rw[hU c];exact yg e
theorem gO {l:Array W3}(hm:lo+m<=l.size)(he:∀k,n<=k->k<m->kx key l (lo+k)=kx key l (lo+m-1))(k:Nat):kx key (mirror l (lo+n) (lo+m) ((lo+m-(lo+n)) / 2)) (lo+k)=kx key l (lo+k):=by
 rw[Ap hm];split
 ·rename_i c;rw[he _ (by lia) (by lia),he k c.1 c.2]
 ·rfl
theorem Gb {l:Array W3}{p d:Nat}(hp:lo+p<l.size)(hd:d<=p)(k:Nat):kx key (bubble l (lo+p) d) (lo+k)=if k=p-d then kx key l (lo+p) else if p-d<k/\k<=p then kx key l (lo+(k-1)) else kx key l (lo+k):=by
 have e:=getElem?_bubble hp d (by lia) (lo+k);by_cases c:k=p-d
 ·rw[hV (by lia)] at e;rw[hV c];exact yg e
 ·rw[hU (by lia)] at e;rw[hU c];by_cases c2:p-d<k/\k<=p
  ·rw[hV (by lia)] at e;rw[hV c2];exact yg (e.trans (by congr 1;lia))
  ·rw[hU (by lia)] at e;rw[hU c2];exact yg e
def DK (key:W3->O.α)(lo:Nat)(l:Array W3)(n:Nat):Prop:=∀i j,i<=j->j<n->O.kle (kx key l (lo+i)) (kx key l (lo+j))
def Nk (key:W3->O.α)(lo:Nat)(l:Array W3)(n:Nat):Prop:=∀i j,i<=j->j<n->O.kle (kx key l (lo+j)) (kx key l (lo+i))
structure SB (lo:Nat)(a0:Array W3)(cD st:W2):Prop where
 perm:(Xg st).Perm a0
 same:∀k,k<lo->(Xg st)[k]? = a0[k]?
 rest:st=setArr cD (Xg st)
theorem SB.size {st:W2}(h:SB lo a0 cD st):(Xg st).size=a0.size:=h.perm.size_eq
theorem SB.put {st:W2}(h:SB lo a0 cD st){l:Array W3}(hp:l.Perm (Xg st))(hs:∀k,k<lo->l[k]? = (Xg st)[k]?):SB lo a0 cD (setArr st l):=by
 refine⟨hp.trans h.perm,λk hk=>(hs k hk).trans (h.same k hk),?_⟩;have:=h.rest;generalize Xg st=z at this;subst this;rfl
theorem SB.mir {st:W2}(h:SB lo a0 cD st)(hm:lo+m<=a0.size):SB lo a0 cD (setArr st (mirror (Xg st) (lo+n) (lo+m) ((lo+m-(lo+n)) / 2))):=by
 refine h.put (mirror_perm _ _ _ _) λk hk=>?_;rw[getElem?_mirror_all (by rw[h.size];exact hm),hU (by lia)]
theorem SB.bub {st:W2}(h:SB lo a0 cD st){p d:Nat}(hp:lo+p<a0.size)(hd:d<=p):SB lo a0 cD (setArr st (bubble (Xg st) (lo+p) d)):=by
 refine h.put (bubble_perm _ _ _) λk hk=>?_;rw[getElem?_bubble (by rw[h.size];exact hp) d (by lia),hU (by lia),hU (by lia)]
theorem SB.kind {st:W2}(h:SB lo a0 cD st)(kd:XW cD=knd):XW st=knd:=by rw[h.rest];exact kd
theorem sP (C:lZ M A E s O key knd D){st:W2}{Q:Option Bool->W2->Prop}(kd:XW cD=knd)(hD:∀p∈a0.toList,D p)(hB:SB lo a0 cD st)(hi:i<a0.size)(hj:j<a0.size)(h:Q (some (O.blt (kx key (Xg st) i) (kx key (Xg st) j))) st):wpS M A E s (ltAt' i j) Q st:=by
 have fd:∀i,i<a0.size->∃p,(Xg st)[i]? = some p/\D p/\kx key (Xg st) i=key p:=λi hi=>by
  have xk:i<(Xg st).size:=by rw[hB.size];exact hi
  refine⟨(Xg st)[i],getElem?_pos _ i xk,hD _ ((abj.mp hB.perm).mem_iff.mp (by simp)),?_⟩;unfold kx;rw[getElem?_pos _ i xk];rfl
 obtain⟨p,e1,d1,k1⟩:=fd i hi;obtain⟨q,e2,d2,k2⟩:=fd j hj;rw[k1,k2] at h;rw[ltAt'_eq];refine WM (abJ ?_);dsimp only;rw[elem'_eq,elem'_eq,e1,e2];refine WM (WV (WM (WV ?_)));exact C.lt p q st Q d1 d2 (hB.kind kd) h
theorem wo {st:W2}{Q:Unit->W2->Prop}(h:Q () (setArr st (mirror (Xg st) i j ((j-i) / 2)))):wpS M A E s (aa3 i j) Q st:=by
 rw[reverseSlice'_eq];exact aag h
theorem yi (C:lZ M A E s O key knd D){st:W2}{Q:AscSt->W2->Prop}(kd:XW cD=knd)(hD:∀p∈a0.toList,D p)(hm:lo+m<=a0.size)(n1:1<=n)(nm:n<=m)(hB:SB lo a0 cD st)(ha:DK key lo (Xg st) n)(h:∀r,n<=r->r<=m->DK key lo (Xg st) r->(r=m\/O.klt (kx key (Xg st) (lo+r)) (kx key (Xg st) (lo+r-1)))->Q (none,r) st):wpS M A E s (BX lo n m) Q st:=by
 unfold BX;refine X0 (I:=λx c aU=>aU=st/\c=(none,x)/\DK key lo (Xg st) x) ?go ?out ⟨rfl,rfl,ha⟩
 case out=>
  rintro c aU ⟨rfl,rfl,AQ⟩;have e:max n m=m:=by lia
  rw[e] at AQ ⊢;exact h m nm (WI _) AQ (.inl rfl)
 case go=>
  rintro x c aU h1 h2 ⟨rfl,rfl,AQ⟩;dsimp only;refine WM (sP C kd hD hB (by lia) (by lia) ?_);dsimp only;cases e:O.blt (kx key (Xg aU) (lo+x)) (kx key (Xg aU) (lo+x-1)) with
  |true=>
   rw[hV rfl];exact WV (h x h1 (by lia) AQ (.inr e))
  |false=>
   rw[hU WA];refine WV ⟨rfl,rfl,λi j uE hj=>?_⟩;by_cases c1:j<x
   ·exact AQ i j uE c1
   ·have:j=x:=by lia
    subst this;by_cases c2:i=j
    ·subst c2;exact Yb _
    ·have:=AQ i (j-1) (by lia) (by lia);rw[show lo+(j-1)=lo+j-1 by lia] at this;exact Xa this e
theorem yj (C:lZ M A E s O key knd D){st:W2}{Q:Option Nat->W2->Prop}(kd:XW cD=knd)(hD:∀p∈a0.toList,D p)(hm:lo+m<=a0.size)(n1:1<=n)(nm:n<=m)(hB:SB lo a0 cD st)(hd:Nk key lo (Xg st) n)(h:∀r aU,SB lo a0 cD aU->1<=r->r<=m->DK key lo (Xg aU) r->Q (some r) aU):wpS M A E s (BY lo n m) Q st:=by
 unfold BY;refine WM (wo ?_);have Nq:=hB.mir (n:=0) (m:=n) (by lia);have hz:lo+n<=(Xg st).size:=by rw[hB.size];lia
 rw[abA] at Nq;refine WM (yi C kd hD hm n1 nm Nq (λi j uE hj=>?_) λr r1 r2 r3 _=>WV (h r _ Nq (by lia) r2 r3));have e1:=Ap (key:=key) (lo:=lo) (n:=0) hz i;have e2:=Ap (key:=key) (lo:=lo) (n:=0) hz j;rw[abA,hV (by lia)] at e1 e2;rw[e1,e2];exact hd _ _ (by lia) (by lia)
theorem Gd (C:lZ M A E s O key knd D){st:W2}{Q:DescSt->W2->Prop}(kd:XW cD=knd)(hD:∀p∈a0.toList,D p)(hm:lo+m<=a0.size)(n1:1<=n)(nm:n<=m)(hB:SB lo a0 cD st)(hd:Nk key lo (Xg st) n)(h:∀r q aU,SB lo a0 cD aU->n<=r->r<=m->Nk key lo (Xg aU) r->q+1<=r->(∀i,r-(q+1)<=i->i<r->kx key (Xg aU) (lo+i)=kx key (Xg aU) (lo+r-1))->Q (none,r,q) aU):wpS M A E s (Ga lo n m) Q st:=by
 unfold Ga;refine X0 (I:=λx c aU=>∃q,c=(none,x,q)/\SB lo a0 cD aU/\Nk key lo (Xg aU) x/\q+1<=x/\∀i,x-(q+1)<=i->i<x->kx key (Xg aU) (lo+i)=kx key (Xg aU) (lo+x-1)) ?go ?out
  ⟨0,rfl,hB,hd,by lia,λi a1 a2=>by congr 1;lia⟩
 case out=>
  rintro c aU ⟨q,rfl,b1,b2,b3,b4⟩;have e:max n m=m:=by lia
  rw[e] at b2 b3 b4 ⊢;exact h m q aU b1 nm (WI _) b2 b3 b4
 case go=>
  rintro x c aU h1 h2 ⟨q,rfl,b1,b2,b3,b4⟩;have hz:lo+x<=(Xg aU).size:=by rw[b1.size];lia
  unfold Kh;dsimp only;refine WM (sP C kd hD b1 (by lia) (by lia) ?_);dsimp only;cases e:O.blt (kx key (Xg aU) (lo+x)) (kx key (Xg aU) (lo+x-1)) with
  |true=>
   rw[hV rfl];have nx:∀l:Array W3,(∀k,kx key l (lo+k)=kx key (Xg aU) (lo+k))->Nk key lo l (x+1):=by
    intro l hl i j uE hj;rw[hl,hl];by_cases c1:j<x
    ·exact b2 i j uE c1
    ·have:j=x:=by lia
     subst this;by_cases c2:i=j
     ·subst c2;exact Yb _
     ·have:=b2 i (j-1) (by lia) (by lia);rw[show lo+(j-1)=lo+j-1 by lia] at this;exact Xa (Xq e) this
   by_cases c:q>0
   ·rw[hV c];refine WM (wo ?_);have e3:lo+x-(q+1)=lo+(x-(q+1)):=by lia
    rw[e3];refine WV ⟨0,rfl,b1.mir (by lia),nx _ (gO hz b4),by lia,λi a1 a2=>?_⟩;congr 1;lia
   ·rw[hU c];exact WV ⟨0,rfl,b1,nx _ (λ_=>rfl),by lia,λi a1 a2=>by congr 1;lia⟩
  |false=>
   rw[hU WA];refine WM (sP C kd hD b1 (by lia) (by lia) ?_);dsimp only;cases e2:O.blt (kx key (Xg aU) (lo+x-1)) (kx key (Xg aU) (lo+x)) with
   |true=>
    rw[hV rfl];exact WV (h x q aU b1 h1 (by lia) b2 b3 b4)
   |false=>
    rw[hU WA];have eq:kx key (Xg aU) (lo+x)=kx key (Xg aU) (lo+x-1):=KeyOrd.kle_antisymm e2 e;refine WV ⟨q+1,rfl,b1,λi j uE hj=>?_,by lia,λi a1 a2=>?_⟩
    ·by_cases c1:j<x
     ·exact b2 i j uE c1
     ·have:j=x:=by lia
      subst this;by_cases c2:i=j
      ·subst c2;exact Yb _
      ·rw[eq];have:=b2 i (j-1) (by lia) (by lia);rw[show lo+(j-1)=lo+j-1 by lia] at this;exact this
    ·rw[show lo+(x+1)-1=lo+x by lia];by_cases c1:i=x
     ·subst c1;rfl
     ·rw[eq];exact b4 i (by lia) (by lia)
theorem yk (C:lZ M A E s O key knd D){st:W2}{Q:Option Nat->W2->Prop}(kd:XW cD=knd)(hD:∀p∈a0.toList,D p)(hm:lo+m<=a0.size)(nm:n+1<=m)(hB:SB lo a0 cD st)(hd:Nk key lo (Xg st) (n+1))(h:∀r aU,SB lo a0 cD aU->1<=r->r<=m->DK key lo (Xg aU) r->Q (some r) aU):wpS M A E s (BZ lo n m) Q st:=by
 unfold BZ;refine WM (wpS_lift (YQ ⟨rfl,?_⟩));refine WM (Gd C kd hD hm (by lia) nm hB hd λr q aU b1 r1 r2 b2 b3 b4=>?_);dsimp only;have hz:lo+r<=(Xg aU).size:=by rw[b1.size];lia
 by_cases c:q>0
 ·rw[hV c];refine WM (wo ?_);have e3:lo+r-(q+1)=lo+(r-(q+1)):=by lia
  rw[e3];refine yj C kd hD hm (by lia) r2 (b1.mir (by lia)) (λi j uE hj=>?_) h;have e1:=gO (key:=key) hz b4 i;have e2:=gO (key:=key) hz b4 j;rw[e1,e2];exact b2 i j uE hj
 ·rw[hU c];exact yj C kd hD hm (by lia) r2 b1 b2 h
theorem ym (C:lZ M A E s O key knd D){st:W2}{Q:Option Nat->W2->Prop}(kd:XW cD=knd)(hD:∀p∈a0.toList,D p)(hm:lo+m<=a0.size)(m1:1<=m)(hB:SB lo a0 cD st)(h:∀r aU,SB lo a0 cD aU->1<=r->r<=m->DK key lo (Xg aU) r->Q (some r) aU):wpS M A E s (countRun' lo m) Q st:=by
 rw[yf];refine WM (yi C kd hD hm (WI 1) m1 hB (λi j uE hj=>by rw[show i=j by lia];exact Yb _) λn n1 n2 ha ho=>?_);dsimp only;by_cases c:n=m
 ·rw[hV (by simpa using c)];exact WV (h n st hB n1 n2 ha)
 ·rw[hU (by simpa using c)];have hl:=ho.resolve_left c;by_cases c2:n>1
  ·rw[hV c2];refine WM (sP C kd hD hB (by lia) (by lia) ?_);dsimp only;cases e:O.blt (kx key (Xg st) lo) (kx key (Xg st) (lo+n-1)) with
   |true=>
    rw[hV rfl];exact WV (h n st hB n1 n2 ha)
   |false=>
    rw[hU WA];have hz:lo+n<=(Xg st).size:=by rw[hB.size];lia
    have al:∀k,0<=k->k<n->kx key (Xg st) (lo+k)=kx key (Xg st) (lo+n-1):=by
     intro k _ hk;have p1:=ha 0 k (by lia) hk;have p2:=ha k (n-1) (by lia) (by lia);rw[show lo+(n-1)=lo+n-1 by lia] at p2;exact KeyOrd.kle_antisymm p2 (Xa (show O.kle _ (kx key (Xg st) lo) from e) p1)
    refine WM (wo ?_);have Nq:=hB.mir (n:=0) (m:=n) (by lia);rw[abA] at Nq;refine yk C kd hD hm (by lia) Nq (λi j uE hj=>?_) h;have e1:=gO (key:=key) (n:=0) hz al i;have e2:=gO (key:=key) (n:=0) hz al j;rw[abA] at e1 e2;rw[e1,e2];by_cases c3:j<n
    ·rw[al i (by lia) (by lia),al j (by lia) c3];exact Yb _
    ·have:j=n:=by lia
     subst this;by_cases c4:i=j
     ·subst c4;exact Yb _
     ·rw[al i (by lia) (by lia)];exact Xq hl
  ·rw[hU c2];have:n=1:=by lia
   subst this;refine yk C kd hD hm (by lia) hB (λi j uE hj=>?_) h;by_cases c4:i=j
   ·subst c4;exact Yb _
   ·have Tt:i=0:=by lia
    have VA:j=1:=by lia
    subst Tt;subst VA;exact Xq hl
theorem Aq (C:lZ M A E s O key knd D){st:W2}{ok:Nat}{Q:Bool->W2->Prop}(kd:XW cD=knd)(hD:∀p∈a0.toList,D p)(hn:lo+n<=a0.size)(hok:ok<=n)(hB:SB lo a0 cD st)(ha:DK key lo (Xg st) ok)(h:∀aU,SB lo a0 cD aU->DK key lo (Xg aU) n->Q true aU):wpS M A E s (binarySort' lo n ok) Q st:=by
 rw[binarySort'_eq];refine WM (Y6 (X0 (I:=λk c aU=>c=(none,())/\SB lo a0 cD aU/\DK key lo (Xg aU) (min k n))
  (Q:=λc aU=>c=(none,())/\SB lo a0 cD aU/\DK key lo (Xg aU) n) ?go ?out ?vK) ?end_)
 case end_=>
  rintro c aU ⟨rfl,b1,b2⟩;exact WV (h aU b1 b2)
 case vK=>
  refine⟨rfl,hB,λi j uE hj=>?_⟩;by_cases c:ok=0
  ·rw[show i=j by lia];exact Yb _
  ·exact ha i j uE (by lia)
 case out=>
  rintro c aU ⟨e,b1,b2⟩;have e2:min (max (max ok 1) n) n=n:=by lia
  rw[e2] at b2;exact⟨e,b1,b2⟩
 case go=>
  rintro k c za AO Uy ⟨rfl,b1,b2⟩;have e1:min k n=k:=by lia
  rw[e1] at b2;have hk:lo+k<a0.size:=by lia
  refine WM (Y6 (X0 (I:=λx c lG=>lG=za/\∃l r,c=(none,l,r)/\l<=r/\r<=k/\r-l<=k-x/\
    (∀i,i<l->O.kle (kx key (Xg za) (lo+i)) (kx key (Xg za) (lo+k)))/\∀i,r<=i->i<k->O.klt (kx key (Xg za) (lo+k)) (kx key (Xg za) (lo+i)))
   (Q:=λc lG=>lG=za/\∃l,c=(none,l,l)/\l<=k/\(∀i,i<l->O.kle (kx key (Xg za) (lo+i)) (kx key (Xg za) (lo+k)))/\∀i,l<=i->i<k->O.klt (kx key (Xg za) (lo+k)) (kx key (Xg za) (lo+i))) ?go2 ?out2 ?KQ) ?end2)
  case KQ=>exact⟨rfl,0,k,rfl,by lia,by lia,by lia,λi hi=>by lia,λi a1 a2=>by lia⟩
  case out2=>
   rintro c lG ⟨rfl,l,r,rfl,q1,q2,q3,q4,q5⟩;have:l=r:=by lia
   subst this;exact⟨rfl,l,rfl,q2,q4,q5⟩
  case go2=>
   rintro x c lG _ hx ⟨rfl,l,r,rfl,q1,q2,q3,q4,q5⟩;dsimp only;by_cases c:l≥r
   ·rw[hV c];have:l=r:=by lia
    subst this;exact WV ⟨rfl,l,rfl,q2,q4,q5⟩
   ·rw[hU c];refine WM (sP C kd hD b1 hk (by lia) ?_);cases e:O.blt (kx key (Xg lG) (lo+k)) (kx key (Xg lG) (lo+(l+r) / 2)) with
    |true=>
     simp only[if_true];exact WV ⟨rfl,l,(l+r) / 2,rfl,by lia,by lia,by lia,q4,λi a1 a2=>KeyOrd.klt_of_klt_of_kle e (b2 _ _ a1 a2)⟩
    |false=>
     simp only[W9,if_false];exact WV ⟨rfl,(l+r) / 2+1,r,rfl,by lia,by lia,by lia,λi a1=>Xa (b2 i ((l+r) / 2) (by lia) (by lia)) (show O.kle _ _ from e),q5⟩
  case end2=>
   rintro c lG ⟨rfl,l,rfl,q2,q4,q5⟩;dsimp only;rw[moveDown'_eq];have e2:lo+k-(lo+l)=k-l:=by lia
   refine WM (aag (WV ⟨rfl,?_,?_⟩))
   ·rw[e2];exact b1.bub hk (by lia)
   ·rw[show min (k+1) n=k+1 by lia];have hz:lo+k<(Xg lG).size:=by rw[b1.size];exact hk
    intro i j uE hj;show O.kle (kx key (bubble (Xg lG) (lo+k) (lo+k-(lo+l))) (lo+i)) (kx key (bubble (Xg lG) (lo+k) (lo+k-(lo+l))) (lo+j));rw[e2,Gb hz (by lia),Gb hz (by lia),show k-(k-l)=l by lia]
    repeat' split
    all_goals first
     | (exfalso;lia)
     |exact Yb _
     |exact q4 _ (by lia)
     |exact Xq (q5 _ (by lia) (by lia))
     |exact b2 _ _ (by lia) (by lia)
end
end Hc.Ts
namespace Hc.Ts
noncomputable def wq (lo n:Nat):StateT W2 Sem (ForInStep (Option Unit×Nat)):=do
 modify λst=>setPending st ((Xd st).push (lo,n,0))
 pure (.yield (none,lo+n))
noncomputable def RV (pw:Nat)(_:Nat)(_:Option Unit×Unit):StateT W2 Sem (ForInStep (Option Unit×Unit)):=do
 let st ←get
 let some (_,_,old):=(if (Xd st).size>1 then (Xd st)[(Xd st).size-2]? else none)|pure (.done (none,()))
 if old<=pw then pure (.done (none,())) else do
  let r ←mergeAt' ((Xd st).size-2)
  if (!r)=true then pure (.done (some (),())) else pure (.yield (none,()))
noncomputable def RW (pw:Nat)(st:W2):W2:=setPending st ((Xd st).modify ((Xd st).size-1) λx=>match x with|(p,n,_)=>(p,n,pw))
noncomputable def Ki (size lo n pw:Nat):StateT W2 Sem (ForInStep (Option Unit×Nat)):=do
 let c ←forIn [0:size] ((none,()):Option Unit×Unit) (RV pw)
 match c.1 with
 |some r=>pure (.done (some r,lo))
 |none=>do
  modify (RW pw)
  wq lo n
noncomputable def QS (size lo n:Nat):StateT W2 Sem (ForInStep (Option Unit×Nat)):=do
 let st ←get
 let some (p1,n1,_):=(Xd st).back? | wq lo n
 Ki size lo n (power' size (2*p1+n1) (2*p1+n1+n1+n) size)
noncomputable def RX (size oW:Nat)(_:Nat)(c:Option Unit×Nat):StateT W2 Sem (ForInStep (Option Unit×Nat)):=
 if c.2≥size then pure (.done (none,c.2)) else do
  let some n ←countRun' c.2 (size-c.2)|pure (.done (some (),c.2))
  if n<oW then do
   liftM (rule "list.sort.binary-insertion")
   let r ←binarySort' c.2 (min (size-c.2) oW) n
   if (!r)=true then pure (.done (some (),c.2)) else QS size c.2 (min (size-c.2) oW)
  else QS size c.2 n
noncomputable def RY (p:Array (Nat×Nat×Nat)):Nat:=
 if Option.any (λx=>decide (x<(p[p.size-2+1]?).elim 0 λx=>x.2.1)) (if p.size-2>0 then Option.map (λx=>x.2.1) p[p.size-2-1]? else none)=true then p.size-2-1 else p.size-2
noncomputable def T7 (_:Nat)(_:Option Unit×Unit):StateT W2 Sem (ForInStep (Option Unit×Unit)):=do
 let st ←get
 if (Xd st).size<=1 then pure (.done (none,())) else do
  let r ←mergeAt' (RY (Xd st))
  if (!r)=true then pure (.done (some (),())) else pure (.yield (none,()))
theorem wt:sortRuns'=(do
  let st ←get
  let c ←forIn [0:(Xg st).size] ((none,0):Option Unit×Nat) (RX (Xg st).size (minRun' (Xg st).size (Xg st).size 0))
  match c.1 with
  |some r=>pure r
  |none=>do
   let d ←forIn [0:(Xg st).size] ((none,()):Option Unit×Unit) T7
   match d.1 with
   |some r=>pure r
   |none=>pure ()):=by kernel_rfl
section
variable {A:Xh}{O:abW}{key:W3->O.α}{knd:Z_}{D:W3->Prop}
def sQ (key:W3->O.α):Nat->List (List W3)->List (Nat×Nat×Nat)->Prop
 |_,[],[]=>True
 |p,g::gs,e::es=>e.1=p/\e.2.1=g.length/\0<g.length/\i8 key g/\sQ key (p+g.length) gs es
 |_,_,_=>False
theorem sQ.len:∀{p:Nat} {gs:List (List W3)} {es:List (Nat×Nat×Nat)},sQ key p gs es->gs.length=es.length/\gs.length<=gs.flatten.length
 |_,[],[],_=>⟨rfl,WI _⟩
 |p,g::gs,e::es,h=>by
  obtain⟨h1,h2⟩:=sQ.len h.2.2.2.2;have:=h.2.2.1;rw[Xf,WG,Ww,Ww];lia
theorem sQ.app:∀{p:Nat} {gs:List (List W3)} {es:List (Nat×Nat×Nat)} {gs2:List (List W3)} {es2:List (Nat×Nat×Nat)},sQ key p gs es->sQ key (p+gs.flatten.length) gs2 es2->sQ key p (gs++gs2) (es++es2)
 |_,[],[],_,_,_,h2=>h2
 |p,g::gs,e::es,gs2,es2,h,h2=>by
  refine⟨h.1,h.2.1,h.2.2.1,h.2.2.2.1,sQ.app h.2.2.2.2 ?_⟩;rw[Xf,WG,←Zr] at h2;exact h2
theorem sQ.split:∀{i p:Nat} {gs:List (List W3)} {es:List (Nat×Nat×Nat)},sQ key p gs es->i+1<es.length->∃g1 x y g2 e1 pw pw2 e2,gs=g1++x::y::g2/\es=e1++(p+g1.flatten.length,x.length,pw)::(p+g1.flatten.length+x.length,y.length,pw2)::e2/\e1.length=i/\sQ key p g1 e1/\0<x.length/\i8 key x/\0<y.length/\i8 key y/\sQ key (p+g1.flatten.length+x.length+y.length) g2 e2
 |0,p,x::y::g2,(a,b,pw)::(c,d,pw2)::e2,h,_=>by
  obtain⟨h1,h2,h3,h4,k1,k2,k3,k4,h5⟩:=h;dsimp only at h1 h2 k1 k2;subst h1;subst h2;subst k1;subst k2;exact⟨[],x,y,g2,[],pw,pw2,e2,rfl,rfl,rfl,trivial,h3,h4,k3,k4,h5⟩
 |0,p,[x],[e],h,hl=>absurd hl (by simp)
 |0,p,[],[],h,hl=>absurd hl (by simp)
 |0,p,[x],_::_::_,h,hl=>h.2.2.2.2.elim
 |0,p,_::_::_,[e],h,hl=>h.2.2.2.2.elim
 |i+1,p,[],[],h,hl=>absurd hl (by simp)
 |i+1,p,g::gs,e::es,h,hl=>by
  obtain⟨g1,x,y,g2,e1,pw,pw2,e2,q1,q2,q3,q4,q5⟩:=sQ.split h.2.2.2.2 (i:=i) (by simpa using hl);refine⟨g::g1,x,y,g2,e::e1,pw,pw2,e2,by rw[q1];rfl,?_,by rw[Ww,q3],⟨h.1,h.2.1,h.2.2.1,h.2.2.2.1,q4⟩,?_⟩
  ·rw[q2,Xf,WG,←Zr];rfl
  ·rw[Xf,WG,←Zr];exact q5
theorem sQ.power {f:Nat×Nat×Nat->Nat×Nat×Nat}(hf:∀e,(f e).1=e.1/\(f e).2.1=e.2.1):∀{i p:Nat} {gs:List (List W3)} {es:List (Nat×Nat×Nat)},sQ key p gs es->sQ key p gs (es.modify i f)
 |_,_,[],[],_=>by rw[List.modify_nil];exact trivial
 |0,p,g::gs,e::es,h=>by
  rw[List.modify_zero_cons];exact⟨(hf e).1.trans h.1,(hf e).2.trans h.2.1,h.2.2⟩
 |i+1,p,g::gs,e::es,h=>by
  rw[List.modify_succ_cons];exact⟨h.1,h.2.1,h.2.2.1,h.2.2.2.1,sQ.power hf h.2.2.2.2⟩
structure SI (key:W3->O.α)(knd:Z_)(a0:Array W3)(lo:Nat)(rest:List W3)(st:W2):Prop where
 failed:aaa st=none
 kind:XW st=knd
 perm:(Xg st).toList.Perm a0.toList
 segs:∃gs:List (List W3),(Xg st).toList=gs.flatten++rest/\gs.flatten.length=lo/\sQ key 0 gs (Xd st).toList
variable {a0:Array W3}{lo:Nat}{rest:List W3}
theorem SI.size {st:W2}(h:SI key knd a0 lo rest st):lo+rest.length=a0.size:=by
 obtain⟨gs,e,l,_⟩:=h.segs;have:=h.perm.length_eq;rw[e,WG,l,Wx] at this;exact this
theorem SI.few {st:W2}(h:SI key knd a0 lo rest st):(Xd st).size<=lo:=by
 obtain⟨gs,e,l,p⟩:=h.segs;have h1:=p.len;have h2:(Xd st).toList.length=(Xd st).size:=Wx;lia
theorem SI.merge (C:lZ M A E s O key knd D)(hD:∀p∈a0.toList,D p){st:W2}(h:SI key knd a0 lo rest st)(hi:i+1<(Xd st).size){Q:Bool->W2->Prop}(q:∀aU,SI key knd a0 lo rest aU->(Xd aU).size+1=(Xd st).size->Q true aU):wpS M A E s (mergeAt' i) Q st:=by
 obtain⟨gs,e,l,p⟩:=h.segs;obtain⟨g1,x,y,g2,e1,pw,pw2,e2,q1,q2,q3,q4,x0,sx,y0,sy,q5⟩:=p.split (i:=i) (by rw[Wx];exact hi);rw[Y2] at q2 q5;subst q3;have ea:(Xg st).toList=g1.flatten++(x++(y++(g2.flatten++rest))):=by
  rw[e,q1,YU,Xf,Xf];simp only[W4]
 have mem:∀p∈(Xg st).toList,D p:=λp hp=>hD p (h.perm.mem_iff.mp hp);refine Ao C (pw:=pw) (pw2:=pw2) h.failed h.kind ea ?_ ?_ (λp hp=>mem p (by rw[ea];simp[hp])) (λp hp=>mem p (by rw[ea];simp[hp])) sx sy x0 y0 λz g hz sz=>q _ ?_ ?_
 ·rw[←WS,q2,Xx (WI _),abz];rfl
 ·rw[←WS,q2,Xx (Yc _ 1),Ym];rfl
 all_goals
  have ep:(vc (Xd st) e1.length g1.flatten.length (x.length+y.length) pw).toList=e1++(g1.flatten.length,x.length+y.length,pw)::e2:=by
   unfold vc;rw[Array.toList_eraseIdxIfInBounds,abi,q2,List.set_append_right _ _ (WI _),abz,Yn,List.eraseIdx_append_of_length_le (Yc _ 1),Ym];rfl
 ·refine⟨h.failed,h.kind,?_,g1++z::g2,?_,?_,?_⟩
  ·show (g1.flatten++(z++(g2.flatten++rest))).Perm a0.toList;refine List.Perm.trans ?_ h.perm;rw[ea];refine XY _ ?_;rw[←W4 x];exact Yw _ hz
  ·show g1.flatten++(z++(g2.flatten++rest))=_;rw[YU,Xf];simp only[W4]
  ·rw[←l,q1,YU,YU,Xf,Xf,Xf];have:=hz.length_eq;rw[WG] at this;simp only[WG];lia
  ·show sQ key 0 _ (vc (Xd st) e1.length g1.flatten.length (x.length+y.length) pw).toList;have hl:z.length=x.length+y.length:=by rw[hz.length_eq,WG]
   rw[ep];refine q4.app ⟨by rw[Y2],hl.symm,by rw[hl];lia,sz,?_⟩;rw[Y2,hl,←Zr];exact q5
 ·show (vc (Xd st) e1.length g1.flatten.length (x.length+y.length) pw).size+1=_;rw[←Wx,ep,←Wx (xs:=Xd st),q2];simp only[WG,Ww];lia
theorem Mh (C:lZ M A E s O key knd D)(hD:∀p∈a0.toList,D p){st:W2}(h:SI key knd a0 lo rest st){pw:Nat}{c:Option Unit×Unit}{Q:ForInStep (Option Unit×Unit)->W2->Prop}(q1:∀aU,SI key knd a0 lo rest aU->Q (.done (none,())) aU)(q2:∀aU,SI key knd a0 lo rest aU->Q (.yield (none,())) aU):wpS M A E s (RV pw i c) Q st:=by
 unfold RV;refine WM (abJ ?_);by_cases c1:(Xd st).size>1
 ·rw[hV c1,getElem?_pos (Xd st) _ (by lia)];obtain⟨a,b,old⟩:=(Xd st)[(Xd st).size-2];dsimp only;split
  ·exact WV (q1 st h)
  ·refine WM (h.merge C hD (by lia) λaU h' _=>?_);rw[hU (by decide)];exact WV (q2 aU h')
 ·rw[hU c1];exact WV (q1 st h)
theorem vd {st:W2}(h:SI key knd a0 lo rest st){Q:ForInStep (Option Unit×Nat)->W2->Prop}(n1:1<=n)(n2:n<=rest.length)(sr:i8 key (rest.take n))(q:∀aU,SI key knd a0 (lo+n) (rest.drop n) aU->Q (.yield (none,lo+n)) aU):wpS M A E s (wq lo n) Q st:=by
 unfold wq;refine WM (aag (WV (q _ ?_)));obtain⟨gs,e,l,p⟩:=h.segs;have hl:(rest.take n).length=n:=by rw[Xr];lia
 refine⟨h.failed,h.kind,h.perm,gs++[rest.take n],?_,?_,?_⟩
 ·show (Xg st).toList=_;rw[e,YU,W4];congr 1;rw[Xf,List.flatten_nil,Xj,XZ]
 ·rw[YU,WG,l,Xf,List.flatten_nil,Xj,hl]
 ·show sQ key 0 _ ((Xd st).push (lo,n,0)).toList;rw[YT];exact p.app ⟨by rw[Y2,l],hl.symm,by lia,sr,trivial⟩
theorem Ge (C:lZ M A E s O key knd D)(hD:∀p∈a0.toList,D p){st:W2}(h:SI key knd a0 lo rest st){size:Nat}{Q:ForInStep (Option Unit×Nat)->W2->Prop}(n1:1<=n)(n2:n<=rest.length)(sr:i8 key (rest.take n))(q:∀aU,SI key knd a0 (lo+n) (rest.drop n) aU->Q (.yield (none,lo+n)) aU):wpS M A E s (QS size lo n) Q st:=by
 unfold QS;refine WM (abJ ?_);cases e:(Xd st).back? with
 |none=>exact vd h n1 n2 sr q
 |some v=>
  obtain⟨p1,m1,w⟩:=v;dsimp only;unfold Ki;refine WM (Y6 (X0 (I:=λx c aU=>c=(none,())/\SI key knd a0 lo rest aU) (Q:=λc aU=>c=(none,())/\SI key knd a0 lo rest aU) ?go (λ_ _ z=>z) ⟨rfl,h⟩) ?fin)
  case go=>
   rintro x c aU _ _ ⟨rfl,h'⟩;exact Mh C hD h' (λlG z=>⟨rfl,z⟩) λlG z=>⟨rfl,z⟩
  case fin=>
   rintro c aU ⟨rfl,h'⟩;dsimp only;refine WM (aag (vd ?_ n1 n2 sr q));obtain⟨gs,e,l,p⟩:=h'.segs;refine⟨h'.failed,h'.kind,h'.perm,gs,e,l,?_⟩;show sQ key 0 gs ((Xd aU).modify _ _).toList;rw[Array.toList_modify];refine sQ.power (λe=>?_) p;exact⟨rfl,rfl⟩
theorem Iz {l:Array W3}{P R:List W3}(e:l.toList=P++R)(h:DK key P.length l n):i8 key (R.take n):=by
 refine Za.mpr λi j hi hj uE=>?_;rw[Xr] at hi hj;have at_:∀k,(hk:k<R.length)->kx key l (P.length+k)=key R[k]:=λk hk=>by
  unfold kx;rw[←WS,e,Xx (Yc _ _),Ym,Wr hk];rfl
 have:=h i j (by lia) (by lia);rw[at_ i (by lia),at_ j (by lia)] at this;rw[aaK,aaK];exact this
theorem SI.run {cD st:W2}(h:SI key knd a0 lo rest cD)(b:SB lo (Xg cD) cD st):∃r,SI key knd a0 lo r st/\r.length=rest.length/\∀n,DK key lo (Xg st) n->i8 key (r.take n):=by
 obtain⟨gs,e,l,p⟩:=h.segs;have hp:=abj.mp b.perm;have hl:lo<=(Xg st).toList.length:=by rw[hp.length_eq,e,WG,l];lia
 have ht:(Xg st).toList.take lo=gs.flatten:=by
  apply Zk;intro k;rw[aax];split
  ·rename_i c;rw[WS,b.same k c,←WS,e,XR (by lia)]
  ·rename_i c;rw[ZN (by lia)]
 have e2:(Xg st).toList=gs.flatten++(Xg st).toList.drop lo:=by
  conv=>lhs;rw[←XZ lo (Xg st).toList,ht]
 refine⟨(Xg st).toList.drop lo,⟨?_,?_,hp.trans h.perm,gs,e2,l,?_⟩,?_,λn hn=>?_⟩
 ·rw[b.rest];exact h.failed
 ·rw[b.rest];exact h.kind
 ·rw[b.rest];exact p
 ·have:=hp.length_eq;rw[e,WG,l] at this;rw[X1];lia
 ·subst l;exact Iz e2 hn
theorem Mi (C:lZ M A E s O key knd D)(hD:∀p∈a0.toList,D p){st:W2}{oW:Nat}{c:Option Unit×Nat}(h:SI key knd a0 c.2 rest st){Q:ForInStep (Option Unit×Nat)->W2->Prop}(q1:SI key knd a0 a0.size [] st->c.2=a0.size->Q (.done (none,a0.size)) st)(q2:∀n r aU,1<=n->SI key knd a0 (c.2+n) r aU->Q (.yield (none,c.2+n)) aU):wpS M A E s (RX a0.size oW i c) Q st:=by
 obtain⟨c1,lo⟩:=c;dsimp only at h q1 q2;have hs:=h.size;unfold RX;dsimp only;by_cases c2:lo≥a0.size
 ·rw[hV c2];have e1:lo=a0.size:=by lia
  have e2:rest=[]:=Yd (by lia);subst e1;subst e2;exact WV (q1 h rfl)
 ·rw[hU c2];have UB:∀p∈(Xg st).toList,D p:=λp hp=>hD p (h.perm.mem_iff.mp hp);have hz:(Xg st).size=a0.size:=by have:=h.perm.length_eq;rwa [Wx,Wx] at this
  have b0:SB lo (Xg st) st st:=⟨Array.Perm.refl _,λ_ _=>rfl,rfl⟩;refine WM (ym C h.kind UB (by lia) (by lia) b0 λn aU b1 n1 n2 ha=>?_);dsimp only;by_cases c3:n<oW
  ·rw[hV c3];refine WM (wpS_lift (YQ ⟨rfl,?_⟩));refine WM (Aq C h.kind UB (by lia) (by lia) b1 ha λlG b2 Np=>?_);rw[hU (by decide)];obtain⟨r,h',hl,hr⟩:=h.run b2;exact Ge C hD h' (by lia) (by lia) (hr _ Np) λG9 h3=>q2 _ _ G9 (by lia) h3
  ·rw[hU c3];obtain⟨r,h',hl,hr⟩:=h.run b1;exact Ge C hD h' n1 (by lia) (hr _ ha) λG9 h3=>q2 _ _ G9 n1 h3
theorem Mj {p:Array (Nat×Nat×Nat)}(h:¬p.size<=1):RY p+1<p.size:=by
 unfold RY;generalize (Option.any _ _)=z;cases z with
 |true=>rw[hV rfl];lia
 |false=>rw[hU WA];lia
theorem yn (C:lZ M A E s O key knd D)(hD:∀p∈a0.toList,D p){st:W2}(hk:XW st=knd)(hf:aaa st=none)(ha:Xg st=a0)(hp:Xd st=#[]){Q:Unit->W2->Prop}
  (q:∀aU,aaa aU=none->(Xg aU).toList.Perm a0.toList->i8 key (Xg aU).toList->Q () aU):wpS M A E s sortRuns' Q st:=by
 rw[wt];refine WM (abJ ?_);rw[ha];have h0:SI key knd a0 0 a0.toList st:=⟨hf,hk,by rw[ha],[],by rw[ha];rfl,rfl,by rw[hp];exact trivial⟩;refine WM (Y6 (X0 (I:=λx c aU=>c.1=none/\x<=c.2/\∃r,SI key knd a0 c.2 r aU) (Q:=λc aU=>c.1=none/\SI key knd a0 a0.size [] aU) ?go ?out ⟨rfl,WI _,_,h0⟩) ?post)
 case out=>
  rintro⟨c1,lo⟩ aU ⟨e,hx,r,h⟩;dsimp only at e hx h;have hs:=h.size;have e1:lo=a0.size:=by lia
  have e2:r=[]:=Yd (by lia);subst e1;subst e2;exact⟨e,h⟩
 case go=>
  rintro x c aU _ hx ⟨e,hx2,r,h⟩;refine Mi C hD h (λh1 h2=>⟨rfl,h1⟩) λn r lG n1 h2=>⟨rfl,?_,r,h2⟩;show x+1<=c.2+n;lia
 case post=>
  rintro⟨c1,lo⟩ aU ⟨e,h⟩;dsimp only at e ⊢;subst e;dsimp only;refine WM (Y6 (X0 (I:=λx c aU=>c=(none,())/\SI key knd a0 a0.size [] aU/\(Xd aU).size+x<=a0.size) (Q:=λc aU=>c=(none,())/\SI key knd a0 a0.size [] aU/\(Xd aU).size<=1) ?_ ?_ ⟨rfl,h,by have:=h.few;lia⟩) ?_)
  ·rintro x c lG _ hx ⟨rfl,h2,h3⟩;unfold T7;refine WM (abJ ?_);by_cases c:(Xd lG).size<=1
   ·rw[hV c];exact WV ⟨rfl,h2,c⟩
   ·rw[hU c];refine WM (h2.merge C hD (Mj c) λG9 h4 h5=>?_);rw[hU (by decide)];exact WV ⟨rfl,h4,by lia⟩
  ·rintro c lG ⟨rfl,h2,h3⟩;exact⟨rfl,h2,by lia⟩
  ·rintro c lG ⟨rfl,h2,h3⟩;refine WV (q lG h2.failed h2.perm ?_);obtain⟨gs,e,l,p⟩:=h2.segs;rw[e,Xj]
   match gs,(Xd lG).toList,p,(show (Xd lG).toList.length<=1 by rw[Wx];exact h3) with
   | [],_,_,_=>exact List.Pairwise.nil
   | [g],[e1],p,_=>
    rw[Xf,List.flatten_nil,Xj];exact p.2.2.2.1
   |g::g2::gs,[e1],p,_=>exact p.2.2.2.2.elim
   |g::gs,e1::e2::es,p,hl=>exact absurd hl (by simp)
end
end Hc.Ts
namespace Hc.Ts
section
variable {A:Xh}{O:abW}{key:W3->O.α}{knd:Z_}{D:W3->Prop}
theorem vf {vs:List WB}(h:l.Perm (vs.zip vs)):(l.map (·.2)).Perm vs/\∀p∈l,p=(p.2,p.2):=by
 have e:(vs.zip vs).map (·.2)=vs:=by
  induction vs with
  |nil=>rfl
  |cons v r ih=>rw[aal,WQ,List.map_snd_zip (by simp)]
 refine⟨by have:=h.map (·.2);rwa [e] at this,λp hp=>?_⟩;have hp:=h.mem_iff.mp hp;clear h e
 induction vs with
 |nil=>cases hp
 |cons v r ih=>
  rw[aal,WK] at hp;rcases hp with hp|hp
  ·subst hp;rfl
  ·exact ih hp
theorem Gf {vs:List WB}{P:Fin->WN->Prop}(ho:s.heap.get? a=some (abx "list" vs.toArray n))(hz:vs.length<=1000000)(hk:2<=vs.length->∀(h6:Y8) (Q:Z_->WN->Prop),(∀b o,b≠a->s.heap.get? b=some o->h6.get? b=some o)->Q knd {s with heap:=h6}->WU (W7 prog w) A (keyKind' vs.toArray) Q E {s with heap:=h6})(hC:2<=vs.length->∀h6:Y8,(∀b o,b≠a->s.heap.get? b=some o->h6.get? b=some o)->lZ (W7 prog w) A E {s with heap:=h6} O key knd D)(hD:∀v∈vs,D (v,v))(h:∀out:List WB,out.Perm vs->out.Pairwise (λx y=>O.kle (key (x,x)) (key (y,y)))->P (.done (.ret .none)) {s with heap:=sortedHeap s.heap a vs out.toArray}) :
  WU (W7 prog w) A (Builtin.«list.sort» ⟨[.ref a],[]⟩) P E s:=by
 have ze:vs.length<=WE:=by rw[Yx];lia
 have la:a<s.heap.objs.size:=WO ho;rw[list_sort_plain];refine Wq (listItems_at ho rfl (Wq (listUpdate_at ho rfl ?_ (hsz:=by rw[Wy];exact ze))));obtain⟨e1,o1⟩:∃e1,(s.heap.update a (ZR λ_=>#[])).get? a=some (abx "list" #[] e1):=⟨_,get?_update_seq ho (λ_=>#[])⟩;refine Wq (seqEpoch_at o1 rfl (Wq (wpAny_newTuple (Wq (wpAny_newList (X4 ?_))) (by simpa using ze))));have kp:∀b o,b≠a->s.heap.get? b=some o->(((s.heap.update a (ZR λ_=>#[])).push (abx "tuple" vs.toArray 0)).push (abx "list" #[] 0)).get? b=some o:=λb o hb e=>
  Ws _ (Ws _ ((Heap.get?_update_ne _ _ _ _ hb).trans e))
 have o6:(((s.heap.update a (ZR λ_=>#[])).push (abx "tuple" vs.toArray 0)).push (abx "list" #[] 0)).get? a=some (abx "list" #[] e1):=Ws _ (Ws _ o1);change WU (W7 prog w) A _ P E {s with heap:=((s.heap.update a (ZR λ_=>#[])).push (abx "tuple" vs.toArray 0)).push (abx "list" #[] 0)};dsimp only;have fin:∀aU:W2,aaa aU=none->(Xg aU).toList.Perm (pairsOf vs).toList->i8 key (Xg aU).toList->WU (W7 prog w) A (do
   let touched:=(←seqEpoch a) != e1
   Builtin.List.listUpdate (.ref a) λ_=>(Xg aU).map (·.2)
   if let some e:=aaa aU then rule "list.sort.comparison-raised";throw e
   if touched then rule "list.sort.modified";raiseError "ValueError" "list modified during sort"
   ret .none) P E {s with heap:=((s.heap.update a (ZR λ_=>#[])).push (abx "tuple" vs.toArray 0)).push (abx "list" #[] 0)}:=by
  intro aU f1 f2 f3;rw[pairsOf_toList] at f2;obtain⟨m1,m2⟩:=vf f2;refine Wq (seqEpoch_at o6 rfl (Wq (listUpdate_at o6 rfl ?_ (hsz2:=by
   rw[Array.size_map,←Wx,f2.length_eq,List.length_zip,Nat.min_self];lia))))
  rw[f1];simp only[bne_self_eq_false,W9,if_false];refine Wt ?_;have e:(Xg aU).map (·.2)=((Xg aU).toList.map (·.2)).toArray:=by apply Array.ext';simp
  rw[e];refine h _ m1 (YA.mpr (Zl (λ{x y} hx hy r=>?_) f3));rw[←m2 x hx,←m2 y hy];exact r
 by_cases h2:vs.length<2
 ·rw[hV (by rw[Wy];exact h2),hV (by rw[Wy];exact h2)];refine Wq (Wt ?_);rw[StateT.run_pure];refine Wq (Wt ?_);refine fin (SortSt.mk' general' (vs.toArray.zip vs.toArray) #[] 7 none) rfl (X3 _) ?_;change i8 key (pairsOf vs).toList;rw[pairsOf_toList]
  match vs,h2 with
  | [],_=>exact List.Pairwise.nil
  | [v],_=>exact XB _ _
  |_::_::_,h2=>exact absurd h2 (by simp)
 ·rw[hU (by rw[Wy];exact h2),hU (by rw[Wy];exact h2)];refine Wq (hk (by lia) _ _ kp ?_);refine Wq (XQ (yn (hC (by lia) _ kp) (a0:=pairsOf vs) (λp hp=>?_) (st:=SortSt.mk' knd (vs.toArray.zip vs.toArray) #[] 7 none) rfl rfl rfl rfl
   (Q:=λ_ aU=>aaa aU=none/\(Xg aU).toList.Perm (pairsOf vs).toList/\i8 key (Xg aU).toList) λaU a1 a2 a3=>⟨a1,a2,a3⟩) ?_ λ_ _ e=>e)
  ·rw[pairsOf_toList] at hp;obtain⟨m1,m2⟩:=vf (X3 (vs.zip vs));rw[m2 p hp];exact hD _ (m1.mem_iff.mp (YV hp))
  ·rintro⟨⟨⟩,aU⟩ s' ⟨rfl,f1,f2,f3⟩;exact fin aU f1 f2 f3
end
end Hc.Ts
namespace Hc.Ts
open PySem.W
noncomputable def fz:List Int->List Int->Bool
 | [],[]=>false
 | [],_::_=>true
 |_::_,[]=>false
 |x::xs,y::ys=>if x=y then fz xs ys else decide (x<y)
theorem kF:∀a,fz a a=false
 | []=>rfl
 |x::xs=>by unfold fz;rw[hV rfl];exact kF xs
theorem mx:∀a b c,fz a b=true->fz b c=true->fz a c=true
 | [],[],_,h,_=>by cases h
 | [],_::_,[],_,h=>by cases h
 | [],_::_,_::_,_,_=>rfl
 |_::_,[],_,h,_=>by cases h
 |_::_,_::_,[],_,h=>by cases h
 |x::xs,y::ys,z::zs,h1,h2=>by
  unfold fz at h1 h2 ⊢;by_cases e1:x=y
  ·subst e1;rw[hV rfl] at h1;by_cases e2:x=z
   ·subst e2;rw[hV rfl] at h2 ⊢;exact mx xs ys zs h1 h2
   ·rw[hU e2] at h2 ⊢;exact h2
  ·rw[hU e1] at h1;have h1:=of_decide_eq_true h1;by_cases e2:y=z
   ·subst e2;rw[hU e1];exact hG h1
   ·rw[hU e2] at h2;have h2:=of_decide_eq_true h2;rw[hU (by lia)];exact hG (by lia)
theorem sR:∀a b c,fz a c=true->fz a b=true\/fz b c=true
 | [],[],_::_,_=>.inr rfl
 | [],_::_,_::_,_=>.inl rfl
 | [],_,[],h=>by cases h
 |_::_,_,[],h=>by cases h
 |_::_,[],_::_,_=>.inr rfl
 |x::xs,y::ys,z::zs,h=>by
  unfold fz at h ⊢;by_cases e:x=z
  ·subst e;rw[hV rfl] at h;by_cases e2:x=y
   ·subst e2;rw[hV rfl,hV rfl];exact sR xs ys zs h
   ·rw[hU e2,hU (λq=>e2 q.symm),decide_eq_true_eq,decide_eq_true_eq];lia
  ·rw[hU e] at h;have h:=of_decide_eq_true h;by_cases e2:x=y
   ·subst e2;exact .inr (by rw[hU e];exact hG h)
   ·by_cases e3:y=z
    ·subst e3;exact .inl (by rw[hU e];exact hG h)
    ·rw[hU e2,hU e3,decide_eq_true_eq,decide_eq_true_eq];lia
theorem iN:∀a b,fz a b=false->fz b a=false->a=b
 | [],[],_,_=>rfl
 | [],_::_,h,_=>by cases h
 |_::_,[],_,h=>by cases h
 |x::xs,y::ys,h1,h2=>by
  unfold fz at h1 h2;by_cases e:x=y
  ·subst e;rw[hV rfl] at h1 h2;rw[iN xs ys h1 h2]
  ·rw[hU e] at h1;rw[hU (λq=>e q.symm)] at h2;have h1:=of_decide_eq_false h1;have h2:=of_decide_eq_false h2;lia
noncomputable def IA:abW:=⟨List Int,fz,kF,mx,sR,iN⟩
noncomputable def wu (h:Y8)(v:WB):List Int:=match v with
 | .ref a=>match h.get? a with
  |some o=>match o.data with
   | .seq its _=>its.toList.map numOf
   |_=>[]
  |none=>[]
 |_=>[]
def yo (h:Y8)(v:WB):Prop:=∃a its ns,v=.ref a/\h.IsTuple a its/\YJ its.toList ns/\ns≠[]
theorem yp:∀{vs:List WB} {ns:List Int},YJ vs ns->vs.map numOf=ns
 |_,_,.nil=>rfl
 |_,_,.cons n t r=>by rw[WQ,yp r];rfl
theorem nB {its:Array WB}(t:h.IsTuple a its)(i:YJ its.toList ns):wu h (.ref a)=ns:=by
 obtain⟨o,e,_,n,d⟩:=t;unfold wu;dsimp only;rw[e];dsimp only;rw[d];exact yp i
section
variable {A:Xh}{b fin:Bool}{Q:Bool->WN->Prop}
theorem yq:∀{xs ys:List WB} {ns ms:List Int} {i:Nat},YJ xs ns->YJ ys ms->fin=decide (ns.length<ms.length)->Q (fz ns ms) s->KatLex prog w A b fin Q (xs.zip ys) i s
 |_,_,_,_,i,.nil,.nil,hf,h=>by subst hf;exact kat_nil h
 |_,_,_,_,i,.nil,.cons m t r,hf,h=>by subst hf;exact kat_nil (by rw[show decide (([]:List Int).length<(m::_).length)=true from hG (by simp)];exact h)
 |_,_,_,_,i,.cons n t r,.nil,hf,h=>by subst hf;exact kat_nil (by rw[show decide ((n::_).length<([]:List Int).length)=false from hJ (by simp)];exact h)
 |_,_,_,_,i,.cons n t r,.cons m u q,hf,h=>by
  refine kat_cons (wpAny_eqBool_int ?_);unfold fz at h;by_cases e:n=m
  ·subst e;rw[hV rfl] at h;rw[beq_self_eq_true];refine kat_yes (yq r q ?_ h);rw[hf];simp
  ·rw[hU e] at h;rw[show (n==m)=false from beq_eq_false_iff_ne.mpr e];refine kat_no ?_;cases hb:(b&&i==0) with
   |true=>exact oneLt_int h
   |false=>exact kat_one _ _ (lt_int h)
theorem IB {hp:Y8}(keep:∀v,yo hp v->yo s.heap v/\wu s.heap v=wu hp v):lZ (W7 prog w) A E s IA (λx=>wu hp x.1) (tuples' true) (λx=>yo hp x.1) where
 lt:=λx y st Q dx dy kd q=>by
  obtain⟨k1,k2⟩:=keep _ dx;obtain⟨k3,k4⟩:=keep _ dy;obtain⟨a,xs,ns,e1,t1,i1,_⟩:=k1;obtain⟨c,ys,ms,e2,t2,i2,_⟩:=k3;rw[←k2,←k4,e1,e2,nB t1 i1,nB t2 i2] at q;rw[lt'_eq];refine WM (abJ ?_);rw[kd,e1,e2];obtain⟨o1,g1,_,n1,d1⟩:=t1;obtain⟨o2,g2,_,n2,d2⟩:=t2;refine WM (wpS_lift (Zs (kat_lt g1 d1 g2 d2 (yq i1 i2 ?_ ⟨rfl,?_⟩))))
  ·rw[←i1.length,←i2.length,Wx,Wx]
  ·exact WV q
end
end Hc.Ts
namespace Hc.Dw
open PySem.W PySem.Calls
section
variable {A:Xh}{d r I:WT}
theorem Ml (hh:A.handled=none)(G6:d≠I):Walks prog w A I [I,d] [I] ds.size (λi v=>∃e,ds[i]? = some e/\v=e.key) (λi h=>h.IsKeyIter I d i ds.size ep/\oH h d ds ep) where
 sub:=λb hb=>by simp at hb;simp[hb]
 frame:=λ_ _ _ st hk=>⟨st.1.at λo e=>hk I (by simp) o e,st.2.at λo e=>hk d (by simp) o e⟩
 item:=λi s Q E hi st hQ=>OS st.1 st.2 hi λh' t' sb=>hQ _ h' s.toks ⟨_,getElem?_pos ds i hi,rfl⟩ ⟨t',st.2.at λo e=>sb.extBut _ _ G6 e⟩ λb o hb e=>sb.extBut b o (λh=>hb (by simp[h])) e
 done:=λs Q E st hQ=>OT hh st.1 st.2 (WI _) λh' eb=>hQ h' s.toks λb o hb e=>eb b o (λh=>hb (by simp[h])) e
 self:=λ_ _ _ _ st hQ=>wpAny_pyIter_keyiter st.1 hQ
theorem OX (lo:(d==YN)=false):KdlSrc prog w "dict" d d ds.size (λi v=>∃e,ds[i]? = some e/\v=e.key) (λh=>oH h d ds ep) where
 type:=λ_ hm=>hm.ty
 there:=λ_ hm=>⟨hm.lt,hm.lt⟩
 keep:=λ_ _ hm hk=>hm.at λo e=>hk d (.inl rfl) o e
 notList:=by decide
 notTuple:=by decide
 hint:=λ_ _ _ _ hm hq=>kdl_hint_dict hm.ty hq
 iter:=λ_ s hh hm=>⟨_,_,(λ_ _ hq=>OR lo hm hq),Ml hh (W6 hm.lt),⟨⟨_,WJ _ rfl,rfl,rfl⟩,hm.at λo e=>Ws _ e⟩⟩
theorem kG {T:String}{P:Nat->WB->Prop}{OK:Y8->Prop}(K:KdlSrc prog w T r d n P OK)(hh:A.handled=none)(hok:OK s.heap)(hn:n<=WE){Q:List WB->WN->Prop}(q:∀h' tk cG,(∀b o,s.heap.get? b=some o->h'.get? b=some o)->ItemsOf P cG n->Q cG.toList {s with heap:=h',toks:=tk}):WU (W7 prog w) A (collect (.ref r)) Q E s:=by
 have lt:=K.there _ hok;unfold collect;refine Wq (wpAny_runValue (ZJ PySem.F.entry_proto_collect ?_));rw[Ze PySem.F.plain_proto_collect _];change WU _ A.in1 (newList [] >>= λl=>again (.builtin "list.__iadd__" ⟨[l,.ref r],[]⟩)) _ _ s;refine Wq (Xk (Wt ⟨plainId_quiet PySem.F.plain_list_iadd _,ZJ PySem.F.entry_list_iadd ?_⟩));rw[Ze PySem.F.plain_list_iadd _];have hS:(s.heap.push {cls:=.type "list",data:=.seq ([]:List WB).toArray}).get? s.heap.objs.size=some {cls:=.type "list",data:=.seq #[] 0}:=WJ _ rfl;change WU _ A.in1 (Builtin.List.listExtendWith (.ref s.heap.objs.size) (.ref r) (.ref s.heap.objs.size)) _ _ _;refine kdl_extend (A:=A) (R:=λx s'=>match x with
  | .ok (.ret v)=>WU (W7 prog w) A (match v with
   | .ref a=>do match (←load a).data with
    | .seq xs _=>pure xs.toList
    |_=>aaG "internal:collect"
   |_=>aaG "internal:collect") Q E s'
  | .ok _=>False
  | .error e=>E e s') (s:={s with heap:=s.heap.push {cls:=.type "list",data:=.seq ([]:List WB).toArray}}) K hh (K.keep _ _ hok λb _ o e=>Ws _ e) _ (Zz lt.1) (Zz lt.2) _ 0 hS (λh' tk cG c' k' KD GO=>?_) hn
 change WU _ A (load s.heap.objs.size >>= _) _ _ _;refine Wq (wpAny_load KD ?_);exact Wt (q h' tk cG (λb o e=>k' b o (W6 (WO e)) (Ws _ e)) GO)
end
end Hc.Dw
namespace Hc.Sy
open PySem.SetTable Hc.Sx
theorem Nl:Slot "set_iterator" "__next__" "set_iterator.__next__":=by
 refine .of (owner:="set_iterator") (n:="__next__") ?_ (by decide+kernel) (by decide+kernel) (by decide+kernel) ?_ ?_
 ·rw[typeLookup_type,builtinLookup_eq_fast];kernel_rfl
 ·first|exact .inl (by decide+kernel)|exact .inr (by decide+kernel)
 ·rw[isSubtype_type];kernel_rfl
theorem T8:entryFor table "set_iterator.__next__"=some Builtin.«set_iterator.__next__»:=entryFor_of_tree (by kernel_rfl)
theorem T9 (a:WB):argsOk "set_iterator.__next__" ⟨[a],[]⟩:=by unfold argsOk;kernel_rfl
theorem T_:Slot "set_iterator" "__iter__" "set_iterator.__iter__":=by
 refine .of (owner:="set_iterator") (n:="__iter__") ?_ (by decide+kernel) (by decide+kernel) (by decide+kernel) ?_ ?_
 ·rw[typeLookup_type,builtinLookup_eq_fast];kernel_rfl
 ·first|exact .inl (by decide+kernel)|exact .inr (by decide+kernel)
 ·rw[isSubtype_type];kernel_rfl
theorem UW:entryFor table "set_iterator.__iter__"=some Builtin.«dict_keyiterator.__iter__»:=entryFor_alias (id':="dict_keyiterator.__iter__") (by kernel_rfl) rfl (by decide+kernel) (by kernel_rfl)
theorem UX (a:WB):argsOk "set_iterator.__iter__" ⟨[a],[]⟩:=by unfold argsOk;kernel_rfl
theorem UY:entryFor table "set.__iter__"=some Builtin.«frozenset.__iter__»:=entryFor_alias (id':="frozenset.__iter__") (by kernel_rfl) rfl (by decide+kernel) (by kernel_rfl)
theorem UZ (a:WB):argsOk "set.__iter__" ⟨[a],[]⟩:=by unfold argsOk;kernel_rfl
def lP (w:Zu)(h:Y8)(a:WT)(es:Array (Int×WB))(ep:Nat)(t:Z4):Prop:=
 ∃o,h.get? a=some o/\o.ExactSet/\o.data=.set es ep t/\t.fits es.size=true/\t.plain=true/\(zg w=true\/t.led=true)/\Oq t.place/\t.place.size=es.size
theorem lP.at {es:Array (Int×WB)}(x:lP w h a es ep t)(e:∀o,h.get? a=some o->h'.get? a=some o):lP w h' a es ep t:=by
 obtain⟨o,q,r⟩:=x;exact⟨o,e o q,r⟩
theorem lP.ty {es:Array (Int×WB)}(x:lP w s.heap a es ep t):s.TypeIs (.ref a) "set":=by
 obtain⟨o,e,c,_⟩:=x;exact⟨o,e,c.1⟩
theorem lP.lt {es:Array (Int×WB)}(x:lP w h a es ep t):a<h.objs.size:=by
 obtain⟨o,e,_⟩:=x;exact WO e
noncomputable def um (w:Zu)(a:WT)(ep:Nat)(es:Array (Int×WB)):Array (Int×WB):=if zg w=true then abY (w.params.setOrder a ep) es else es
noncomputable def eV (w:Zu)(t:Z4):Nat->Nat
 |0=>0
 |i+1=>if zg w=true then 0 else t.place.getD i 0+1
noncomputable def Mm (w:Zu)(a:WT)(n ep:Nat)(t:Z4)(i:Nat):Array WB:=#[.int (eV w t i:Nat) 0,.int i 0,.ref a,.int n 0,.int ep 0]
def Ar (w:Zu)(h:Y8)(it a:WT)(n ep:Nat)(t:Z4)(i:Nat):Prop:=∃o,h.get? it=some o/\o.cls=.type "set_iterator"/\o.data=.fields (Mm w a n ep t i)
theorem Ar.at (x:Ar w h it a n ep t i)(e:∀o,h.get? it=some o->h'.get? it=some o):Ar w h' it a n ep t i:=by
 obtain⟨o,q,r⟩:=x;exact⟨o,e o q,r⟩
theorem fj {A:Xh}{α:Type}{b:Bool}{x y:Sem α}{Q:α->WN->Prop}(h:b=false)(q:WU M A y Q E s):WU M A (if b=true then x else y) Q E s:=by
 rw[h,hU WA];exact q
section
variable {A:Xh}{es:Array (Int×WB)}
theorem OY (x:lP w s.heap a es ep t)(q:Q (.ref s.heap.objs.size) {s with heap:=s.heap.push {cls:=.type "set_iterator",data:=.fields (Mm w a es.size ep t 0)}}):WU (W7 prog w) A (pyIter (.ref a)) Q E s:=by
 have ty:=x.ty;obtain⟨o,e1,e2,e3,e4,e5,e6,e7,e8⟩:=x;refine abU ty PySem.F.slot_set_iter (Xl PySem.F.slot_set_iter ty UY ?_ (UZ _));unfold Builtin.«frozenset.__iter__» Builtin.Frozenset.slot0 slotArgs;simp only[List.isEmpty_nil,ZU,W9,↓reduceIte,bind_assoc,Yi,bne_self_eq_false];unfold Builtin.Frozenset.addrOf Builtin.Frozenset.sizeOf;refine Wq (Wt ?_)
 try dsimp only
 refine Wq (Wt ?_);refine Wq (Wq (abd e1 e3 e4 (Wt ?_)));unfold setDrawn setsByText;refine Wq (Wq (XT e1 e3 e4 ?_));dsimp only;refine Wq (Wq (YF (Wt (Wt ?_))));have nd:(!(w.params.followText "set-order")&&(!t.plain&&decide (es.size>1)))=false:=by rw[e5];simp
 refine fj nd ?_;refine Wq (Wt ?_);unfold setEpoch;refine Wq (Wq (XT e1 e3 e4 (Wt ?_)));refine Wq (Xk (Wt ⟨_,rfl,"set_iterator",_,⟨_,WJ _ rfl,rfl⟩,Nl.lookup,?_⟩));simpa [abm,Mm,eV] using q
theorem wx {Q:Option (WB×Nat)->WN->Prop}(x:lP w s.heap a es ep t)(hi:i<es.size){e:Int×WB}(he:(um w a ep es)[i]? = some e)(q:Q (some (e.2,eV w t (i+1))) s) :
  WU (W7 prog w) A (setNext a (eV w t i) i ep) Q E s:=by
 obtain⟨o,e1,e2,e3,e4,e5,e6,e7,e8⟩:=x;unfold setNext;refine Wq (XT e1 e3 e4 ?_);dsimp only;unfold setsByText;refine Wq (Wq (YF (Wt ?_)));unfold um at he;by_cases b:zg w=true
 ·rw[hV b] at he;rw[hV (show (W7 prog w).w.params.followText "set-order"=true from b),hU (by simp)];unfold setWalk setsByText;refine Wq (Wq (XT e1 e3 e4 ?_));dsimp only;refine Wq (Wq (YF (Wt ?_)));rw[hV (show (W7 prog w).w.params.followText "set-order"=true from b)];refine Wq (YF (Wt (Wt ?_)));have VB:(abY ((W7 prog w).w.params.setOrder a ep) es)[i]? = some e:=he;rw[VB];have z:eV w t i=0:=by
   cases i with
   |zero=>rfl
   |succ i=>show (if zg w=true then 0 else _)=0;rw[hV b]
  have z':eV w t (i+1)=0:=by show (if zg w=true then 0 else _)=0;rw[hV b]
  rw[z'] at q;rw[z];exact q
 ·rw[hU b] at he;rw[hU (show ¬(W7 prog w).w.params.followText "set-order"=true from b)];have led:t.led=true:=e6.resolve_left b;have nd:(!t.plain&&decide (es.size>1))=false:=by rw[e5];rfl
  refine fj nd ?_;refine Wq (aaH (a:=()) (by show (if (!t.led && !es.isEmpty)=true then _ else _)=_;rw[led];rfl) (Wt ?_));have hb:below t.place (eV w t i)=i:=by
   obtain⟨b1,b2,b3⟩:=m7 (j:=eV w t i) e7;rcases aaF (below t.place (eV w t i)) i with z|z|z
   ·exfalso;cases i with
    |zero=>lia
    |succ i=>
     have hs:eV w t (i+1)=t.place.getD i 0+1:=by show (if zg w=true then 0 else _)=_;rw[hU b]
     have g:t.place.getD i 0=t.place[i]'(by lia):=by simp[aaE,show i<t.place.size from by lia]
     have:=b2 i (by lia) (by lia);rw[hs,g] at this;lia
   ·exact z
   ·exfalso;have:=b1 i (by lia) z;cases i with
    |zero=>exact absurd this (Nat.not_lt_zero _)
    |succ i=>
     have hs:eV w t (i+1)=t.place.getD i 0+1:=by show (if zg w=true then 0 else _)=_;rw[hU b]
     have g:t.place.getD i 0=t.place[i]'(by lia):=by simp[aaE,show i<t.place.size from by lia]
     have r:=(show t.place[i]'(by lia)<t.place[i+1]'(by lia) from e7 i (i+1) (by lia) (by lia) (by lia));rw[hs,g] at this;lia
  rw[hb,he,getElem?_pos t.place i (by lia)];have hs:eV w t (i+1)=t.place.getD i 0+1:=by show (if zg w=true then 0 else _)=_;rw[hU b]
  have g:t.place.getD i 0=t.place[i]'(by lia):=by simp[aaE,show i<t.place.size from by lia]
  rw[hs,g] at q;exact q
theorem OZ {Q:Option WB->WN->Prop}(k:Ar w s.heap it a es.size ep t i)(x:lP w s.heap a es ep t)(ne:it≠a)(hi:i<es.size){e:Int×WB}(he:(um w a ep es)[i]? = some e)
  (q:∀h',Ar w h' it a es.size ep t (i+1)->YD it s.heap h'->Q (some e.2) {s with heap:=h'}):WU (W7 prog w) A (aaV (.ref it)) Q E s:=by
 obtain⟨oi,i1,i2,i3⟩:=k;have ty:s.TypeIs (.ref it) "set_iterator":=⟨oi,i1,i2⟩;have x0:=x;obtain⟨o,e1,e2,e3,e4,e5,e6,e7,e8⟩:=x;unfold aaV;refine Wq (Zs (Xo (name:=YE "__next__") ty Nl (Xl Nl ty T8 ?_ (T9 _))));unfold Builtin.«set_iterator.__next__»;refine Wq (Wt ?_);refine Wq (abH i1 i3 ?_);change WU _ _ (setEntries a >>= _) _ _ s;refine Wq (abd e1 e3 e4 ?_);rw[hU (by simp)];change WU _ _ (setNext a (eV w t i:Int).toNat (i:Int).toNat (ep:Int).toNat >>= _) _ _ s;rw[X7,X7,X7];refine Wq (wx x0 hi he ?_);dsimp only;change WU _ _ (setField (.ref it) 0 _ >>= _) _ _ s;refine Wq (Zx i1 i3 (by simp[Mm]) ?_);have UC:=Yh (Obj.mapFields (·.setIfInBounds 0 (abm (eV w t (i+1):Nat)))) i1 (ZK (Yl i3 _));have Tu:=Yl i3 (·.setIfInBounds 0 (abm (eV w t (i+1):Nat)));change WU _ _ (setField (.ref it) 1 _ >>= _) _ _ _;refine Wq (Zx UC Tu (by simp[Mm]) ?_);refine Wt ⟨_,rfl,Wt (q _ ⟨_,Yh _ UC (ZK (Yl Tu _)),(aaI ..).trans ((aaI ..).trans i2),?_⟩ ((XJ ..).trans (XJ ..)))⟩;rw[Yl Tu];simp[Mm,abm]
end
end Hc.Sy
namespace Hc.Sy
open PySem.SetTable Hc.Sx PySem.W
section
variable {A:Xh}{es:Array (Int×WB)}
theorem B0 {α:Type}(next:Nat->Nat):∀(n k:Nat) (left:List α) (out:Array α),left.length=n->(pickOrder.go next n k left out).toList.Perm (out.toList++left)
 |0,k,left,out,h=>by
  have:left=[]:=Yd h;subst this;unfold pickOrder.go;rw[Xj]
 |n+1,k,left,out,h=>by
  have hl:next k % left.length<left.length:=ZV _ (by lia)
  unfold pickOrder.go;rw[Wr hl];dsimp only;refine (B0 next n (k+1) _ _ (by rw[List.length_eraseIdx_of_lt hl];lia)).trans ?_;rw[YT,W4];refine XY _ ?_;rw[List.eraseIdx_eq_take_drop_succ,List.singleton_append];refine List.perm_middle.symm.trans ?_;rw[←XS hl,XZ]
theorem vg {α:Type}(next:Nat->Nat)(xs:Array α):(abY next xs).toList.Perm xs.toList:=by
 have:=B0 next xs.size 0 xs.toList #[] (by simp)
 simpa [abY] using this
theorem yr:(um w a ep es).toList.Perm es.toList:=by
 unfold um;split
 ·exact vg _ _
 ·exact X3 _
theorem yt:(um w a ep es).size=es.size:=by
 have:=(yr (w:=w) (a:=a) (ep:=ep) (es:=es)).length_eq;simpa using this
theorem wy {Q:Option (WB×Nat)->WN->Prop}(x:lP w s.heap a es ep t)(q:Q none s):WU (W7 prog w) A (setNext a (eV w t es.size) es.size ep) Q E s:=by
 obtain⟨o,e1,e2,e3,e4,e5,e6,e7,e8⟩:=x;unfold setNext;refine Wq (XT e1 e3 e4 ?_);dsimp only;unfold setsByText;refine Wq (Wq (YF (Wt ?_)));by_cases b:zg w=true
 ·rw[hV (show (W7 prog w).w.params.followText "set-order"=true from b),hU (by simp)];unfold setWalk setsByText;refine Wq (Wq (XT e1 e3 e4 ?_));dsimp only;refine Wq (Wq (YF (Wt ?_)));rw[hV (show (W7 prog w).w.params.followText "set-order"=true from b)];refine Wq (YF (Wt (Wt ?_)));have hz:(abY ((W7 prog w).w.params.setOrder a ep) es)[es.size]? = none:=by
   have:=(vg ((W7 prog w).w.params.setOrder a ep) es).length_eq;rw[aaA (by simpa using Nat.le_of_eq this)]
  rw[hz];exact q
 ·rw[hU (show ¬(W7 prog w).w.params.followText "set-order"=true from b)];have led:t.led=true:=e6.resolve_left b;have nd:(!t.plain&&decide (es.size>1))=false:=by rw[e5];rfl
  refine fj nd ?_;refine Wq (aaH (a:=()) (by show (if (!t.led && !es.isEmpty)=true then _ else _)=_;rw[led];rfl) (Wt ?_));have hb:es.size<=below t.place (eV w t es.size):=by
   obtain⟨b1,b2,b3⟩:=m7 (j:=eV w t es.size) e7;rcases ZH (below t.place (eV w t es.size)) es.size with z|z
   ·exfalso;obtain⟨m,hm⟩:∃m,es.size=m+1:=⟨es.size-1,by lia⟩;have hs:eV w t es.size=t.place.getD m 0+1:=by rw[hm];show (if zg w=true then 0 else _)=_;rw[hU b]
    have g:t.place.getD m 0=t.place[m]'(by lia):=by simp[aaE,show m<t.place.size from by lia]
    have:=b2 m (by lia) (by lia);rw[hs,g] at this;lia
   ·exact z
  rw[aaA hb];exact q
theorem O0 {Q:Option WB->WN->Prop}(hh:A.handled=none)(k:Ar w s.heap it a es.size ep t es.size)(x:lP w s.heap a es ep t)
  (q:∀h',Heap.ExtBut it s.heap h'->Q none {s with heap:=h'}):WU (W7 prog w) A (aaV (.ref it)) Q E s:=by
 obtain⟨oi,i1,i2,i3⟩:=k;have ty:s.TypeIs (.ref it) "set_iterator":=⟨oi,i1,i2⟩;have x0:=x;obtain⟨o,e1,e2,e3,e4,e5,e6,e7,e8⟩:=x;unfold aaV;refine Wq (Zs (Xo (name:=YE "__next__") ty Nl (Xl Nl ty T8 ?_ (T9 _))));unfold Builtin.«set_iterator.__next__»;refine Wq (Wt ?_);refine Wq (abH i1 i3 ?_);change WU _ _ (setEntries a >>= _) _ _ s;refine Wq (abd e1 e3 e4 ?_);rw[hU (by simp)];change WU _ _ (setNext a (eV w t es.size:Int).toNat (es.size:Int).toNat (ep:Int).toNat >>= _) _ _ s;rw[X7,X7,X7];refine Wq (wy x0 ?_);dsimp only;change WU _ _ (setField (.ref it) 2 .none >>= _) _ _ s;refine Wq (Zx i1 i3 (by simp[Mm]) ?_);change WU _ _ (newExc (.type "StopIteration") [] >>= _) _ _ _;refine Wq ?_;simp only[newExc,newTuple];refine Wq (Xk (hd:=by size_fits) ?_);refine Wq (m:=Z2 _ _) (aaH (a:=Value.none) (by first|rfl|(simp only[Z2];rfl)) (Xk (hd:=by size_fits) ?_));simp only[raiseNew];refine Wq (wpAny_handled ?_);rw[show A.in1.handled=none from hh];refine Wq (Wt (wpAny_throw ?_));refine Wq (Z6 (b:=true) (T:="StopIteration") ⟨_,WJ _ rfl,rfl⟩ isSubtype_stop ?_);exact Wt (q _ (((XJ ..).extBut.push _).push _))
theorem Mn (hh:A.handled=none)(G6:a≠it):Walks prog w A it [it,a] [it] es.size (λi v=>∃e,(um w a ep es)[i]? = some e/\v=e.2) (λi h=>Ar w h it a es.size ep t i/\lP w h a es ep t) where
 sub:=λb hb=>by simp at hb;simp[hb]
 frame:=λ_ _ _ st hk=>⟨st.1.at λo e=>hk it (by simp) o e,st.2.at λo e=>hk a (by simp) o e⟩
 item:=λi s Q E hi st hQ=>by
  have xk:i<(um w a ep es).size:=by rw[yt];exact hi
  exact OZ st.1 st.2 (Ne.symm G6) hi (getElem?_pos _ i xk) λh' t' sb=>hQ _ h' s.toks ⟨_,getElem?_pos _ i xk,rfl⟩ ⟨t',st.2.at λo e=>sb.extBut _ _ G6 e⟩ λb o hb e=>sb.extBut b o (λh=>hb (by simp[h])) e
 done:=λs Q E st hQ=>O0 hh st.1 st.2 λh' eb=>hQ h' s.toks λb o hb e=>eb b o (λh=>hb (by simp[h])) e
 self:=λi s Q E st hQ=>by
  obtain⟨oi,i1,i2,i3⟩:=st.1;have ty:s.TypeIs (.ref it) "set_iterator":=⟨oi,i1,i2⟩;refine abU ty T_ (Xl T_ ty UW ?_ (UX _));change WU _ _ (ret (.ref it)) _ _ s;exact Wt ⟨_,rfl,"set_iterator",_,ty,Nl.lookup,hQ⟩
theorem O1 {Q:Bool->WN->Prop}(hT:s.TypeIs (.ref a) "set")(h:Q false s):WU (W7 prog w) A (abe (.ref a)) Q E s:=by
 unfold abe;refine Wq (ZE hT PySem.F.slot_set_len.lookup ?_);generalize hid:("set.__len__":String)=id0
 wp_delta
 rw[show splitId id0=some ("set","__len__") from by subst hid;decide+kernel];subst hid;refine Wq (Z6 (T:="set") (b:=true) hT (by rw[isSubtype_type];kernel_rfl) ?_);refine wpAny_ite_split (λvJ=>absurd vJ (by decide)) (λ_=>?_);refine wpAny_ite_split (λ_=>?_) (λvJ=>absurd (by decide+kernel) vJ);refine Wq (abv hT ?_);exact Wt h
theorem RZ:KdlSrc prog w "set" a a es.size (λi v=>∃e,(um w a ep es)[i]? = some e/\v=e.2) (λh=>lP w h a es ep t) where
 type:=λ_ hm=>hm.ty
 there:=λ_ hm=>⟨hm.lt,hm.lt⟩
 keep:=λ_ _ hm hk=>hm.at λo e=>hk a (.inl rfl) o e
 notList:=by decide
 notTuple:=by decide
 hint:=λ_ _ _ _ hm hq=>O1 hm.ty hq
 iter:=λ_ s hh hm=>⟨_,_,(λ_ _ hq=>OY hm hq),Mn hh (W6 hm.lt),⟨⟨_,WJ _ rfl,rfl,rfl⟩,hm.at λo e=>Ws _ e⟩⟩
end
end Hc.Sy
namespace Hc.Sy
open PySem.SetTable Hc.Sx PySem.W
noncomputable abbrev tI (prog:XF)(w:Zu):aar prog w (List Int):=tupleKind (abD prog w)
section
variable {A:Xh}
theorem sS {α β:Type}(f:α->β->Sem (ForInStep β))(b:β)(xs:Array α)(h:∀x∈xs.toList,f x b=pure (.yield b)):forIn xs b f=pure b:=by
 rw[←aby];generalize xs.toList=l at h
 induction l with
 |nil=>rfl
 |cons x l ih=>
  rw[aap,h x Wz,pure_bind];exact ih λy hy=>h y (WD _ hy)
theorem Kj {its:Array WB}{o:Obj}{Q:Option (Array WB)->WN->Prop}(e1:s.heap.get? a=some o)(e3:o.data=.seq its n)(q:Q (some its) s):WU (W7 prog w) A (seqItems? (.ref a)) Q E s:=by
 unfold seqItems?;refine Wq (wpAny_load e1 ?_);rw[e3];exact Wt q
theorem sT {ks:List Int}{vs:List WB}(h:ItemsAre (abD prog w) ks vs):∀v∈vs,∃n t,v=.int n t:=by
 induction h with
 |nil=>intro v hv;cases hv
 | @cons k v' ks vs h1 _ ih=>
  intro v hv;rcases WK.mp hv with rfl|hv
  ·obtain⟨t,rfl⟩:=Value.isInt_shape h1;exact⟨k,t,rfl⟩
  ·exact ih v hv
theorem U0:o_ (tI prog w) where
 cls:=λ{A E s k a Q} hk q=>by
  obtain⟨o,its,n,e1,e2,e3,e4⟩:=hk;have ty:s.TypeIs (.ref a) "tuple":=⟨o,e1,e2⟩;unfold ofAClassStatement;refine Wq (abv ty ?_);change WU _ _ (pure true >>= _) _ _ s;refine Wq (Wt ?_);change WU _ _ (seqItems? (.ref a) >>= _) _ _ s;refine Wq (Kj e1 e3 ?_);dsimp only;rw[sS]
  ·exact Wq (Wt (Wt q))
  ·intro x hx;obtain⟨n,t,rfl⟩:=sT e4 x hx;rfl
 byv:=λ{A E s k a Q} hk q=>by
  obtain⟨o,its,n,e1,e2,e3,e4⟩:=hk;have ty:s.TypeIs (.ref a) "tuple":=⟨o,e1,e2⟩;unfold hashByValue;refine Wq (ZE ty PySem.F.slot_tuple_hash.lookup ?_);change WU _ _ (seqItems? (.ref a) >>= _) _ _ s;refine Wq (Kj e1 e3 ?_);dsimp only[Option.getD];rw[sS]
  ·exact Wq (Wt (Wt q))
  ·intro x hx;obtain⟨n,t,rfl⟩:=sT e4 x hx;rfl
 kept:=λ{h h' k a d o es ep t} hk ho hd hs=>by
  obtain⟨o1,its,n,e1,e2,e3,e4⟩:=hk;have ne:a≠d:=λz=>by
   subst z;rw[e1] at ho;cases ho;rw[e3] at hd;cases hd
  exact⟨o1,its,n,hs.extBut _ _ ne e1,e2,e3,e4⟩
end
end Hc.Sy
namespace L2
open Hc.Dw Hc.Ts
noncomputable def O2:V->Int
 | .int i=>i
 |_=>0
noncomputable def cA (H:Hp)(b:WT):List Int:=match H b with
 |some (.tup xs)=>xs.map O2
 |_=>[]
theorem yu (ns:List Int):(ns.map V.int).map O2=ns:=by
 induction ns with
 |nil=>rfl
 |cons n r ih=>rw[WQ,WQ,ih];rfl
def C8 (K:Wv)(H:Hp)(p:WT)(bs:List WT):Prop:=f7 K H p (bs.map V.ref)\/gK K H p (bs.map V.ref)\/∃ep es,H p=some (DN p ep es)/\es.map (·.2.1)=bs
theorem gr:∀{bs:List WT} {its:List WB},a9 (bs.map V.ref) its->its=bs.map Value.ref
 | [],_,.nil=>rfl
 |b::bs,_,.cons r t=>by rw[WQ,gr t];cases r;rfl
theorem vh:∀(bs:List WT),a9 (bs.map V.ref) (bs.map Value.ref)
 | []=>.nil
 |b::bs=>.cons rfl (vh bs)
theorem vi {bs:List WT}{out:List WB}(h:out.Perm (bs.map Value.ref)):∃iB:List WT,out=iB.map Value.ref/\iB.Perm bs:=by
 let g:WB->WT:=λv=>match v with
  | .ref a=>a
  |_=>0
 refine⟨out.map g,?_,?_⟩
 ·rw[Ys]
  conv=>lhs;rw[←List.map_id out]
  apply Zt;intro v hv;obtain⟨b,_,rfl⟩:=Xp.mp (h.mem_iff.mp hv);rfl
 ·have:=h.map g;rw[Ys] at this;have e:bs.map (g∘Value.ref)=bs:=by
   conv=>rhs;rw[←List.map_id bs]
   apply Zt;intro b _;rfl
  rw[e] at this;exact this
theorem IC (I:aN X pins σ H s)(h:H b=some (.tup (ns.map V.int)))(n:ns≠[]):yo s.heap (.ref b)/\wu s.heap (.ref b)=cA H b:=by
 obtain⟨_,its,rv,it,_⟩:=I.hok b _ h;have ia:=dW rv;refine⟨⟨b,its.toArray,ns,rfl,it,by simpa using ia,n⟩,?_⟩;rw[nB it (by simpa using ia)];unfold cA;rw[h];exact (yu ns).symm
theorem vj {v:WB}(t:yo h v)(k:∀b its,h.IsTuple b its->h'.IsTuple b its):yo h' v/\wu h' v=wu h v:=by
 obtain⟨a,its,ns,rfl,q,i,n⟩:=t;refine⟨⟨a,its,ns,rfl,k a its q,i,n⟩,?_⟩;rw[nB q i,nB (k a its q) i]
theorem B1 {h:Y8}:∀{vs:List WB},(∀v∈vs,yo h v)->∃fs,PySem.W.KatTups h vs fs/\fs.length=vs.length/\∀f∈fs,∃n t,f=.int n t
 | [],_=>⟨[],.nil,rfl,λf hf=>by cases hf⟩
 |v::vs,hv=>by
  obtain⟨fs,k1,k2,k3⟩:=B1 (vs:=vs) λu hu=>hv u (WD _ hu);obtain⟨a,its,ns,rfl,⟨o,e,c,n,d⟩,i,ne⟩:=hv v Wz;have:∃m t r,its.toList=.int m t::r:=by
   generalize its.toList=l at i;cases i with
   |nil=>exact absurd rfl ne
   |cons m t r=>exact⟨m,t,_,rfl⟩
  obtain⟨m,t,r,el⟩:=this;refine⟨.int m t::fs,.cons e c d (by rw[←WS,el];rfl) k1,by rw[Ww,Ww,k2],λf hf=>?_⟩;rcases WK.mp hf with rfl|hf
  ·exact⟨m,t,rfl⟩
  ·exact k3 f hf
noncomputable def O3:WB->WT
 | .ref a=>a
 |_=>0
theorem sU {O:abW}{bs:List WT}{Q:VK}(kf:WT->O.α)(knd:Z_)(I:aN X pins σ H s)(hz:bs.length<=1000000)(hu:X.A.units+64<Yy)(kk:∀(A:Xh) (E:WB->WN->Prop) (jw:List WT) (s6:WN) (Q6:Z_->WN->Prop),jw.Perm bs->2<=jw.length->(∀b o,s.heap.get? b=some o->s6.heap.get? b=some o)->Q6 knd s6->WU (W7 X.prog X.w) A (keyKind' (jw.map Value.ref).toArray) Q6 E s6)(kc:2<=bs.length->∀(A:Xh) (E:WB->WN->Prop) (s6:WN),A.units<Yy->(∀b o,s.heap.get? b=some o->s6.heap.get? b=some o)->lZ (W7 X.prog X.w) A E s6 O (λx=>kf (O3 x.1)) knd (λx=>∃b∈bs,x.1=.ref b))(Qy:∀(Q:List WB->WN->Prop) (E:WB->WN->Prop),(∀h1 tk (jw:List WT),jw.Perm bs->(∀b o,s.heap.get? b=some o->h1.get? b=some o)->Q (jw.map Value.ref) {s with heap:=h1,toks:=tk})->WU (W7 X.prog X.w) X.A.in1 (collect (.ref p)) Q E s)(q:∀(l:WT) (iB:List WT),H l=none->iB.Perm bs->iB.Pairwise (λx y=>O.blt (kf y) (kf x)=false)->Q (.ref l) (cY H l (.lst (iB.map V.ref)))) :
  WU (W7 X.prog X.w) X.A (call (.builtin "sorted") [.ref p]) (EP X pins σ Q) X.xe s:=by
 refine abF kind_sorted plain_sorted entry_sorted (args_sorted1 _) ?_;unfold Builtin.«sorted»;refine Wq (m:=checkCount "sorted" 1 1 _) (Wt ?_);refine Wq (Qy _ _ λh1 tk jw Ck k1=>?_);have hz:jw.length<=1000000:=by rw[Ck.length_eq];exact hz
 have ze:jw.length<=WE:=by rw[Yx];lia
 have I1:aN X pins σ H {s with heap:=h1,toks:=tk}:=I.kept (t':=tk) k1;refine Wq (wpAny_newList ?_ (by rw[WC];exact ze));have MX:(h1.push {cls:=.type "list",data:=.seq (jw.map Value.ref).toArray}).get? h1.objs.size=some (abx "list" (jw.map Value.ref).toArray 0):=WJ _ rfl;have kt:∀(h6:Y8),(∀b o,b≠h1.objs.size->(h1.push {cls:=.type "list",data:=.seq (jw.map Value.ref).toArray}).get? b=some o->h6.get? b=some o)->∀b o,s.heap.get? b=some o->h6.get? b=some o:=λh6 k6 b o e=>
  k6 b o (W6 (WO (k1 b o e))) (Ws _ (k1 b o e))
 refine Wq (X4 (Xl slot_list_sort ⟨_,MX,rfl⟩ entry_list_sort (Gf (s:={s with heap:=h1.push {cls:=.type "list",data:=.seq (jw.map Value.ref).toArray},toks:=tk}) (O:=O) (key:=λx=>kf (O3 x.1)) (knd:=knd) (D:=λx=>∃b∈bs,x.1=.ref b) MX (by rw[WC];exact hz)
  (λh2 h6 Q6 k6 q6=>kk _ _ jw _ _ Ck (by rw[WC] at h2;exact h2) (kt h6 k6) q6) (λh2 h6 k6=>kc (by rw[WC] at h2;rw[←Ck.length_eq];exact h2) _ _ _ (by show X.A.units+1+1<Yy;lia) (kt h6 k6)) (λv hv=>by
   obtain⟨b,hb,rfl⟩:=Xp.mp hv;exact⟨b,Ck.mem_iff.mp hb,rfl⟩) λout hp hw=>⟨_,rfl,?_⟩) (args_list_sort _)))
 obtain⟨iB,e,Ci⟩:=vi hp;subst e;obtain⟨ee,he⟩:=sortedHeap_at (out:=(iB.map Value.ref).toArray) MX;have keep:∀b o,h1.get? b=some o->(sortedHeap (h1.push {cls:=.type "list",data:=.seq (jw.map Value.ref).toArray}) h1.objs.size (jw.map Value.ref) (iB.map Value.ref).toArray).get? b=some o:=λb o e=>by
  have hb:=WO e;rw[sortedHeap_old (W6 hb) (by rw[X2];exact YR hb)];exact Ws _ e
 have MW:(iB.map V.ref).length<=WE:=by rw[WC,Ci.length_eq];exact ze
 refine Wt ⟨_,rfl,.ref h1.objs.size,_,I1.laid (t':=tk) keep (WI _) (show dU X.prog X.w _ _ _ (.lst _) from ⟨MW,iB.map Value.ref,ee,vh iB,by simpa using he⟩),rfl,q _ iB (I1.hok.fresh (WI _)) (Ci.trans Ck) ?_⟩;exact YA.mp hw
theorem pQ {bs:List WT}{Q:VK}(I:aN X pins σ H s)(hz:bs.length<=1000000)(hu:X.A.units+64<Yy)(tu:∀b∈bs,∃ns:List Int,H b=some (.tup (ns.map V.int))/\ns≠[])(Qy:∀(Q:List WB->WN->Prop) (E:WB->WN->Prop),(∀h1 tk (jw:List WT),jw.Perm bs->(∀b o,s.heap.get? b=some o->h1.get? b=some o)->Q (jw.map Value.ref) {s with heap:=h1,toks:=tk})->WU (W7 X.prog X.w) X.A.in1 (collect (.ref p)) Q E s)(q:∀(l:WT) (iB:List WT),H l=none->iB.Perm bs->iB.Pairwise (λx y=>fz (cA H y) (cA H x)=false)->Q (.ref l) (cY H l (.lst (iB.map V.ref)))) :
  WU (W7 X.prog X.w) X.A (call (.builtin "sorted") [.ref p]) (EP X pins σ Q) X.xe s:=by
 have tI:∀b∈bs,yo s.heap (.ref b)/\wu s.heap (.ref b)=cA H b:=λb hb=>by
  obtain⟨ns,e,ne⟩:=tu b hb;exact IC I e ne
 have kt:∀(h6:Y8),(∀b o,s.heap.get? b=some o->h6.get? b=some o)->∀b its,s.heap.IsTuple b its->h6.IsTuple b its:=λh6 k6 b its ⟨o,e,z⟩=>⟨o,k6 b o e,z⟩;refine sU (O:=IA) (cA H) (tuples' true) I hz hu (λA E jw s6 Q6 Ck h2 k6 q6=>?_) (λ_ A E s6 hA k6=>?_) Qy q
 ·obtain⟨fs,f1,f2,f3⟩:=B1 (h:=s6.heap) (vs:=jw.map Value.ref) λv hv=>by
   obtain⟨b,hb,rfl⟩:=Xp.mp hv;exact (vj (tI b (Ck.mem_iff.mp hb)).1 (kt _ k6)).1
  exact PySem.W.kat_kind (T:=.type "int") f1 (by rw[f2,WC];lia) (λv hv=>by
   obtain⟨n,t,rfl⟩:=f3 v hv;exact PySem.W.Looks.of_pure rfl) (by decide) q6
 ·have c:=IB (prog:=X.prog) (w:=X.w) (A:=A) (E:=E) (s:=s6) (hp:=s.heap) λv hv=>vj hv (kt _ k6);refine⟨λx y st Q dx dy kd qq=>?_⟩;obtain⟨b,hb,e1⟩:=dx;obtain⟨d,hd,e2⟩:=dy;refine c.lt x y st Q (by rw[e1];exact (tI b hb).1) (by rw[e2];exact (tI d hd).1) kd ?_;rw[e1,e2,(tI b hb).2,(tI d hd).2];rw[e1,e2] at qq;exact qq
theorem wz (hc:X.calm=true)(hu:X.A.units+64<Yy):eT X (.builtin "sorted") (λxs H Q=>∃(p:WT) (bs:List WT),xs=[.ref p]/\C8 X.K H p bs/\bs.length<=1000000/\(∀b∈bs,∃ns:List Int,H b=some (.tup (ns.map V.int))/\ns≠[])/\
  ∀(l:WT) (iB:List WT),H l=none->iB.Perm bs->iB.Pairwise (λx y=>fz (cA H y) (cA H x)=false)->Q (.ref l) (cY H l (.lst (iB.map V.ref)))):=by
 intro pins s σ H xs us Q I r h;obtain⟨p,bs,rfl,DL,hz,tu,q⟩:=h;obtain⟨u,rfl,rx⟩:=ja r;cases rx;have ze:bs.length<=WE:=by rw[Yx];lia
 have Qy:∀(Q:List WB->WN->Prop) (E:WB->WN->Prop),(∀h1 tk (jw:List WT),jw.Perm bs->(∀b o,s.heap.get? b=some o->h1.get? b=some o)->Q (jw.map Value.ref) {s with heap:=h1,toks:=tk})->WU (W7 X.prog X.w) X.A.in1 (collect (.ref p)) Q E s:=by
  intro Q E hq;rcases DL with hs|hs|⟨ep,es,hs,rfl⟩
  ·obtain⟨its,rv,pl,_⟩:=I.list hs;obtain⟨o,e,c,n,d⟩:=pl.isList;have e2:=gr rv;subst e2;exact ZT p (.inl rfl) e c d (λh1 k1=>by simpa using hq h1 s.toks bs (X3 _) k1) (by rw[Wy,WC];exact ze)
  ·obtain⟨its,rv,pl,_⟩:=I.tuple hs;obtain⟨o,e,c,n,d⟩:=pl;have e2:=gr rv;subst e2;exact ZT p (.inr rfl) e c d (λh1 k1=>by simpa using hq h1 s.toks bs (X3 _) k1) (by rw[Wy,WC];exact ze)
  ·obtain⟨lo,ds,rd,n,at_⟩:=I.rawD hs;refine kG (A:=X.A.in1) (OX lo) (I.ok.hd hc) rd (by rw[n];rw[WC] at ze;exact ze) λh1 tk cG k1 ia=>?_;have e:cG.toList=(es.map (·.2.1)).map Value.ref:=by
    apply Zk;intro i;rw[WS,Ys,Xc];by_cases hi:i<cG.size
    ·rw[getElem?_pos cG i hi];obtain⟨en,e1,e2⟩:=ia.2 i _ (getElem?_pos cG i hi);have xk:i<ds.size:=by rw[←ia.1];exact hi
     rw[getElem?_pos ds i xk] at e1;cases e1;obtain⟨x,m,ek,_⟩:=at_ i xk;rw[m,e2,ek];rfl
    ·rw[getElem?_neg cG i hi,ZN (by rw[←n,←ia.1];lia)];rfl
   rw[e];exact hq h1 tk _ (X3 _) k1
 exact pQ I hz hu tu Qy q
end L2
namespace L2
open Hc.Dw Hc.Ts
noncomputable def au (ns:List Int):U:=.tup (ns.map .int)
noncomputable def Gg:U->Option (List Int)
 | .tup xs=>match je xs with
  |some (n::ns)=>some (n::ns)
  |_=>none
 |_=>none
noncomputable def iO:List U->Option (List (List Int))
 | []=>some []
 |u::us=>match Gg u,iO us with
  |some ns,some c8=>some (ns::c8)
  |_,_=>none
noncomputable def C9 (x:List Int):List (List Int)->List (List Int)
 | []=>[x]
 |y::r=>if fz y x=true then y::C9 x r else x::y::r
noncomputable def vn (l:List (List Int)):List (List Int):=l.foldr C9 []
theorem oJ (x:List Int):∀l,(C9 x l).Perm (x::l)
 | []=>.refl _
 |y::r=>by
  unfold C9;split
  ·exact ((oJ x r).cons y).trans (.swap x y r)
  ·exact .refl _
theorem my:∀l,(vn l).Perm l
 | []=>.refl _
 |x::l=>(oJ x _).trans ((my l).cons x)
def O4 (l:List (List Int)):Prop:=l.Pairwise λx y=>fz y x=false
theorem B2 (x:List Int):∀{l},O4 l->O4 (C9 x l)
 | [],_=>XB _ _
 |y::r,h=>by
  obtain⟨h1,h2⟩:=Xs.mp h;unfold C9;split
  ·rename_i c;refine Xs.mpr ⟨λz hz=>?_,B2 x h2⟩;rcases WK.mp ((oJ x r).mem_iff.mp hz) with rfl|hz
   ·exact KeyOrd.klt_asymm (O:=IA) c
   ·exact h1 z hz
  ·rename_i c;have c:fz y x=false:=by simpa using c
   refine Xs.mpr ⟨λz hz=>?_,h⟩;rcases WK.mp hz with rfl|hz
   ·exact c
   ·exact Xa (O:=IA) (a:=x) (b:=y) (c:=z) c (h1 z hz)
theorem sV:∀l,O4 (vn l)
 | []=>List.Pairwise.nil
 |x::l=>B2 x (sV l)
theorem wA:∀{l m:List (List Int)},l.Perm m->O4 l->O4 m->l=m
 | [],m,p,_,_=>(List.nil_perm.mp p).symm
 |x::l,[],p,_,_=>absurd p.length_eq (by simp)
 |x::l,y::m,p,h1,h2=>by
  obtain⟨a1,a2⟩:=Xs.mp h1;obtain⟨b1,b2⟩:=Xs.mp h2;have e:x=y:=by
   have hx:x∈y::m:=p.mem_iff.mp Wz;have hy:y∈x::l:=p.mem_iff.mpr Wz;rcases WK.mp hx with rfl|hx
   ·rfl
   ·rcases WK.mp hy with rfl|hy
    ·rfl
    ·exact iN x y (b1 x hx) (a1 y hy)
  subst e;rw[wA (p.cons_inv) a2 b2]
theorem ID (h:Gg u=some ns):u=au ns/\ns≠[]:=by
 unfold Gg at h;split at h
 ·split at h
  ·rename_i xs n r e;cases h;rw[jf e];exact⟨rfl,by simp⟩
  ·cases h
 ·cases h
theorem kH:∀{us:List U} {c8:List (List Int)},iO us=some c8->us=c8.map au/\∀ns∈c8,ns≠[]
 | [],_,h=>by cases h;exact⟨rfl,λns hn=>by cases hn⟩
 |u::us,c8,h=>by
  unfold iO at h;split at h
  ·rename_i ns r e1 e2;cases h;obtain⟨e3,n3⟩:=ID e1;obtain⟨e4,n4⟩:=kH e2;refine⟨by rw[WQ,←e3,←e4],λz hz=>?_⟩;rcases WK.mp hz with rfl|hz
   ·exact n3
   ·exact n4 z hz
  ·cases h
theorem Mo (h:Rp K H A (au ns) v):∃b,v=.ref b/\H b=some (.tup (ns.map V.int))/\ns.length<=WE:=by
 unfold au Rp at h;obtain⟨b,ys,e,q,l,r⟩:=h;rw[r.toI] at q;exact⟨b,e,q,by simpa using l⟩
theorem Mp (q:H b=some (.tup (ns.map V.int)))(l:ns.length<=WE):Rp K H A (au ns) (.ref b):=by
 unfold au Rp;exact⟨b,_,rfl,q,by simpa using l,m6 ns⟩
theorem wB (q:H b=some (.tup (ns.map V.int))):cA H b=ns:=by unfold cA;rw[q];exact yu ns
theorem jC:∀{c8:List (List Int)} {xs:List V},aO K H A (c8.map au) xs->∃bs:List WT,xs=bs.map V.ref/\bs.map (cA H)=c8/\∀b∈bs,H b=some (.tup ((cA H b).map V.int))/\(cA H b).length<=WE
 | [],xs,h=>by rw[Yg] at h;unfold aO at h;subst h;exact⟨[],rfl,rfl,λb hb=>by cases hb⟩
 |ns::c8,xs,h=>by
  rw[WQ] at h;unfold aO at h;obtain⟨x,r,rfl,h1,h2⟩:=h;obtain⟨b,rfl,q,l⟩:=Mo h1;obtain⟨bs,rfl,e,z⟩:=jC h2;refine⟨b::bs,rfl,by rw[WQ,e,wB q],λc hc=>?_⟩;rcases WK.mp hc with rfl|hc
  ·rw[wB q];exact⟨q,l⟩
  ·exact z c hc
theorem yv {bs:List WT}(h:∀b∈bs,H b=some (.tup ((cA H b).map V.int))/\(cA H b).length<=WE):aO K H A ((bs.map (cA H)).map au) (bs.map V.ref):=by
 induction bs with
 |nil=>exact aO.nil
 |cons b bs ih=>exact aO.cons (Mp (h b Wz).1 (h b Wz).2) (ih λc hc=>h c (WD _ hc))
noncomputable def kI (us:List U):R U:=match iO us with
 |some c8=>if c8.length<=1000000 then .ok (.lst ((vn c8).map au)) else .stk
 |none=>.stk
noncomputable def sW:List U->R U:=λus=>match us with
 | [.lst xs]=>kI xs
 | [.tup xs]=>kI xs
 | [.dct ks _]=>if OV ks=true then kI ks else .stk
 |_=>.stk
def wC (K:Wv):List V->Hp->VK->Prop:=λxs H Q=>∃(p:WT) (bs:List WT),xs=[.ref p]/\C8 K H p bs/\bs.length<=1000000/\(∀b∈bs,∃ns:List Int,H b=some (.tup (ns.map V.int))/\ns≠[])/\
  ∀(l:WT) (iB:List WT),H l=none->iB.Perm bs->iB.Pairwise (λx y=>fz (cA H y) (cA H x)=false)->Q (.ref l) (cY H l (.lst (iB.map V.ref)))
theorem C_:lK K (wC K) .O sW:=λA H vs us z Q h mu e q=>by
 have fin:∀(xs:List U) (p:WT) (bs:List WT),kI xs=.ok z->aO K H A xs (bs.map V.ref)->C8 K H p bs->wC K [.ref p] H Q:=by
  intro xs p bs e r DL;unfold kI at e;split at e
  ·rename_i c8 e1;split at e
   ·rename_i hz;cases e;obtain⟨e2,ne⟩:=kH e1;subst e2;obtain⟨jw,e3,e4,e5⟩:=jC r;have e6:bs=jw:=by
     have:Function.Injective V.ref:=λa b h=>by cases h;rfl
     exact (List.map_inj_right λ_ _ h=>by cases h;rfl).mp e3
    subst e6;have n1:bs.length=c8.length:=by rw[←e4,WC]
    refine⟨p,bs,rfl,DL,by lia,λb hb=>⟨_,(e5 b hb).1,ne _ (by rw[←e4];exact YV hb)⟩,λl iB hn hp hw=>?_⟩;have e7:iB.map (cA H)=vn c8:=wA ((hp.map (cA H)).trans (by rw[e4];exact (my c8).symm)) (YA.mpr hw) (sV c8);refine q _ _ (cW hn _) ⟨l,rfl,hn,?_⟩;rw[←e7];refine bJ mu (yv λb hb=>e5 b (hp.mem_iff.mp hb)) hn ?_;have:WE=16777216:=rfl;rw[WC,WC,hp.length_eq];lia
   ·cases e
  ·cases e
 unfold sW at e;split at e
 ·obtain⟨v,rfl,p⟩:=h.one;unfold Pk at p;obtain⟨a,ys,rfl,h1,l1,r1⟩:=p;have e':=e;unfold kI at e';split at e'
  ·rename_i c8 e1;have r2:=r1;rw[(kH e1).1] at r2;obtain⟨bs,rfl,_⟩:=jC r2;exact fin _ a bs e r1 (.inl (f7.of h1))
  ·cases e'
 ·obtain⟨v,rfl,p⟩:=h.one;unfold Pk at p;obtain⟨a,ys,rfl,h1,l1,r1⟩:=p;have e':=e;unfold kI at e';split at e'
  ·rename_i c8 e1;have r2:=r1;rw[(kH e1).1] at r2;obtain⟨bs,rfl,_⟩:=jC r2;exact fin _ a bs e r1 (.inr (.inl (gK.of h1)))
  ·cases e'
 ·rename_i ks ws;split at e
  ·rename_i c;obtain⟨v,rfl,p⟩:=h.one;unfold Pk at p;obtain⟨a,ys,rfl,h1,l1,r1⟩:=p;obtain⟨es,ep,q1,kt,e1,e2⟩:=F6 c h1;refine fin ks a (es.map (·.2.1)) e ?_ (.inr (.inr ⟨ep,es,q1,rfl⟩));subst e1;clear e fin e2 r1 h1 c q1 h
   induction es with
   |nil=>exact aO.nil
   |cons x es ih=>exact aO.cons (Kc (kt x Wz)) (ih λy hy=>kt y (WD _ hy))
  ·cases e
 ·cases e
def Gh (K:Wv):List V->Hp->VK->Prop:=λxs H Q=>∃(p:WT) (ns:List Int),xs=[.ref p]/\(f7 K H p (ns.map V.int)\/gK K H p (ns.map V.int))/\ns.length<64/\
  ∀(l:WT) (oV:List Int),H l=none->oV.Perm ns->oV.Pairwise (·<=·)->Q (.ref l) (cY H l (.lst (oV.map V.int)))
noncomputable def pR:List U->R U:=λus=>match zS us with
 | .ok z=>.ok z
 |_=>sW us
theorem sX:lK K (λxs H Q=>Gh K xs H Q\/wC K xs H Q) .O pR:=λA H vs us z Q h mu e q=>by
 unfold pR at e;split at e
 ·rename_i z' e1;cases e;exact .inl (CJ A H vs us _ Q h mu e1 q)
 ·exact .inr (C_ A H vs us z Q h mu e q)
theorem oK (hc:X.calm=true)(hu:X.A.units+64<Yy):eT X (.builtin "sorted") (λxs H Q=>Gh X.K xs H Q\/wC X.K xs H Q):=by
 intro pins s σ H xs us Q I r h;rcases h with h|h
 ·exact vQ pins s σ H xs us Q I r h
 ·exact wz hc hu pins s σ H xs us Q I r h
end L2
namespace L2
open Hc.Dw Hc.Ts Hc.Sx Hc.Sy
noncomputable def wD (cG:List (List Int))(x:List Int):List (List Int):=if x∈cG then cG else cG++[x]
noncomputable def jD (l:List (List Int)):List (List Int):=l.foldl wD []
def Dd (w:Zu)(l:WT)(bs:List WT)(h:Y8):Prop:=∃es ep t,lP w h l es ep t/\(es.toList.map (·.2)).Perm (bs.map Value.ref)
theorem Gi {vs:List WB}(h:YJ vs ns):ItemsAre (abD prog w) ns vs:=by
 induction h with
 |nil=>exact .nil
 |cons n t _ ih=>exact .cons (intKind_is _ _ _ _) ih
section
variable {e:Yv}{kl p1 p2:Pos}{b1:Bool}{ga:Ev->R (List U×Ev)}
noncomputable def nC (H:Hp)(bs:List WT)(i:Nat):List Int×WT:=(cA H (bs.getD i 0),bs.getD i 0)
theorem vo (H:Hp)(bs:List WT):∀n,n<=bs.length->(eO (nC H bs) n).map (·.1)=jD ((bs.take n).map (cA H))
 |0,_=>by simp[eO,jD]
 |n+1,h=>by
  have hn:n<bs.length:=by lia
  have ih:=vo H bs n (by lia);have e1:bs.take (n+1)=bs.take n++[bs[n]]:=Yu hn;have e2:nC H bs n=(cA H bs[n],bs[n]):=by unfold nC;simp[aas,Wr hn]
  rw[e1,Ya];unfold jD at ih ⊢;rw[List.foldl_append,←ih];show (lY (eO (nC H bs) n) (nC H bs n).1 (nC H bs n).2).map (·.1)=wD ((eO (nC H bs) n).map (·.1)) (cA H bs[n]);rw[e2];unfold lY wD;dsimp only;by_cases c:cA H bs[n]∈(eO (nC H bs) n).map (·.1)
  ·rw[hV c,hV c]
  ·rw[hU c,hU c,Ya];rfl
theorem yw (H:Hp)(bs:List WT):(eO (nC H bs) bs.length).map (·.1)=jD (bs.map (cA H)):=by
 rw[vo H bs _ (WI _),aab]
def Kk (w:Zu)(K:Wv):List V->Hp->VK->Prop:=λxs H Q=>∃(p:WT) (bs:List WT),xs=[.ref p]/\f7 K H p (bs.map V.ref)/\(∀b∈bs,H b=some (.tup ((cA H b).map V.int)))/\(jD (bs.map (cA H))).length<2046/\
 ∀(l:WT) (jw:List WT),H l=none->jw.map (cA H)=jD (bs.map (cA H))->(∀b∈jw,b∈bs)->Q (.ref l) (cY H l (.ext (Dd w l jw)))
theorem De (hc:X.calm=true)(hu:X.A.units+64<Yy):eT X (.type "set") (Kk X.w X.K):=by
 intro pins s σ H xs us Q I r h;obtain⟨p,bs,rfl,hs,tu,hb,q⟩:=h;obtain⟨u,rfl,rx⟩:=ja r;cases rx;obtain⟨its,rv,pl,_⟩:=I.list hs;have e2:=gr rv;subst e2;have sz:(bs.map Value.ref).toArray.size=bs.length:=by simp
 refine x8 (knd:=tI X.prog X.w) (val:=nC H bs) U0 (λ{h h' k a} hk m=>?_) (show X.A.units+1+1+1<Yy by lia) (I.ok.hd hc) pl.isList (λi v hv=>?_) (λj hj=>?_) ?_ λh' tk hS hk=>?_
 ·obtain⟨o,its,n,e1,e2,e3,e4⟩:=hk;obtain⟨o',zc,Jd,n',e3'⟩:=m a its ⟨o,e1,e2,n,e3⟩;exact⟨o',its,n',zc,Jd,e3',e4⟩
 ·rw[←WS] at hv;rw[Xc] at hv;unfold nC;cases z:bs[i]? with
  |none=>rw[z] at hv;cases hv
  |some b=>rw[z] at hv;simp only[aas,z,Zv];exact (W0 hv).symm
 ·have hj:j<bs.length:=by rw[sz] at hj;exact hj
  have em:bs.getD j 0=bs[j]:=by simp[aas,Wr hj]
  unfold nC;rw[em];obtain⟨_,its,rv,it,_⟩:=I.hok _ _ (tu _ (Xm hj));obtain⟨o,h1,h2,n,h3⟩:=it;exact⟨o,_,n,h1,h2,h3,by simpa using Gi (dW rv)⟩
 ·rw[sz];have:=congrArg List.length (yw H bs);rw[WC] at this;lia
 ·rw[sz] at hS;obtain⟨o,es,ep,t,C,g1,g2,g3,g4,g5⟩:=hS;have Tv:lP X.w h' s.heap.objs.size es ep t:=⟨o,g1,g2,g3,g4.fits,g4.pl,g5,g4.tab.ris,g4.tab.sz⟩;have mem:∀x∈eO (nC H bs) bs.length,x.1=cA H x.2/\x.2∈bs:=λx hx=>by
   obtain⟨j,hj,rfl⟩:=lx _ _ x hx;refine⟨rfl,?_⟩;have em:bs.getD j 0=bs[j]:=by simp[aas,Wr hj]
   show bs.getD j 0∈bs;rw[em];exact Xm hj
  refine⟨.ref s.heap.objs.size,_,I.laid (a:=s.heap.objs.size) (o:=.ext (Dd X.w s.heap.objs.size ((eO (nC H bs) bs.length).map (·.2)))) (t':=tk) hk (WI _)
   ⟨⟨es,ep,t,Tv,?_⟩,⟨o,g1⟩,λh1 h2 ⟨es,ep,t,r,z⟩ k=>⟨es,ep,t,r.at k,z⟩⟩,rfl,q _ _ (I.hok.fresh (WI _)) ?_ λb hb=>?_⟩
  ·refine (g4.per.map (·.2)).trans (List.Perm.of_eq ?_);rw[Ys,Ys];rfl
  ·rw[←yw H bs,Ys];exact Zt λx hx=>(mem x hx).1.symm
  ·obtain⟨x,hx,rfl⟩:=Xp.mp hb;exact (mem x hx).2
def Gj (w:Zu):List V->Hp->VK->Prop:=λxs H Q=>∃(p:WT) (bs:List WT),xs=[.ref p]/\H p=some (.ext (Dd w p bs))/\bs.length<=1000000/\(∀b∈bs,∃ns:List Int,H b=some (.tup (ns.map V.int))/\ns≠[])/\
  ∀(l:WT) (iB:List WT),H l=none->iB.Perm bs->iB.Pairwise (λx y=>fz (cA H y) (cA H x)=false)->Q (.ref l) (cY H l (.lst (iB.map V.ref)))
theorem As (hc:X.calm=true)(hu:X.A.units+64<Yy):eT X (.builtin "sorted") (Gj X.w):=by
 intro pins s σ H xs us Q I r h;obtain⟨p,bs,rfl,hs,hz,tu,q⟩:=h;obtain⟨u,rfl,rx⟩:=ja r;cases rx;obtain⟨⟨es,ep,t,Tv,per⟩,_,_⟩:=I.hok p _ hs;refine pQ I hz hu tu (λQ E hq=>?_) q;have n:es.size=bs.length:=by have:=per.length_eq;simpa using this
 refine kG (A:=X.A.in1) RZ (I.ok.hd hc) Tv (by rw[n,Yx];lia) λh1 tk cG k1 ia=>?_;have e:cG.toList=(um X.w p ep es).toList.map (·.2):=by
  apply Zk;intro i;rw[WS,Xc,WS];by_cases hi:i<cG.size
  ·rw[getElem?_pos cG i hi];obtain⟨en,e1,e2⟩:=ia.2 i _ (getElem?_pos cG i hi);rw[e1,e2];rfl
  ·rw[getElem?_neg cG i hi,getElem?_neg _ i (by rw[yt,←ia.1];exact hi)];rfl
 obtain⟨jw,e3,e4⟩:=vi ((yr.map (·.2)).trans per);rw[e,e3];exact hq h1 tk jw e4 k1
noncomputable def dZ:List U->R U:=λus=>match us with
 | [.lst xs]=>match iO xs with
  |some c8=>if (jD c8).length<2046 then .ok (.lst ((vn (jD c8)).map au)) else .stk
  |none=>.stk
 |_=>.stk
theorem yx:∀(l cG:List (List Int)) (x:List Int),x∈l.foldl wD cG->x∈cG\/x∈l
 | [],cG,x,h=>.inl h
 |y::l,cG,x,h=>by
  rcases yx l _ x h with z|z
  ·unfold wD at z;split at z
   ·exact .inl z
   ·rcases WW.mp z with z|z
    ·exact .inl z
    ·exact .inr (by rw[WZ.mp z];exact Wz)
  ·exact .inr (WD _ z)
theorem yy:lK K (λvs H Q=>Kk w K vs H λx H2=>Gj w [x] H2 Q) .O dZ:=λA H vs us z Q h mu e q=>by
 unfold dZ at e;split at e
 ·rename_i xs;split at e
  ·rename_i c8 e1;split at e
   ·rename_i hl;cases e;obtain⟨v,rfl,p⟩:=h.one;unfold Pk at p;obtain⟨a,ys,rfl,h1,l1,r1⟩:=p;obtain⟨e2,ne⟩:=kH e1;subst e2;obtain⟨bs,rfl,e4,e5⟩:=jC r1;refine⟨a,bs,rfl,f7.of h1,λb hb=>(e5 b hb).1,by rw[e4];exact hl,λl jw hn k2 sub=>?_⟩;have sm:=cW hn (.ext (Dd w l jw));have kb:∀b∈bs,cA (cY H l (.ext (Dd w l jw))) b=cA H b:=λb hb=>by
     rw[wB (sm _ _ (e5 b hb).1)]
    have ln:jw.length=(jD c8).length:=by rw[←e4,←k2,WC]
    refine⟨l,jw,rfl,bT,by lia,λb hb=>⟨_,sm _ _ (e5 b (sub b hb)).1,?_⟩,λl' iB Nn hp hw=>?_⟩
    ·have:cA H b∈jD (bs.map (cA H)):=by rw[←k2];exact YV hb
     rcases yx _ _ _ this with z|z
     ·cases z
     ·rw[e4] at z;exact ne _ z
    ·have VC:(iB.map (cA H)).Pairwise λx y=>fz y x=false:=by
      refine YA.mpr (Zl (λ{x y} hx hy z=>?_) hw);rw[kb x (sub x (hp.mem_iff.mp hx)),kb y (sub y (hp.mem_iff.mp hy))] at z;exact z
     have e7:iB.map (cA H)=vn (jD c8):=wA ((hp.map (cA H)).trans (by rw[k2,e4];exact (my _).symm)) VC (sV _);have Q2:=sm.trans (cW Nn (.lst (iB.map V.ref)));have na:H l'=none:=by
      cases z:H l' with
      |none=>rfl
      |some o=>rw[sm _ _ z] at Nn;cases Nn
     refine q _ _ Q2 ⟨l',rfl,na,?_⟩;rw[←e7];refine bJ (λb hb=>?_) ?_ Nn ?_
     ·have m:=mu b hb;obtain⟨o,z⟩:=m.ex;rw[sm b o z,←z];exact m
     ·have k3:iB.map (cA H)=iB.map (cA (cY H l (.ext (Dd w l jw)))):=Zt λb hb=>(kb b (sub b (hp.mem_iff.mp hb))).symm;rw[k3];refine yv λb hb=>?_;have qw:=sub b (hp.mem_iff.mp hb);rw[kb b qw];exact⟨sm _ _ (e5 b qw).1,(e5 b qw).2⟩
     ·have:WE=16777216:=rfl;rw[WC,WC,hp.length_eq];lia
   ·cases e
  ·cases e
 ·cases e
theorem sY (hc:X.calm=true)(hu:X.A.units+64<Yy)(ha:DA X G [e] b1 true ga)(hm:X.mg "sorted"=none)(Tp:X.mg "set"=none)(hg:Gl X "sorted":=by rfl)(Qo:Gl X "set":=by rfl)
  (he:WY [e] X.env=(false,Z0 e X.env)::WY [] X.env:=by rfl) (t9:(Zc kl (WY [] X.env)).any (·.1)=false:=by rfl)
  (Qx:WY [.Call (.Name "set" p2) [e] [] kl] X.env=(false,Z0 (.Call (.Name "set" p2) [e] [] kl) X.env)::WY [] X.env:=by rfl) (GU:(Zc pos (WY [] X.env)).any (·.1)=false:=by rfl) :
  DE X G (.Call (.Name "sorted" p1) [.Call (.Name "set" p2) [e] [] kl] [] pos) b1 .O (gG dZ ga):=⟨(qP (As hc hu) hg hm jB (mL (jz (De hc hu) Qo Tp E_ ha.un (by decide) (by decide) he t9) qO Qx) (by decide) (by decide) Qx GU).to λ_ _ _ h=>qx (p:=true) (yy (K:=X.K)) h⟩
end
end L2
namespace L2
open Hc.Dw Hc.Ts
def Kl:R2:=λx y H Q=>∃(p:WT) (xs:List V) (n:Int),x=.ref p/\y=.int n/\H p=some (.lst xs)/\0<=n/\n<=100000/\xs≠[]/\xs.length*n.toNat<=100000/\∀l,H l=none->Q (.ref l) (cY H l (.lst (Xv n.toNat xs).flatten))
theorem IE:j3 X (ZQ .Mult) Kl:=by
 intro pins s σ H x y v u Q I rx ry h;obtain⟨p,xs,n,rfl,rfl,hp,h0,h1,G6,hs,q⟩:=h;obtain rfl:v=Value.ref p:=rx;obtain⟨tk,rfl⟩:∃t,u=.int n t:=ry;obtain⟨_,its,n0,rv,hl,ho⟩:=I.lstM hp;have hl:xs.length=its.length:=rv.length;have he:its.toArray.isEmpty=false:=by cases its with
  |nil=>cases xs with
   |nil=>exact absurd rfl G6
   |cons=>simp at hl
  |cons=>simp
 have sl:WE=16777216:=rfl;refine wpAny_binaryOp_repeat_ref (T:="list") (U:="int") (by decide) ⟨_,ho,rfl⟩ (λs'=>typeIs_int s' n tk) noFill_list_mul PySem.F.fills_int_mul PySem.F.slot_int_rmul repeat_list PySem.F.slot_int_index.lookup
  (abO PySem.F.slot_int_rmul (typeIs_int s n tk) PySem.F.entry_int_rmul (PySem.F.args_int_rmul_2 _ _) (int___rmul___int_list n tk p its.toArray n0)
   ⟨ho,rfl,⟨_,ho,rfl⟩,abO PySem.F.slot_list_mul ⟨_,ho,rfl⟩ PySem.F.entry_list_mul (PySem.F.args_list_mul_2 _ _)
    (AutoListH.list___mul___list_int_3 p its.toArray n0 n tk ?c0 ?c1 ?c2) ⟨ho,?_⟩⟩)
 case c0=>unfold Builtin.List.listFitsIndex;simp;lia
 case c1=>rw[Wy,←hl];lia
 case c2=>rw[Wy,←hl,qU (by rw[sl];lia)];exact WA
 rw[he,hU WA,listMul_foldl];have el:(#[]:Array WB).toList=[]:=rfl;simp only[el,XX];have z2:(Xv n.toNat xs).flatten.length<=WE:=by rw[Bv,sl];lia
 exact⟨.ref s.heap.objs.size,_,I.laid (a:=s.heap.objs.size) (o:=.lst (Xv n.toNat xs).flatten) (t':=s.toks) (λ_ _ e=>Ws _ e) (WI _) ⟨z2,_,0,x9 rv n.toNat,by
  have:=WJ s.heap (o:={cls:=Value.type "list",data:=Data.seq (Xv n.toNat its.toArray.toList).flatten.toArray}) rfl;simpa using this⟩,rfl,q _ (I.hok.fresh (WI _))⟩
noncomputable def B3:U->U->R U:=λu w=>match u,w with
 | .lst us,.int n=>if 0<=n/\n<=100000/\us.length*n.toNat<=100000/\us.isEmpty=false then .ok (.lst (Xv n.toNat us).flatten) else .stk
 |_,_=>.stk
theorem Gk:fG K Kl .O B3:=λA H x y u w z Q hx hy mu e q=>by
 unfold B3 at e;split at e
 ·rename_i us n;split at e
  ·rename_i c;cases e;unfold Pk at hx hy;obtain⟨a,xs,rfl,h1,l1,r1⟩:=hx;subst hy;have hl:=r1.length;refine⟨a,xs,n,rfl,rfl,h1,c.1,c.2.1,λz=>?_,by rw[←hl];exact c.2.2.1,λl hn=>?_⟩
   ·have:us=[]:=Yd (by rw[hl,z];rfl);have c4:=c.2.2.2;rw[this] at c4;cases c4
   ·refine q _ _ (cW hn _) ⟨l,rfl,hn,bJ mu (Bw r1 _) hn ?_⟩;rw[Bv];have:WE=16777216:=rfl;lia
  ·cases e
 ·cases e
section
variable {e:Yv}{tl:TE}{gR cpos p1:Pos}{b1:Bool}{m1:Md}{g1:Ev->R (U×Ev)}
noncomputable def Au (ns:List Int):Bool:=decide (ns.length<=1000000)&&ns.all λn=>decide (0<=n/\n<=1000000000)
theorem kJ (ns:List Int):∀j,j<=ns.length->preSum (λi=>ns.getD i 0) j=(ns.take j).sum
 |0,_=>rfl
 |j+1,h=>by
  unfold preSum;rw[kJ ns j (by lia),Yu (show j<ns.length by lia),List.sum_append];simp[aas,Wr (show j<ns.length by lia)]
theorem vp:∀{ns:List Int},(ns.all λn=>decide (0<=n/\n<=1000000000))=true->0<=ns.sum/\ns.sum<=ns.length*1000000000
 | [],_=>by simp
 |n::ns,h=>by
  rw[aaq,WX] at h;obtain⟨a,b⟩:=vp h.2;have:=of_decide_eq_true h.1;rw[List.sum_cons,Ww];constructor
  ·lia
  ·push_cast;lia
end
end L2
namespace L2
open Hc.Dw Hc.Ts
noncomputable def sZ:WB->Int×Tok
 | .int n t=>(n,t)
 |_=>(0,0)
theorem vq (h:YJ its ns):intItems (its.map sZ).toArray=its.toArray/\∀i,numAt (its.map sZ).toArray i=ns.getD i 0:=by
 constructor
 ·unfold intItems;rw[List.map_toArray,Ys];congr 1
  induction h with
  |nil=>rfl
  |cons n t _ ih=>rw[WQ,ih];rfl
 ·induction h with
  |nil=>intro i;unfold numAt;simp
  |cons n t _ ih=>
   intro i;cases i with
   |zero=>unfold numAt;simp[sZ]
   |succ i=>
    have:=ih i;unfold numAt at this ⊢;simpa [aas] using this
def Km (K:Wv):List V->Hp->VK->Prop:=λxs H Q=>∃p ns,xs=[.ref p]/\f7 K H p (ns.map V.int)/\Au ns=true/\Q (.int ns.sum) H
theorem Dg (hc:X.calm=true):eT X (.builtin "sum") (Km X.K):=by
 intro pins s σ H xs us Q I r h;obtain⟨p,ns,rfl,hs,sm,q⟩:=h;obtain⟨u,rfl,rx⟩:=ja r;cases rx;obtain⟨its,rv,pl,_⟩:=I.list hs;have hI:=dW rv;obtain⟨t1,t2⟩:=vq hI;have sz:(its.map sZ).toArray.size=ns.length:=by simp[hI.length]
 unfold Au at sm;rw[WX] at sm;have s1:=of_decide_eq_true sm.1;have fe:numAt (its.map sZ).toArray=λi=>ns.getD i 0:=funext t2;refine sum_intList (xs:=(its.map sZ).toArray) (I.ok.hd hc) (by rw[t1];exact pl.isList) (λj hj=>?_) λh' tk t' k=>?_
 ·rw[sz] at hj;have al:=sm.2;rw[fe];refine⟨?_,?_⟩
  ·have:=WR.mp al ns[j] (Xm hj);have:=of_decide_eq_true this;unfold InLong;simp only[aas,Wr hj,Zv];lia
  ·rw[kJ ns (j+1) (by lia)];have Q3:((ns.take (j+1)).all λn=>decide (0<=n/\n<=1000000000))=true:=WR.mpr λx hx=>WR.mp al x (Yo hx);obtain⟨p1,p2⟩:=vp Q3;have:(ns.take (j+1)).length<=1000000:=by rw[Xr];lia
   unfold InLong;lia
 ·have e:preSum (numAt (its.map sZ).toArray) (its.map sZ).toArray.size=ns.sum:=by rw[fe,sz,kJ ns ns.length (WI _),aab]
  rw[e];exact⟨.int ns.sum,H,I.kept (t':=tk) k,⟨t',rfl⟩,q⟩
noncomputable def Gn:List U->R U:=λus=>match us with
 | [.lst xs]=>match je xs with
  |some ns=>if Au ns=true then .ok (.int ns.sum) else .stk
  |none=>.stk
 |_=>.stk
theorem Gp:lK K (Km K) .S Gn:=λA H vs us z Q h mu e q=>by
 unfold Gn at e;split at e
 ·rename_i xs;split at e
  ·rename_i ns hb;split at e
   ·rename_i hl;cases e;obtain⟨v,rfl,p⟩:=h.one;unfold Pk at p;obtain⟨a,ys,rfl,h1,l1,r1⟩:=p;rw[jf hb] at r1;rw[r1.toI] at h1;exact⟨a,ns,rfl,f7.of h1,hl,q _ H (aY.refl _) (show Rp K H A _ _ from eR)⟩
   ·cases e
  ·cases e
 ·cases e
noncomputable def yz:Int->List Int->Int
 |m,[]=>m
 |m,n::ns=>yz (if m<n then n else m) ns
theorem yA (ns:List Int)(n0:Int):∀j,j<=ns.length->(n0::ns).getD (argBest (λi j=>decide ((n0::ns).getD i 0>(n0::ns).getD j 0)) j) 0=yz n0 (ns.take j)
 |0,_=>by simp[argBest,yz]
 |j+1,h=>by
  have ih:=yA ns n0 j (by lia);have hj:j<ns.length:=by lia
  have app:∀(l:List Int) (m x:Int),yz m (l++[x])=if yz m l<x then x else yz m l:=by
   intro l
   induction l with
   |nil=>intro m x;rfl
   |cons y l ih=>intro m x;exact ih _ x
  rw[Yu hj,app,←ih];have g:(n0::ns).getD (j+1) 0=ns[j]:=by simp[aas,Wr hj]
  rw[argBest];by_cases c:(n0::ns).getD (argBest (λi j=>decide ((n0::ns).getD i 0>(n0::ns).getD j 0)) j) 0<ns[j]
  ·rw[hV c,hV (by rw[g];exact hG c),g]
  ·rw[hU c,hU (by rw[g,decide_eq_true_eq];exact c)]
def Kn (K:Wv):List V->Hp->VK->Prop:=λxs H Q=>∃p n0 ns,xs=[.ref p]/\f7 K H p ((n0::ns).map V.int)/\Q (.int (yz n0 ns)) H
theorem Dh (hc:X.calm=true):eT X (.builtin "max") (Kn X.K):=by
 intro pins s σ H xs us Q I r h;obtain⟨p,n0,ns,rfl,hs,q⟩:=h;obtain⟨u,rfl,rx⟩:=ja r;cases rx;obtain⟨its,rv,pl,_⟩:=I.list hs;have hI:=dW rv;obtain⟨t1,t2⟩:=vq hI;have sz:(its.map sZ).toArray.size=ns.length+1:=by simp[hI.length]
 have fe:numAt (its.map sZ).toArray=λi=>(n0::ns).getD i 0:=funext t2;refine max_intList (xs:=(its.map sZ).toArray) (I.ok.hd hc) (by rw[t1];exact pl.isList) (by rw[sz];lia) λv h' tk hv k=>?_;obtain⟨t,rfl⟩:=intItems_at hv;rw[sz,Nat.add_sub_cancel,fe];dsimp only;rw[yA ns n0 _ (WI _),aab];exact⟨.int _,H,I.kept (t':=tk) k,⟨t,rfl⟩,q⟩
noncomputable def Gq:List U->R U:=λus=>match us with
 | [.lst xs]=>match je xs with
  |some (n::ns)=>.ok (.int (yz n ns))
  |_=>.stk
 |_=>.stk
theorem Gs:lK K (Kn K) .S Gq:=λA H vs us z Q h mu e q=>by
 unfold Gq at e;split at e
 ·rename_i xs;split at e
  ·rename_i n ns hb;cases e;obtain⟨v,rfl,p⟩:=h.one;unfold Pk at p;obtain⟨a,ys,rfl,h1,l1,r1⟩:=p;rw[jf hb] at r1;rw[r1.toI] at h1;exact⟨a,n,ns,rfl,f7.of h1,q _ H (aY.refl _) (show Rp K H A _ _ from eR)⟩
  ·cases e
 ·cases e
end L2
namespace Hc.Ts
open PySem.W
theorem yB:∀a b,HT.lexLt a b=fz a b
 | [],[]=>rfl
 | [],_::_=>rfl
 |_::_,[]=>rfl
 |x::xs,y::ys=>by
  rw[HT.lexLt_cons,fz,yB xs ys]
section
variable {A:Xh}
theorem items_int {vs:List WB}(h:YJ vs ns):ItemsAre (abD prog w) ns vs:=by
 induction h with
 |nil=>exact .nil
 |cons n t _ ih=>exact .cons (intKind_is _ _ _ _) ih
theorem O5 {t:WT}{its:Array WB}(h:s.heap.IsTuple t its)(i:YJ its.toList ns):IsTupleKey (abD prog w) s.heap ns t:=by
 obtain⟨o,e,c,n,d⟩:=h;exact⟨o,its,n,e,c,d,items_int i⟩
end
end Hc.Ts
namespace L2
open Hc.Dw Hc.Ts
theorem vt {α β:Type}{f:α->β}:∀{l:List α},(l.map f).Nodup->∀a∈l,∀b∈l,f a=f b->a=b
 | [],_,a,ha,_,_,_=>by cases ha
 |x::l,h,a,ha,b,hb,e=>by
  rw[WQ] at h;obtain⟨h1,h2⟩:=XO.mp h;rcases WK.mp ha with ea|AQ
  ·rcases WK.mp hb with eb|qw
   ·rw[ea,eb]
   ·exact absurd (by rw[←ea,e];exact YV qw) h1
  ·rcases WK.mp hb with eb|qw
   ·exact absurd (by rw[←eb,←e];exact YV AQ) h1
   ·exact vt h2 a AQ b qw e
end L2
namespace L2
def Mq (K:Wv)(f:Bool->Bool):R2:=λx y H Q=>∃p xs ds dx,y=.ref p/\(f7 K H p xs\/gK K H p xs)/\a6 K H dx x/\f9 K H ds xs/\(∀d∈ds,eQ d<=30)/\Q (.bl (f (ds.any λd=>jP d dx))) H
open Classical in
noncomputable def kh (its:List WB)(ds:List D)(dx:D)(u:WB):Bool:=decide (∃(i:Nat) (d:D),its[i]? = some u/\ds[i]? = some d/\jP d dx=true)
open Classical in
theorem qG {ds:List D}{dx:D}{u:WB}:kh its ds dx u=true↔∃(i:Nat) (d:D),its[i]? = some u/\ds[i]? = some d/\jP d dx=true:=by
 unfold kh;exact decide_eq_true_iff
theorem qH {ds:List D}{dx:D}(hl:its.length=ds.length):its.any (kh its ds dx)=ds.any λd=>jP d dx:=by
 rw[ZF,List.any_eq_true,List.any_eq_true];constructor
 ·rintro⟨u,_,h⟩;obtain⟨i,d,_,h2,h3⟩:=qG.mp h;exact⟨d,Xw h2,h3⟩
 ·rintro⟨d,hd,h⟩;obtain⟨i,hi,e⟩:=YH.mp hd;have KL:i<its.length:=by lia
  exact⟨its[i],Xm KL,qG.mpr ⟨i,d,Wr KL,by rw[Wr hi,e],h⟩⟩
theorem nD (I:aN X pins σ H s){A:Xh}(hA:A.units+30<Yy){x:V}{v:WB}{dx:D}(rx:bu x v)(hx:a6 X.K H dx x){ds:List D}(rv:a9 xs its)(hs:f9 X.K H ds xs)(hd:∀d∈ds,eQ d<=30) :
  ∀u∈its,Zh A s u v (kh its ds dx u):=λu hu=>by
 have l1:=rv.length;have l2:=hs.length;have at_:∀(i:Nat) (d:D),its[i]? = some u->ds[i]? = some d->Zh A s u v (jP d dx):=λi d h1 h2=>by
  have hi:i<its.length:=(WH.mp h1).1;have h3:xs[i]? = some (xs[i]'(by lia)):=Wr _;obtain⟨u',g1,g2⟩:=rv.get h3;rw[h1] at g1;cases g1;exact rh I 30 d dx _ x u v A (hd d (Xw h2)) hA (hs.get h2 h3) hx g2 rx
 by_cases c:∃(i:Nat) (d:D),its[i]? = some u/\ds[i]? = some d/\jP d dx=true
 ·obtain⟨i,d,h1,h2,h3⟩:=c;have e:kh its ds dx u=true:=qG.mpr ⟨i,d,h1,h2,h3⟩;rw[e,←h3];exact at_ i d h1 h2
 ·have e:kh its ds dx u=false:=ZS.mpr λz=>c (qG.mp z);obtain⟨i,hi,eu⟩:=YH.mp hu;have h1:its[i]? = some u:=by rw[Wr hi,eu]
  have h2:ds[i]? = some (ds[i]'(by lia)):=Wr _;have e2:jP (ds[i]'(by lia)) dx=false:=by
   cases z:jP (ds[i]'(by lia)) dx with
   |false=>rfl
   |true=>exact absurd ⟨i,_,h1,h2,z⟩ c
  rw[e,←e2];exact at_ i _ h1 h2
theorem Mr (hu:X.A.units+64<Yy):j3 X (Yf .In) (Mq X.K id):=by
 intro pins s σ H x y v u Q I rx ry h;obtain⟨p,xs,ds,dx,rfl,hq,hx,hs,hd,q⟩:=h;cases ry;rcases hq with hq|hq
 ·obtain⟨its,r,pl,hz⟩:=I.list hq;refine SeqAt.in_listAt (kh its ds dx) pl.isList (λw hw=>nD I (by show X.A.units+1+30<Yy;lia) rx hx r hs hd w (by simpa using hw)) ⟨.bl _,H,I,rfl,?_⟩;rw[show its.toArray.any (kh its ds dx)=its.any (kh its ds dx) by simp,qH (by rw[←r.length,←hs.length])];exact q
 ·obtain⟨its,r,pl,hz⟩:=I.tuple hq;refine SeqAt.in_tupleAt (kh its ds dx) pl (λw hw=>nD I (by show X.A.units+1+30<Yy;lia) rx hx r hs hd w (by simpa using hw)) ⟨.bl _,H,I,rfl,?_⟩;rw[show its.toArray.any (kh its ds dx)=its.any (kh its ds dx) by simp,qH (by rw[←r.length,←hs.length])];exact q
theorem vv (hu:X.A.units+64<Yy):j3 X (Yf .NotIn) (Mq X.K not):=by
 intro pins s σ H x y v u Q I rx ry h;obtain⟨p,xs,ds,dx,rfl,hq,hx,hs,hd,q⟩:=h;cases ry;rcases hq with hq|hq
 ·obtain⟨its,r,pl,hz⟩:=I.list hq;refine SeqAt.notIn_listAt (kh its ds dx) pl.isList (λw hw=>nD I (by show X.A.units+1+30<Yy;lia) rx hx r hs hd w (by simpa using hw)) ⟨.bl _,H,I,rfl,?_⟩;rw[show its.toArray.any (kh its ds dx)=its.any (kh its ds dx) by simp,qH (by rw[←r.length,←hs.length])];exact q
 ·obtain⟨its,r,pl,hz⟩:=I.tuple hq;refine SeqAt.notIn_tupleAt (kh its ds dx) pl (λw hw=>nD I (by show X.A.units+1+30<Yy;lia) rx hx r hs hd w (by simpa using hw)) ⟨.bl _,H,I,rfl,?_⟩;rw[show its.toArray.any (kh its ds dx)=its.any (kh its ds dx) by simp,qH (by rw[←r.length,←hs.length])];exact q
noncomputable def Ms:U->Option (List U)
 | .lst us=>some us
 | .tup us=>some us
 |_=>none
noncomputable def O6 (f:Bool->Bool):U->U->R U:=λu w=>match rO u,(Ms w).bind lL with
 |some dx,some ds=>if (ds.all λd=>decide (eQ d<=30))=true then .ok (.bl (f (ds.any λd=>jP d dx))) else .stk
 |_,_=>.stk
theorem Av {f:Bool->Bool}:fG K (Mq K f) .S (O6 f):=λA H x y u w z Q hx hy mu e q=>by
 unfold O6 at e;split at e
 ·rename_i dx ds h1 h2;split at e
  ·rename_i hd;cases e;cases w with
   |lst us=>
    unfold Pk at hy;obtain⟨a,xs,rfl,h3,l1,r1⟩:=hy;exact⟨a,xs,ds,dx,rfl,.inl (f7.of h3),vY hx h1,lq r1 h2,λd m=>of_decide_eq_true (WR.mp hd d m),q _ H (aY.refl _) (show Rp K H A _ _ from o5)⟩
   |tup us=>
    unfold Pk at hy;obtain⟨a,xs,rfl,h3,l1,r1⟩:=hy;exact⟨a,xs,ds,dx,rfl,.inr (gK.of h3),vY hx h1,lq r1 h2,λd m=>of_decide_eq_true (WR.mp hd d m),q _ H (aY.refl _) (show Rp K H A _ _ from o5)⟩
   |_=>cases h2
  ·cases e
 ·cases e
end L2
namespace L2
open Hc.Dw Hc.Ts
noncomputable def O7:U->U->R Bool
 | .int a,.int b=>.ok (a==b)
 | .bl a,.bl b=>.ok (a==b)
 | .str a,.str b=>.ok (a==b)
 |_,_=>.stk
noncomputable def R0 (f:Bool->Bool):U->U->R U:=λu w=>(O7 u w).bind λb=>.ok (.bl (f b))
end L2
namespace L2
section
variable {A:Xh}{k:List U}{xs:List (List U×WT×WB)}{r:WB}
theorem O8 (hr:(cc prog w).room A)(hk:(cc prog w).is s.heap k b)(hd:s.heap.DictOfH (cc prog w) a xs)(hz:xs.length<=WE)
  (h1:∀p,abP xs k=some p->Q p.2 {s with toks:=s.toks+DF (.tup k)})
  (h2:abP xs k=none->∀h',h'.DictOfH (cc prog w) a (storedH xs k b r)->YD a s.heap h'->Q r {s with heap:=h',toks:=s.toks+DF (.tup k)}) :
  WU (W7 prog w) A (dictSetDefault a (.ref b) r) Q E s:=by
 obtain⟨o,es,ep,ho,he,hdat,hl,hi,hn⟩:=hd;unfold dictSetDefault;refine X4 (Wq ((cc prog w).pyHash hr hk (Wq (wpAny_dictFind_heap hr hk ho hdat hl hi hn (λS1=>?_) (λj p hj=>?_)))))
 ·have nk:∀x∈xs,x.1≠k:=λx hx hc=>by
   obtain⟨j,hj⟩:=List.getElem?_of_mem hx;obtain⟨x1,x2⟩:=x;dsimp only at hc;subst hc;exact S1 j x2 hj
  have e0:abP xs k=none:=by
   unfold abP;rw[aaB,aav];intro x hx hc;exact nk x hx (of_decide_eq_true hc)
  refine Wq (YQ (Wq (wpAny_updateDictKeys ho hdat (Wt ?_) (by rw[size_of_entries hl];exact hz) (by simp))));have hs:=XJ s.heap a (Obj.mapDictKeys λx=>x.push {hash:=(cc prog w).hash k,key:=.ref b,val:=r});have hg:=Yh (h:=s.heap) (Obj.mapDictKeys λx=>x.push {hash:=(cc prog w).hash k,key:=.ref b,val:=r}) ho (by
   obtain⟨c,d,dt,sl⟩:=o;cases hdat;obtain⟨h1,_⟩:=he;cases h1;rfl)
  have Tw:storedH xs k b r=xs++[(k,b,r)]:=by unfold storedH;rw[e0];rfl
  refine h2 e0 _ ⟨_,es.push {hash:=(cc prog w).hash k,key:=.ref b,val:=r},ep+1,hg,?_,?_,?_,?_,?_⟩ hs
  ·obtain⟨c,d,dt,sl⟩:=o;cases hdat;exact he
  ·obtain⟨c,d,dt,sl⟩:=o;cases hdat;rfl
  ·rw[Tw,YT,hl,Ya];rfl
  ·rw[Tw];intro x hx;rcases WW.mp hx with hx|hx
   ·exact (cc prog w).keeps (hi x hx) ho hdat hs
   ·rw[WZ] at hx;subst hx;exact (cc prog w).keeps hk ho hdat hs
  ·rw[Tw,Ya,YB];refine⟨hn,XB _ _,λx hx y hy=>?_⟩;rw[WQ,Yg,WZ] at hy;subst hy;obtain⟨z,hz,rfl⟩:=Xp.mp hx;exact nk z hz
 ·have e1:abP xs k=some p:=by
   unfold abP;have hm:(k,p)∈xs:=Xw hj;cases hf:xs.find? (λx=>decide (x.1=k)) with
   |none=>
    rw[aav] at hf;exact absurd (hG rfl) (hf _ hm)
   |some y=>
    have y0:=List.find?_some hf;have y1:y.1=k:=of_decide_eq_true y0;have y2:=List.mem_of_find?_eq_some hf;rw[←vt hn _ hm _ y2 y1.symm];rfl
  refine Wq (aaJ ho hdat ?_);rw[entry_at hl,hj];exact Wq (YQ (Wt (h1 p e1)))
theorem wF (lo:(a==YN)=false):MeetsIn prog w (Builtin.«dict.setdefault» ⟨[.ref a,.ref b,r],[]⟩) λA R s=>(cc prog w).room A.in1/\∃k xs,(cc prog w).is s.heap k b/\s.heap.DictOfH (cc prog w) a xs/\xs.length<=WE/\
  (∀p,abP xs k=some p->R (.ok (.ret p.2)) {s with toks:=s.toks+DF (.tup k)})/\
  (abP xs k=none->∀h',h'.DictOfH (cc prog w) a (storedH xs k b r)->YD a s.heap h'->R (.ok (.ret r)) {s with heap:=h',toks:=s.toks+DF (.tup k)}):=by
 rintro A R s ⟨hr,k,xs,hk,hd,hz,h1,h2⟩;unfold Builtin.«dict.setdefault»;refine Wq ?_;unfold Builtin.Dict.keyAndDefault;refine Wq (wpAny_notOrdered_dict hd.typeIs (Wt ?_));dsimp only;rw[hU (by rw[lo];exact WA)];exact Wq (O8 hr hk hd hz (λp e=>Wt (h1 p e)) λe h' d' hs=>Wt (h2 e h' d' hs))
end
end L2
namespace L2
section
variable {d:V}{r:WB}{k:List U}{A:Xh}
theorem Di (k:List U){xs:List (List U×WT×WB)}(p:abk Lx es xs):g8 es k=none↔abP xs k=none:=by
 have:=(kq k p).isSome_eq;rw[Option.isSome_map] at this;cases h1:g8 es k<;>cases h2:abP xs k<;>rw[h1,h2] at this<;>simp at this<;>simp
theorem Gu (hu:A.units+64<Yy)(I:aN X pins σ H s)(g:fF H a es)(kb:zC H k b)(hz:es.length<=WE)(rd:bu d r)(h1:∀v w' s',g8 es k=some v->aN X pins σ H s'->bu v w'->Q w' s')(h2:g8 es k=none->∀ep s',aN X pins σ (cY H a (DN a ep (zD es k b d))) s'->Q r s') :
  WU (W7 X.prog X.w) A (call (.builtin "dict.setdefault") [.ref a,.ref b,r]) Q E s:=by
 obtain⟨xs,rel,dd⟩:=g.of I.hok;refine call_meetsIn aa4 dd.typeIs PySem.F.entry_dict_setdefault (PySem.F.args_dict_setdefault_3 _ _ _) (wF (g.lo I.hok)) ⟨Ez hu,k,xs,kb.tk I.hok,dd,by rw[←Paired.length rel];exact hz,λp e=>?_,λe h' VD hs=>?_⟩
 ·have:=kq k rel;rw[e] at this;cases hv:g8 es k with
  |none=>rw[hv] at this;exact this.elim
  |some v=>rw[hv] at this;exact h1 v _ _ hv (I.tok _) this
 ·obtain⟨q,ds,ep,hq,e2,e3,e4,_,_⟩:=VD;refine h2 ((Di k rel).mpr e) ep _ ?_;exact Hy I g.mut hs ⟨q,hq⟩ ⟨⟨g.lo I.hok,q,ds,_,hq,e2,e3,Ey k rd rel,e4⟩,⟨q,hq⟩,λg1 g2 ⟨l,o,ds,xs,z1,z2⟩ kp=>⟨l,o,ds,xs,kp _ z1,z2⟩⟩
end
def O9 (td ty tx:TE):TE:=λσ H Q=>td σ H λx H1=>∃a,x=.ref a/\Oh H1 a/\ty σ H1 λy H2=>tx σ H2 λz H3=>∃es k b,fF H3 a es/\y=.ref b/\zC H3 k b/\es.length<=WE/\(∀v,g8 es k=some v->Q v H3)/\(g8 es k=none->∀ep,Q z (cY H3 a (DN a ep (zD es k b z))))
section
variable {o e f:Yv}{gR cpos:Pos}{td ty tx:TE}
theorem IF (hu:X.A.units+64<Yy)(ho:PE X o td)(he:PE X e ty)(hf:PE X f tx)(m:M2 X o "setdefault" gR e f cpos):PE X (.Call (.Attribute o "setdefault" gR) [e,f] [] cpos) (O9 td ty tx):=by
 intro pins s σ H Q I h;refine wpAny_Call_method m.base m.few m.line PySem.F.plainAttrs_dict aa4 PySem.F.type_dict_setdefault (eE (ho pins s σ H _ I h) λu s1 ⟨x,H1,I1,rx,a,ex,d,q1⟩=>?_);subst ex;obtain rfl:u=Value.ref a:=rx;obtain⟨t1,t2⟩:=Oi I1 d;refine⟨t1,t2,?_⟩;rw[m.trees];refine Calls.callWith_builtin rfl (Calls.evalArgs_plain (abp (eE (he pins s1 σ H1 _ I1 q1) λiv s2 ⟨y,H2,I2,ry,q2⟩=>
  abp (eE (hf pins s2 σ H2 _ I2 q2) λfv s3 ⟨z,H3,I3,rz,es,k,b,g,ey,kb,hz,q3,q4⟩=>Calls.spliced_nil ?_))))
 subst ey;cases ry;exact Gu hu I3 g kb hz rz (λv w' s' hv I' rv=>⟨v,H3,I',rv,q3 v hv⟩) λhv ep s' I'=>⟨z,_,I',rz,q4 hv ep⟩
end
end L2
namespace L2
def iP (P:U->V->List WT->Prop):List U->List V->List WT->Prop
 | [],vs,L=>vs=[]/\L=[]
 |u::us,vs,L=>∃v r L1 L2,vs=v::r/\L=L1++L2/\P u v L1/\iP P us r L2
def Dp (K:Wv)(H:Hp)(A:WT->Prop):Nat->U->V->List WT->Prop
 |0,u,v,L=>∃a us xs,v=.ref a/\u=.lst us/\L=[a]/\H a=some (.lst xs)/\us.length<=WE/\aO K H A us xs
 |n+1,u,v,L=>∃a us es M,v=.ref a/\u=.dct (es.map λp=>.tup p.1) us/\L=a::M/\fF H a es/\(es=[]->H a=some (.dK []))/\us.length<=WE/\iP (Dp K H A n) us (es.map (·.2.2)) M
section
variable {A':WT->Prop}
theorem iP.imp {P P':U->V->List WT->Prop}:∀{us:List U} {vs:List V} {L:List WT},(∀u v L',(∀b∈L',b∈L)->P u v L'->P' u v L')->iP P us vs L->iP P' us vs L
 | [],_,_,_,h=>h
 |u::us,vs,L,f,h=>by
  obtain⟨v,r,L1,L2,e1,e2,p,q⟩:=h;subst e2;exact⟨v,r,L1,L2,e1,rfl,f u v L1 (λb hb=>W8 _ hb) p,iP.imp (λu v L' s=>f u v L' λb hb=>WL _ (s b hb)) q⟩
theorem iP.length {P:U->V->List WT->Prop}:∀{us:List U} {vs:List V} {L:List WT},iP P us vs L->us.length=vs.length
 | [],_,_,⟨e,_⟩=>by subst e;rfl
 |u::us,_,_,⟨v,r,_,_,e,_,_,q⟩=>by subst e;rw[Ww,Ww,q.length]
theorem iP.mem {P:U->V->List WT->Prop}:∀{us:List U} {vs:List V} {L:List WT} {b:WT},iP P us vs L->b∈L->∃u v L',P u v L'/\b∈L'
 | [],_,_,b,⟨_,e⟩,h=>by subst e;cases h
 |u::us,_,_,b,⟨v,r,L1,L2,_,e,p,q⟩,h=>by
  subst e;rcases WW.mp h with h|h
  ·exact⟨u,v,L1,p,h⟩
  ·exact q.mem h
theorem fF.mu (g:fF H a es):Mu (H a):=by
 rcases g.ob with⟨ep,q⟩|⟨_,q⟩<;>(rw[q];trivial)
theorem Dp.mu:∀{n:Nat} {u:U} {v:V} {L:List WT} {b:WT},Dp K H A n u v L->b∈L->Mu (H b)
 |0,u,v,L,b,h,hb=>by
  obtain⟨a,us,xs,_,_,e,q,_⟩:=h;subst e;rw[WZ] at hb;subst hb;rw[q];trivial
 |n+1,u,v,L,b,h,hb=>by
  obtain⟨a,us,es,M,_,_,e,g,_,_,al⟩:=h;subst e;rcases WK.mp hb with rfl|hb
  ·exact g.mu
  ·obtain⟨u',v',L',p,hb⟩:=al.mem hb;exact Dp.mu p hb
theorem fF.re (g:fF H a es)(ka:H' a=H a)(t:∀b ys,H b=some (.tup ys)->H' b=some (.tup ys)):fF H' a es:=⟨by rw[ka];exact g.ob,g.nd,λe he=>(g.key e he).to t⟩
structure zh (A A':WT->Prop)(H H':Hp):Prop where
 mu:∀b,A b->Mu (H b)
 ex:fh A H H'
 nw:∀b,A' b->A b\/H b=none
theorem zh.tup (g:zh A A' H H'):∀b ys,H b=some (.tup ys)->H' b=some (.tup ys):=λb ys q=>g.ex b _ (λz=>by have:=g.mu b z;rw[q] at this;exact this) q
theorem Dp.re (g:zh A A' H H'):∀{n:Nat} {u:U} {v:V} {L:List WT},(∀b∈L,H' b=H b)->Dp K H A n u v L->Dp K H' A' n u v L
 |0,u,v,L,k,h=>by
  obtain⟨a,us,xs,e1,e2,e,q,l,r⟩:=h;subst e;exact⟨a,us,xs,e1,e2,rfl,by rw[k a Wz];exact q,l,r.re g.mu g.ex g.nw⟩
 |n+1,u,v,L,k,h=>by
  obtain⟨a,us,es,M,e1,e2,e,d,z,l,al⟩:=h;subst e;have ka:=k a Wz;exact⟨a,us,es,M,e1,e2,rfl,d.re ka g.tup,(by rw[ka];exact z),l,al.imp λu v L' s p=>Dp.re g (λb hb=>k b (WD _ (s b hb))) p⟩
theorem iP.rps {P:U->V->List WT->Prop}:∀{us:List U} {vs:List V} {L:List WT},(∀u v L',(∀b∈L',b∈L)->P u v L'->Rp K H A' u v)->iP P us vs L->aO K H A' us vs
 | [],_,_,_,⟨e,_⟩=>by subst e;exact aO.nil
 |u::us,_,_,f,⟨v,r,L1,L2,e1,e2,p,q⟩=>by
  subst e1 e2;exact aO.cons (f u v L1 (λb hb=>W8 _ hb) p) (q.rps λu v L' s=>f u v L' λb hb=>WL _ (s b hb))
theorem fF.at (d:fF H a es)(z:es=[]->H a=some (.dK [])):CD H a (es.map λp=>.tup p.1) (es.map (·.2.2)):=by
 by_cases hz:es=[]
 ·subst hz;exact .inl ⟨[],z rfl,rfl,rfl⟩
 ·exact .inr ⟨es,hz,d,rfl,rfl⟩
theorem Dp.rp:∀{n:Nat} {u:U} {v:V} {L:List WT},(∀b,A' b->A b/\b∉L)->Dp K H A n u v L->Rp K H A' u v
 |0,u,v,L,k,h=>by
  obtain⟨a,us,xs,e1,e2,e,q,l,r⟩:=h;subst e e2;unfold Rp;exact⟨a,xs,e1,λz=>(k a z).2 Wz,q,l,r.mono λb z=>(k b z).1⟩
 |n+1,u,v,L,k,h=>by
  obtain⟨a,us,es,M,e1,e2,e,d,z,l,al⟩:=h;subst e e2;unfold Rp;exact⟨a,es.map (·.2.2),e1,λy=>(k a y).2 Wz,d.at z,l,al.rps λu v L' s p=>Dp.rp (λb y=>⟨(k b y).1,λw=>(k b y).2 (WD _ (s b w))⟩) p⟩
structure At (K:Wv)(H:Hp)(A:WT->Prop)(n:Nat)(v:V)(L:List WT)(m:Nat)(u':U)(v':V)(L':List WT)(F:U->U):Prop where
 sub:∀b∈L',b∈L
 nod:L.Nodup
 nod':L'.Nodup
 dp:Dp K H A m u' v' L'
 all:Dp K H A n (F u') v L
 put:∀H' A' w L3,zh A A' H H'->(∀b∈L,b∉L'->H' b=H b)->Dp K H' A' m w v' L3->L3.Nodup->(∀b∈L',b∈L3)->(∀b∈L3,b∈L'\/H b=none)->∃L4,Dp K H' A' n (F w) v L4/\L4.Nodup/\(∀b∈L,b∈L4)/\(∀b∈L3,b∈L4)/\(∀b∈L4,b∈L3\/b∈L)
theorem At.root (h:Dp K H A n u v L)(nd:L.Nodup):At K H A n v L n u v L id:=⟨λb h=>h,nd,nd,h,h,λH' A' w L3 g k d n3 s1 s2=>⟨L3,d,n3,s1,λb hb=>hb,λb hb=>.inl hb⟩⟩
theorem Dp.ne (h:Dp K H A n u v L)(hb:b∈L):H b≠none:=λe=>by
 have:=h.mu hb;rw[e] at this;exact this
theorem zh.trans {A2:WT->Prop}(g:zh A A' H H')(un:∀b,H' b=none->H b=none)(g':zh A' A2 H' H2):zh A A2 H H2:=
 ⟨g.mu,λb o nb e=>g'.ex b o (λz=>by rcases g.nw b z with y|y;exact nb y;rw[e] at y;cases y) (g.ex b o nb e),λb z=>by
  rcases g'.nw b z with y|y
  ·exact g.nw b y
  ·exact .inr (un b y)⟩
theorem At.set {L3:List WT}{w:U}(h:At K H A n v L m u' v' L' F)(g:zh A A' H H')(k:∀b∈L,b∉L'->H' b=H b)(un:∀b,H' b=none->H b=none)(d:Dp K H' A' m w v' L3)(n3:L3.Nodup)(s1:∀b∈L',b∈L3)(s2:∀b∈L3,b∈L'\/H b=none):∃L4,At K H' A' n v L4 m w v' L3 F/\(∀b∈L,b∈L4)/\(∀b∈L4,b∈L3\/b∈L):=by
 obtain⟨L4,d4,n4,z1,z3,z2⟩:=h.put H' A' w L3 g k d n3 s1 s2;refine⟨L4,⟨z3,n4,n3,d,d4,λH2 A2 w2 L5 g2 k2 d5 n5 t1 t2=>?_⟩,z1,z2⟩;obtain⟨L6,d6,n6,y1,y3,y2⟩:=h.put H2 A2 w2 L5 (g.trans un g2) (λb hb nb=>by
   rw[k2 b (z1 b hb) (λy=>by
    rcases s2 b y with y|y
    ·exact nb y
    ·exact h.all.ne hb y),k b hb nb]) d5 n5 (λb hb=>t1 b (s1 b hb)) (λb hb=>by
   rcases t2 b hb with y|y
   ·exact s2 b y
   ·exact .inr (un b y))
 refine⟨L6,d6,n6,λb hb=>?_,y3,λb hb=>(y2 b hb).imp id (z1 b)⟩;rcases z2 b hb with y|y
 ·exact y3 b (t1 b y)
 ·exact y1 b y
theorem At.keep (h:At K H A n v L m u' v' L' F)(g:zh A A' H H')(k:∀b∈L,H' b=H b)(un:∀b,H' b=none->H b=none):At K H' A' n v L m u' v' L' F:=
 ⟨h.sub,h.nod,h.nod',h.dp.re g λb hb=>k b (h.sub b hb),h.all.re g k,λH2 A2 w2 L5 g2 k2 d5 n5 t1 t2=>h.put H2 A2 w2 L5 (g.trans un g2) (λb hb nb=>by rw[k2 b hb nb,k b hb]) d5 n5 t1 λb hb=>(t2 b hb).imp id (un b)⟩
theorem qI {k w:U}:∀{ks us:List U},k∉ks->ks.length=us.length->aaf (λk' u=>if k'=k then w else u) ks us=us
 | [],[],_,_=>rfl
 |x::ks,y::us,h,l=>by
  rw[YZ,hU (λe=>h (by rw[e];exact Wz)),qI (λz=>h (WD _ z)) (by simpa using l)]
noncomputable abbrev iQ (es:List (List U×WT×V)):List U:=es.map λp=>.tup p.1
theorem wG {k:List U}:U.tup k∈iQ es↔k∈es.map (·.1):=by
 rw[Xp,Xp];constructor
 ·rintro⟨p,hp,e⟩;exact⟨p,hp,mP.mp e⟩
 ·rintro⟨p,hp,e⟩;exact⟨p,hp,by rw[e]⟩
theorem iP.find {m:Nat}{k:List U}{x:V}:∀{es:List (List U×WT×V)} {us:List U} {M:List WT},iP (Dp K H A m) us (es.map (·.2.2)) M->(es.map (·.1)).Nodup->M.Nodup->g8 es k=some x->
  ∃u' M',fx (iQ es) us (.tup k)=some u'/\k∈es.map (·.1)/\aaf (λk' u=>if k'=.tup k then u' else u) (iQ es) us=us/\(∀b∈M',b∈M)/\M'.Nodup/\Dp K H A m u' x M' /\
   ∀H' A' w M3,zh A A' H H'->(∀b∈M,b∉M'->H' b=H b)->Dp K H' A' m w x M3->M3.Nodup->(∀b∈M',b∈M3)->(∀b∈M3,b∈M'\/H b=none)->
    ∃M4,iP (Dp K H' A' m) (aaf (λk' u=>if k'=.tup k then w else u) (iQ es) us) (es.map (·.2.2)) M4/\M4.Nodup/\(∀b∈M,b∈M4)/\(∀b∈M3,b∈M4)/\(∀b∈M4,b∈M3\/b∈M)
 | [],_,_,_,_,_,e=>by cases e
 |e::es,us,M,al,nd,nM,hv=>by
  cases us with
  |nil=>obtain⟨z,_⟩:=al;cases z
  |cons u us=>
   obtain⟨v,r,L1,L2,e1,e2,p,q⟩:=al;rw[WQ] at e1;cases e1;subst e2;rw[WQ] at nd;obtain⟨Q0,TH⟩:=XO.mp nd;obtain⟨n1,n2,n3⟩:=YB.mp nM;have ql:(iQ es).length=us.length:=by rw[q.length,WC,WC]
   unfold g8 at hv;rw[X8] at hv;unfold iQ;rw[WQ];unfold fx;by_cases c:e.1=k
   ·rw[hG c] at hv;cases hv;have nk:U.tup k∉iQ es:=λz=>Q0 (by rw[c];exact wG.mp z);refine⟨u,L1,by rw[hV (by rw[c])],by rw[←c];exact Wz,by rw[YZ,ite_self];exact congrArg _ (qI nk ql),λb hb=>W8 _ hb,n1,p,λH' A' w M3 g kk d5 n5 t1 t2=>?_⟩;rw[YZ,hV (by rw[c]),qI nk ql];have dj:∀b∈L2,b∉L1:=λb hb z=>n3 b z b hb rfl;refine⟨M3++L2,⟨_,_,M3,L2,rfl,rfl,d5,q.imp λu v L' s y=>y.re g λb hb=>kk b (WL _ (s b hb)) (dj b (s b hb))⟩,?_,λb hb=>?_,λb hb=>W8 _ hb,λb hb=>?_⟩
    ·refine YB.mpr ⟨n5,n2,λa ha b hb eq=>?_⟩;subst eq;rcases t2 a ha with y|y
     ·exact dj a hb y
     ·obtain⟨_,_,_,z1,z2⟩:=q.mem hb;exact z1.ne z2 y
    ·rcases WW.mp hb with y|y
     ·exact W8 _ (t1 b y)
     ·exact WL _ y
    ·exact (WW.mp hb).imp id (λy=>WL _ y)
   ·rw[hJ c] at hv;obtain⟨u',M',y1,y2,y3,y4,y5,y6,y7⟩:=iP.find q TH n2 hv;have c':¬U.tup e.1=U.tup k:=λz=>c (mP.mp z);have dj:∀b∈L1,b∉L2:=λb hb z=>n3 b hb b z rfl;refine⟨u',M',by rw[hU c'];exact y1,WD _ y2,by rw[YZ,hU c',y3],λb hb=>WL _ (y4 b hb),y5,y6,λH' A' w M3 g kk d5 n5 t1 t2=>?_⟩;obtain⟨M4,z1,z2,z3,z4,z5⟩:=y7 H' A' w M3 g (λb hb=>kk b (WL _ hb)) d5 n5 t1 t2;rw[YZ,hU c'];refine⟨L1++M4,⟨_,_,L1,M4,rfl,rfl,p.re g λb hb=>kk b (W8 _ hb) λz=>dj b hb (y4 b z),z1⟩,?_,λb hb=>?_,λb hb=>WL _ (z4 b hb),λb hb=>?_⟩
    ·refine YB.mpr ⟨n1,z2,λa ha b hb eq=>?_⟩;subst eq;rcases z5 a hb with y|y
     ·rcases t2 a y with x|x
      ·exact dj a ha (y4 a x)
      ·exact p.ne ha x
     ·exact dj a ha y
    ·rcases WW.mp hb with y|y
     ·exact W8 _ y
     ·exact WL _ (z3 b y)
    ·rcases WW.mp hb with y|y
     ·exact .inr (W8 _ y)
     ·exact (z5 b y).imp id λz=>WL _ z
theorem At.child {M:List WT}{k:List U}{x:V}(h:At K H A n v L (m+1) (.dct (iQ es) us) (.ref a) (a::M) F)(d:fF H a es)(z:es=[]->H a=some (.dK []))(l:us.length<=WE)(al:iP (Dp K H A m) us (es.map (·.2.2)) M)(hv:g8 es k=some x) :
  ∃u' L2,fx (iQ es) us (.tup k)=some u'/\F (.dct (kA (iQ es) (.tup k)) (j5 (iQ es) us (.tup k) u'))=F (.dct (iQ es) us)/\At K H A n v L m u' x L2 (λw=>F (.dct (kA (iQ es) (.tup k)) (j5 (iQ es) us (.tup k) w))):=by
 obtain⟨na,nM⟩:=XO.mp h.nod';obtain⟨u',M',y1,y2,y3,y4,y5,y6,y7⟩:=al.find d.nd nM hv;have hk:U.tup k∈iQ es:=wG.mpr y2;have e1:kA (iQ es) (.tup k)=iQ es:=hV hk;have e2:∀w,j5 (iQ es) us (.tup k) w=aaf (λk' u=>if k'=.tup k then w else u) (iQ es) us:=λw=>hV hk;have e3:F (.dct (kA (iQ es) (.tup k)) (j5 (iQ es) us (.tup k) u'))=F (.dct (iQ es) us):=by rw[e1,e2,y3]
 refine⟨u',M',y1,e3,⟨λb hb=>h.sub b (WD _ (y4 b hb)),h.nod,y5,y6,by rw[e3];exact h.all,λH' A' w L3 g kk d5 n5 t1 t2=>?_⟩⟩;have ka:H' a=H a:=kk a (h.sub a Wz) λq=>na (y4 a q);obtain⟨M4,z1,z2,z3,z4,z5⟩:=y7 H' A' w L3 g (λb hb nb=>kk b (h.sub b (WD _ hb)) nb) d5 n5 t1 t2;have n4:(a::M4).Nodup:=XO.mpr ⟨λq=>by
  rcases z5 a q with y|y
  ·rcases t2 a y with x|x
   ·exact na (y4 a x)
   ·exact h.dp.ne Wz x
  ·exact na y,z2⟩
 obtain⟨L4,w1,w2,w3,w4,w5⟩:=h.put H' A' (.dct (iQ es) (j5 (iQ es) us (.tup k) w)) (a::M4) g (λb hb nb=>kk b hb λq=>nb (WD _ (y4 b q)))
  ⟨a,_,es,M4,rfl,rfl,rfl,d.re ka g.tup,(by rw[ka];exact z),by rw[e2,abc];lia,by rw[e2];exact z1⟩ n4 (λb hb=>by
   rcases WK.mp hb with rfl|hb
   ·exact Wz
   ·exact WD _ (z3 b hb)) (λb hb=>by
   rcases WK.mp hb with rfl|hb
   ·exact .inl Wz
   ·rcases z5 b hb with y|y
    ·exact (t2 b y).imp (λq=>WD _ (y4 b q)) id
    ·exact .inl (WD _ y))
 refine⟨L4,by rw[e1];exact w1,w2,w3,λb hb=>w4 b (WD _ (z4 b hb)),λb hb=>?_⟩;rcases w5 b hb with y|y
 ·rcases WK.mp y with rfl|y
  ·exact .inr (h.sub b Wz)
  ·rcases z5 b y with x|x
   ·exact .inl x
   ·exact .inr (h.sub b (WD _ x))
 ·exact .inr y
theorem iP.snoc {P:U->V->List WT->Prop}(p:P u v L'):∀{us:List U} {vs:List V} {L:List WT},iP P us vs L->iP P (us++[u]) (vs++[v]) (L++L')
 | [],_,_,⟨e1,e2⟩=>by subst e1 e2;exact⟨v,[],L',[],rfl,(Xj _).symm,p,rfl,rfl⟩
 |w::us,_,_,⟨x,r,L1,L2,e1,e2,q,al⟩=>by subst e1 e2;exact⟨x,r++[v],L1,L2++L',rfl,W4 _ _ _,q,al.snoc p⟩
theorem Gv {k:List U}(h:g8 es k=none):k∉es.map (·.1):=λz=>by
 obtain⟨e,he,rfl⟩:=Xp.mp z;unfold g8 at h;rw[aaB,aav] at h;exact h e he (hG rfl)
theorem Dj {k:List U}(h:g8 es k=none):g8 (es++[(k,b,v)]) k=some v:=by
 unfold g8 at h ⊢;rw[aaB] at h;rw[List.find?_append,h];show Option.map _ (List.find? _ _)=_;rw[X8,hG rfl];rfl
theorem Dk {k w:U}(h:k∉ks)(l:ks.length=us.length):aaf (λk' u=>if k'=k then w else u) (ks++[k]) (us++[u])=us++[w]:=by
 rw[List.zipWith_append l,qI h l];show _++[if k=k then w else u]=_;rw[hV rfl]
theorem yC {k:U}:∀{ks us:List U},k∉ks->fx ks us k=none
 | [],us,_=>by unfold fx;rfl
 |x::ks,[],_=>by unfold fx;rfl
 |x::ks,y::us,h=>by unfold fx;rw[hU (λe=>h (by rw[e];exact Wz))];exact yC λz=>h (WD _ z)
theorem vx {k u:U}:∀{ks us:List U},k∉ks->ks.length=us.length->fx (ks++[k]) (us++[u]) k=some u
 | [],[],_,_=>by show fx [k] [u] k=_;unfold fx;rw[hV rfl]
 |x::ks,y::us,h,l=>by show fx (x::(ks++[k])) (y::(us++[u])) k=_;unfold fx;rw[hU (λe=>h (by rw[e];exact Wz))];exact vx (λz=>h (WD _ z)) (by simpa using l)
theorem At.new {H0:Hp}{c:WT}{M:List WT}{k:List U}{u0:U}(h:At K H0 A n v L (m+1) (.dct (iQ es) us) (.ref a) (a::M) F)(d:fF H0 a es)(l:us.length<WE)(al:iP (Dp K H0 A m) us (es.map (·.2.2)) M)(mu:∀b,A b->Mu (H0 b))(aa:∀b∈L,A b)(s0:aY H0 H)(nc:H0 c=none)(kb:zC H k b)(hv:g8 es k=none)(h':H'=cY H a (DN a ep (zD es k b (.ref c))))(dc:∀H',H' c=H c->(∀b,Mu (H b)\/H' b=H b)->Dp K H' (λb=>A b\/b=c) m u0 (.ref c) [c]) :
  ∃L4 L2,fx (iQ es) us (.tup k)=none/\At K H' (λb=>A b\/b=c) n v L4 m u0 (.ref c) L2 (λw=>F (.dct (kA (iQ es) (.tup k)) (j5 (iQ es) us (.tup k) w)))/\(∀b∈L,b∈L4)/\(∀b∈L4,b∈L\/b=c)/\zh A (λb=>A b\/b=c) H0 H':=by
 have nk:=Gv hv;have Qz:U.tup k∉iQ es:=λz=>nk (wG.mp z);have ll:(iQ es).length=us.length:=by rw[al.length,WC,WC]
 have pe:zD es k b (.ref c)=es++[(k,b,.ref c)]:=by unfold zD;rw[hv];rfl
 rw[pe] at h';have aA:A a:=aa a (h.sub a Wz);have ha:H' a=some (DN a ep (es++[(k,b,.ref c)])):=by rw[h'];unfold cY;rw[hV rfl]
 have hb:∀b,b≠a->H' b=H b:=λb nb=>by rw[h'];unfold cY;rw[hU nb]
 have ca:c≠a:=λe=>by
  have:=mu a aA;rw[←e,nc] at this;exact this
 have cM:c∉M:=λz=>h.all.ne (h.sub c (WD _ z)) nc;obtain⟨na,nM⟩:=XO.mp h.nod';have g:zh A (λb=>A b\/b=c) H0 H':=⟨mu,λb o nb e=>by rw[hb b (λz=>nb (z▸aA))];exact s0 b o e,λb z=>z.imp id λe=>by rw[e];exact nc⟩;have un:∀b,H' b=none->H0 b=none:=λx e=>by
  by_cases xa:x=a
  ·rw[xa,ha] at e;cases e
  ·rw[hb x xa] at e;cases q:H0 x with
   |none=>rfl
   |some o=>rw[s0 x o q] at e;cases e
 have kL:∀b∈L,b≠a->H' b=H0 b:=λx hx xa=>by
  rw[hb x xa];cases q:H0 x with
  |none=>exact absurd q (h.all.ne hx)
  |some o=>exact s0 x o q
 have d2:fF H' a (es++[(k,b,.ref c)]):=⟨.inl ⟨ep,ha⟩,by
  rw[Ya,YB];refine⟨d.nd,XB _ _,λx hx y hy=>?_⟩;rw[WQ,Yg,WZ] at hy;subst hy;exact λe=>nk (e▸hx),λe he=>by
  rcases WW.mp he with he|he
  ·exact (d.key e he).to g.tup
  ·rw[WZ] at he;subst he;refine kb.to λx ys q=>?_;rw[hb x (λz=>?_)]
   ·exact q
   ·have:=mu a aA;obtain⟨o,e⟩:=this.ex;rw[e] at this;rw[z,s0 a o e] at q;cases q;exact this⟩
 have em:(es++[(k,b,V.ref c)]).map (·.2.2)=es.map (·.2.2)++[.ref c]:=by rw[Ya];rfl
 have ek:iQ (es++[(k,b,V.ref c)])=iQ es++[.tup k]:=by unfold iQ;rw[Ya];rfl
 have Q3:iP (Dp K H' (λb=>A b\/b=c) m) (us++[u0]) ((es++[(k,b,V.ref c)]).map (·.2.2)) (M++[c]):=by
  rw[em];refine iP.snoc (dc H' (hb c ca) λx=>?_) (al.imp λu v L' s p=>p.re g λx hx=>kL x (h.sub x (WD _ (s x hx))) λe=>na (e▸s x hx));by_cases xa:x=a
  ·refine .inl ?_;have:=mu a aA;obtain⟨o,e⟩:=this.ex;rw[xa,s0 a o e,←e];exact this
  ·exact .inr (hb x xa)
 obtain⟨L4,h4,z1,z2⟩:=h.set (w:=.dct (iQ (es++[(k,b,V.ref c)])) (us++[u0])) (L3:=a::(M++[c])) g (λx hx nx=>kL x hx λe=>nx (by rw[e];exact Wz)) un
  ⟨a,_,_,_,rfl,rfl,rfl,d2,(λe=>absurd e (by simp)),by rw[WG];exact l,Q3⟩
  (XO.mpr ⟨λz=>by
   rcases WW.mp z with z|z
   ·exact na z
   ·rw[WZ] at z;exact ca z.symm,YB.mpr ⟨nM,XB _ _,λx hx y hy e=>by
    rw[WZ] at hy;exact cM (hy▸e▸hx)⟩⟩)
  (λx hx=>by
   rcases WK.mp hx with hx|hx
   ·rw[hx];exact Wz
   ·exact WD _ (W8 _ hx))
  (λx hx=>by
   rcases WK.mp hx with hx|hx
   ·rw[hx];exact .inl Wz
   ·rcases WW.mp hx with hx|hx
    ·exact .inl (WD _ hx)
    ·rw[WZ] at hx;rw[hx];exact .inr nc)
 obtain⟨u',L2,y1,y2,y3⟩:=h4.child d2 (λe=>absurd e (by simp)) (by rw[WG];exact l) Q3 (Dj hv);rw[ek,vx Qz ll] at y1;cases y1;have e1:kA (iQ es) (.tup k)=iQ es++[.tup k]:=hU Qz;have e2:∀w,j5 (iQ es) us (.tup k) w=us++[w]:=λw=>hU Qz;have e3:(λw=>F (.dct (kA (iQ (es++[(k,b,V.ref c)])) (.tup k)) (j5 (iQ (es++[(k,b,V.ref c)])) (us++[u0]) (.tup k) w)))=(λw=>F (.dct (kA (iQ es) (.tup k)) (j5 (iQ es) us (.tup k) w))):=by
  funext w;have m:U.tup k∈iQ es++[.tup k]:=WL _ Wz;rw[ek,show kA (iQ es++[.tup k]) (.tup k)=iQ es++[.tup k] from hV m,show j5 (iQ es++[.tup k]) (us++[u0]) (.tup k) w=_ from hV m,Dk Qz ll,e1,e2]
 rw[e3] at y3;refine⟨L4,L2,yC Qz,y3,z1,λx hx=>?_,g⟩;rcases z2 x hx with y|y
 ·rcases WK.mp y with y|y
  ·rw[y];exact .inl (h.sub a Wz)
  ·rcases WW.mp y with y|y
   ·exact .inl (h.sub x (WD _ y))
   ·rw[WZ] at y;exact .inr y
 ·exact .inl y
end
end L2
namespace L2
open Classical in
noncomputable def Pkg.hx (Z:Pkg)(H:Hp)(L:List WT):Pkg:=⟨λb=>Z.A0 b\/b∈L,λb=>if b∈L then H b else Z.B b,Z.a0⟩
section
variable {A':WT->Prop}{ρ':Ev}{σ':St}
theorem pS (h:b∈L):(Z.hx H L).B b=H b:=hV h
theorem cB (h:b∉L):(Z.hx H L).B b=Z.B b:=hU h
structure lB (K:Wv)(G:Gm)(Z:Pkg)(A:WT->Prop)(ρ:Ev)(σ:St)(H:Hp)(i n:Nat)(u:U)(v:V)(L:List WT):Prop where
 at_:σ[i]? = some (some v)
 nod:L.Nodup
 fr:∀b∈L,Z.B b=none/\¬Z.A0 b
 dp:Dp K H A n u v L
 rel:cE K G (Z.hx H L) A (ρ.set i none) σ H
theorem lB.inA (h:lB K G Z A ρ σ H i n u v L)(hb:b∈L):A b:=h.rel.sup b (.inr hb)
theorem IG (h:∀b∈L,H' b=H b):Z.hx H' L=Z.hx H L:=by
 unfold Pkg.hx;congr 1;funext b;by_cases c:b∈L
 ·rw[hV c,hV c,h b c]
 ·rw[hU c,hU c]
theorem lB.kept (h:lB K G Z A ρ σ H i n u v L)(s:aY H H'):∀b∈L,H' b=H b:=λb hb=>by
 cases q:H b with
 |none=>exact absurd q (h.dp.ne hb)
 |some o=>exact s b o q
theorem s9 (m:∀b,A b->Mu (H b))(s:aY H H'):zh A A H H':=⟨m,fh.same s,λb z=>.inl z⟩
theorem wH (s:aY H H'):∀b,H' b=none->H b=none:=λb e=>by
 cases q:H b with
 |none=>rfl
 |some o=>rw[s b o q] at e;cases e
theorem lB.same (h:lB K G Z A ρ σ H i n u v L)(s:aY H H'):lB K G Z A ρ σ H' i n u v L:=
 ⟨h.at_,h.nod,h.fr,h.dp.re (s9 h.rel.mu s) (h.kept s),by rw[IG (h.kept s)];exact h.rel.same s⟩
theorem lB.put (h:lB K G Z A ρ σ H i n u v L)(g:zh A A' H H')(aa:∀b,A b->A' b)(k:∀b,b∉L'->H b≠none->H' b=H b)(nd:L'.Nodup)(s1:∀b∈L,b∈L')(s2:∀b∈L',b∈L\/H b=none)(ia:∀b∈L',A' b)(oa:∀b,A' b->A b\/b∈L')
  (d:Dp K H' A' n u' v L') (e:ρ'.set i none=ρ.set i none):lB K G Z A' ρ' σ H' i n u' v L':=by
 have old:∀b,A b->b∉L->b∉L':=λb ha nb z=>by
  rcases s2 b z with y|y
  ·exact nb y
  ·have:=h.rel.mu b ha;rw[y] at this;exact this
 have ne:∀b,A b->H b≠none:=λb ha e=>by
  have:=h.rel.mu b ha;rw[e] at this;exact this
 have nL:∀b,A b->(Z.hx H L).B b=none->b∉L:=λb ha e z=>by
  rw[pS z] at e;exact ne b ha e
 refine⟨h.at_,nd,λb hb=>?_,d,?_⟩
 ·rcases s2 b hb with y|y
  ·exact h.fr b y
  ·refine⟨?_,λz=>ne b (h.rel.sup b (.inl z)) y⟩;cases q:Z.B b with
   |none=>rfl
   |some o=>
    by_cases c:b∈L
    ·exact absurd y (h.dp.ne c)
    ·have:=h.rel.bas b o (by rw[cB c];exact q);rw[this] at y;cases y
 ·rw[e];exact {
   slot:=λj w hj=>by
    obtain⟨x,x1,x2⟩:=h.rel.slot j w hj;refine⟨x,x1,?_⟩;by_cases c:G.is j=true
    ·rw[hV c] at x2 ⊢;obtain⟨a,e1,e2,e3,e4,e5⟩:=x2;have na:=nL a e2 e3;have Tx:=old a e2 na;refine⟨a,e1,aa a e2,?_,e4.imp (λy z=>y (z.imp id λq=>absurd q Tx)) id,e5.re g.mu g.ex g.nw λo w=>?_⟩
     ·rw[cB Tx];rw[cB na] at e3;exact e3
     ·rw[k a Tx (by rw[w];simp)];exact w
    ·rw[hU c] at x2 ⊢;exact x2.re g.mu g.ex g.nw
   dis:=h.rel.dis
   mu:=λb z=>by
    by_cases c:b∈L'
    ·exact d.mu c
    ·rcases oa b z with y|y
     ·rw[k b c (ne b y)];exact h.rel.mu b y
     ·exact absurd y c
   sup:=λb z=>by
    rcases z with z|z
    ·exact aa b (h.rel.sup b (.inl z))
    ·exact ia b z
   out:=λb z=>by
    by_cases c:b∈L'
    ·exact .inl (.inr c)
    ·rcases oa b z with y|y
     ·rcases h.rel.out b y with q|q
      ·rcases q with q|q
       ·exact .inl (.inl q)
       ·exact absurd (s1 b q) c
      ·rw[cB λz=>c (s1 b z)] at q;exact .inr (by rw[cB c];exact q)
     ·exact absurd y c
   bas:=λb o z=>by
    by_cases c:b∈L'
    ·rw[pS c] at z;exact z
    ·rw[cB c] at z;have cL:b∉L:=λy=>c (s1 b y);have:=h.rel.bas b o (by rw[cB cL];exact z);rw[k b c (by rw[this];simp)];exact this
   io0:=h.rel.io0
   len:=h.rel.len}
theorem cE.hid (q:cE K G Z A ρ σ H)(c:G.is i=true)(hi:G.io=true->i≠0)(h:ρ[i]? = some (some (.dct [] []))):∃a,lB K G Z A ρ σ H i (n+1) (.dct [] []) (.ref a) [a]:=by
 obtain⟨a,h1,h2,h3,h4,h5⟩:=q.own c h;have na:¬Z.A0 a:=by
  rcases h4 with h4|⟨h4,h6⟩
  ·exact h4
  ·exact absurd h6 (hi h4)
 have hk:H a=some (.dK []):=by
  unfold kr at h5;obtain⟨xs,d,_⟩:=h5;rcases d with⟨cC,d1,d2,_⟩|⟨es,d0,_,d2,_⟩
  ·cases cC with
   |nil=>exact d1
   |cons=>cases d2
  ·cases es with
   |nil=>exact absurd rfl d0
   |cons=>cases d2
 have ne:∀j w b,i≠j->G.is j=true->ρ[j]? = some (some w)->σ[j]? = some (some (.ref b))->b≠a:=λj w b n1 cj e1 e2 e=>by
  subst e;exact q.dis i j _ w b c cj n1 h e1 h1 e2
 refine⟨a,h1,XB _ _,λb hb=>?_,⟨a,[],[],[],rfl,rfl,rfl,⟨.inr ⟨rfl,hk⟩,aaN,(λe he=>nomatch he)⟩,λ_=>hk,XU _,rfl,rfl⟩,?_⟩
 ·rw[WZ] at hb;subst hb;exact⟨h3,na⟩
 ·exact {
   slot:=λj w hj=>by
    rcases cZ hj with⟨rfl,e⟩|⟨n1,e⟩
    ·cases e
    ·obtain⟨x,x1,x2⟩:=q.slot j w e;refine⟨x,x1,?_⟩;by_cases cj:G.is j=true
     ·rw[hV cj] at x2 ⊢;obtain⟨b,e1,e2,e3,e4,e5⟩:=x2;subst e1;have nb:=ne j w b n1 cj e x1;have UD:b∉[a]:=λz=>nb (WZ.mp z);exact⟨b,rfl,e2,by rw[cB UD];exact e3,e4.imp (λy z=>y (z.elim id λq=>absurd q UD)) id,e5⟩
     ·rw[hU cj] at x2 ⊢;exact x2
   dis:=(q.drop i).dis
   mu:=q.mu
   sup:=λb z=>by
    rcases z with z|z
    ·exact q.sup b z
    ·rw[WZ] at z;subst z;exact h2
   out:=λb z=>by
    by_cases y:b∈[a]
    ·exact .inl (.inr y)
    ·exact (q.out b z).imp (λw=>.inl w) λw=>by rw[cB y];exact w
   bas:=λb o z=>by
    by_cases y:b∈[a]
    ·rw[pS y] at z;exact z
    ·rw[cB y] at z;exact q.bas b o z
   io0:=q.io0
   len:=by rw[XA];exact q.len}
theorem lB.un (h:lB K G Z A ρ σ H i (n+1) u v L)(c:G.is i=true)(hu:ρ[i]? = some (some u)):cE K G Z (λb=>A b/\(b∈L->v=.ref b)) ρ σ H:=by
 obtain⟨a,us,es,M,e1,e2,e3,d,z,l,al⟩:=id h.dp;subst e1 e2 e3;obtain⟨na,nM⟩:=XO.mp h.nod;have ha:a∈a::M:=Wz;have nL:∀b,A b->(Z.hx H (a::M)).B b=none->b∉a::M:=λb hA e y=>by
  rw[pS y] at e;exact h.dp.ne y e
 have av:∀b,(A b/\(b∈a::M->V.ref a=.ref b))->A b/\b∉M:=λb y=>⟨y.1,λw=>by
  have:=y.2 (WD _ w);cases this;exact na w⟩
 have xm:∀j w,i≠j->ρ[j]? = some (some w)->(ρ.set i none)[j]? = some (some w):=λj w n1 e=>by rw[W_ n1];exact e
 exact {
  slot:=λj w hj=>by
   by_cases n1:i=j
   ·subst n1;rw[hu] at hj;cases hj;refine⟨.ref a,h.at_,?_⟩;rw[hV c];refine⟨a,rfl,⟨h.inA ha,λ_=>rfl⟩,(h.fr a ha).1,.inl (h.fr a ha).2,?_⟩;unfold kr;exact⟨es.map (·.2.2),d.at z,l,al.rps λu v L' s p=>Dp.rp (λb y=>⟨y.1,λw=>(av b y).2 (s b w)⟩) p⟩
   ·obtain⟨x,x1,x2⟩:=h.rel.slot j w (xm j w n1 hj);refine⟨x,x1,?_⟩;by_cases cj:G.is j=true
    ·rw[hV cj] at x2 ⊢;obtain⟨b,e1,e2,e3,e4,e5⟩:=x2;have nb:=nL b e2 e3;exact⟨b,e1,⟨e2,λy=>absurd y nb⟩,by rw[cB nb] at e3;exact e3,e4.imp (λy w=>y (.inl w)) id,e5.mono λb y=>y.1⟩
    ·rw[hU cj] at x2 ⊢;exact x2.mono λb y=>y.1
  dis:=λj k w w' b cj ck n1 hj hk sj sk=>by
   have key:∀k w',G.is k=true->i≠k->ρ[k]? = some (some w')->σ[k]? ≠ some (some (.ref a)):=λk w' ck n2 e y=>by
    obtain⟨b,x1,x2,x3,_⟩:=h.rel.own ck (xm k w' n2 e);rw[x1] at y;cases y;exact nL a x2 x3 ha
   by_cases n2:i=j
   ·subst n2;rw[h.at_] at sj;cases sj;exact key k w' ck n1 hk sk
   ·by_cases n3:i=k
    ·subst n3;rw[h.at_] at sk;cases sk;exact key j w cj n2 hj sj
    ·exact h.rel.dis j k w w' b cj ck n1 (xm j w n2 hj) (xm k w' n3 hk) sj sk
  mu:=λb y=>h.rel.mu b y.1
  sup:=λb y=>⟨h.rel.sup b (.inl y),λw=>absurd y (h.fr b w).2⟩
  out:=λb y=>by
   by_cases w:b∈a::M
   ·exact .inr (h.fr b w).1
   ·rcases h.rel.out b y.1 with q|q
    ·exact .inl (q.elim id λx=>absurd x w)
    ·rw[cB w] at q;exact .inr q
  bas:=λb o y=>by
   have w:b∉a::M:=λx=>by rw[(h.fr b x).1] at y;cases y
   exact h.rel.bas b o (by rw[cB w];exact y)
  io0:=h.rel.io0
  len:=by have:=h.rel.len;rw[XA] at this;exact this}
theorem cE.pkg {Z':Pkg}(q:cE K G Z A ρ σ H)(e0:Z'.a0=Z.a0)(e1:∀b,Z'.A0 b↔Z.A0 b)(hB:∀b,A b->Z.B b=none->Z'.B b=none)(bas:∀b o,Z'.B b=some o->H b=some o):cE K G Z' A ρ σ H where
 slot:=λj w hj=>by
  obtain⟨x,x1,x2⟩:=q.slot j w hj;refine⟨x,x1,?_⟩;by_cases c:G.is j=true
  ·rw[hV c] at x2 ⊢;obtain⟨b,zc,e2,e3,e4,e5⟩:=x2;exact⟨b,zc,e2,hB b e2 e3,e4.imp (λy z=>y ((e1 b).mp z)) id,e5⟩
  ·rw[hU c] at x2 ⊢;exact x2
 dis:=q.dis
 mu:=q.mu
 sup:=λb z=>q.sup b ((e1 b).mp z)
 out:=λb z=>(q.out b z).imp (λy=>(e1 b).mpr y) (hB b z)
 bas:=bas
 io0:=λz=>by rw[e0];exact q.io0 z
 len:=q.len
theorem lB.lp (h:lB K G Z A ρ σ H i n u v L):lB K G (Z.lp A H) A ρ σ H i n u v L:=
 ⟨h.at_,h.nod,λb hb=>⟨lh (h.inA hb) (h.fr b hb).1,(h.fr b hb).2⟩,h.dp,h.rel.pkg rfl (λb=>Iff.rfl) (λb ha e=>by
  by_cases c:b∈L
  ·rw[pS c] at e ⊢;exact e
  ·rw[cB c] at e ⊢;exact lh ha e) λb o e=>by
  by_cases c:b∈L
  ·rw[pS c] at e;exact e
  ·rw[cB c] at e;by_cases y:A b/\Z.B b=none
   ·rw[lh y.1 y.2] at e;cases e
   ·rw[jc y] at e;exact e⟩
theorem Ko (h:lB K G Z A ρ σ H i n u v L)(e:(Z.lp A H).B b=none):Z.B b=none:=by
 rcases rH e with y|y
 ·exact y.2
 ·cases q:Z.B b with
  |none=>rfl
  |some o=>
   have c:b∉L:=λz=>by rw[(h.fr b z).1] at q;cases q
   have:=h.rel.bas b o (by rw[cB c];exact q);rw[this] at y;cases y
theorem lB.unlp (h:lB K G Z A ρ σ H i n u v L)(h':lB K G (Z.lp A H) A' ρ' σ' H' i n u' v' L'):lB K G Z A' ρ' σ' H' i n u' v' L' :=
 ⟨h'.at_,h'.nod,λb hb=>⟨Ko h (h'.fr b hb).1,(h'.fr b hb).2⟩,h'.dp,h'.rel.pkg rfl (λb=>Iff.rfl) (λb ha e=>by
  by_cases c:b∈L'
  ·rw[pS c] at e ⊢;exact e
  ·rw[cB c] at e ⊢;exact Ko h e) λb o e=>by
  by_cases c:b∈L'
  ·rw[pS c] at e;exact e
  ·rw[cB c] at e;refine h'.rel.bas b o ?_;rw[cB c,jc (λy=>by rw[e] at y;exact nomatch y.2)];have cL:b∉L:=λz=>by rw[(h.fr b z).1] at e;cases e
   exact h.rel.bas b o (by rw[cB cL];exact e)⟩
theorem lB.ext (h:lB K G Z A ρ σ H i n u v L)(h':lB K G (Z.lp A H) A' ρ' σ' H' i n u' v' L'):fh A H H'/\∀b,A' b->A b\/H b=none:=by
 refine⟨λb o nb e=>?_,λb z=>?_⟩
 ·have lb:(Z.lp A H).B b=some o:=by rw[jc (λy=>nb y.1)];exact e
  have c:b∉L':=λy=>by rw[(h'.fr b y).1] at lb;cases lb
  exact h'.rel.bas b o (by rw[cB c];exact lb)
 ·have f:(Z.lp A H).B b=none->A b\/H b=none:=λy=>(rH y).imp (λw=>w.1) id;rcases h'.rel.out b z with y|y
  ·rcases y with y|y
   ·exact .inl (h.rel.sup b (.inl y))
   ·exact f (h'.fr b y).1
  ·by_cases c:b∈L'
   ·exact f (h'.fr b c).1
   ·rw[cB c] at y;exact f y
def nE (K:Wv)(G:Gm)(Z:Pkg)(i n:Nat):SR->l_->Prop
 | .nx ρ',D=>∀A' σ' H' u' v' L',lB K G Z A' ρ' σ' H' i n u' v' L'->ρ'[i]? = some (some u')->D.nx σ' H'
 | .bk ρ',D=>∀A' σ' H' u' v' L',lB K G Z A' ρ' σ' H' i n u' v' L'->ρ'[i]? = some (some u')->D.bk σ' H'
 | .ct ρ',D=>∀A' σ' H' u' v' L',lB K G Z A' ρ' σ' H' i n u' v' L'->ρ'[i]? = some (some u')->D.ct σ' H'
 |_,_=>False
def Ua (K:Wv)(G:Gm)(i n:Nat)(g:Ev->SR):TS:=λD σ H=>∃Z A ρ u v L,lB K G Z A ρ σ H i n u v L/\ρ[i]? = some (some u)/\nE K G Z i n (g ρ) D
theorem nE.lp (h:lB K G Z A ρ σ H i n u v L){r:SR}{D:l_}(f:nE K G Z i n r D):nE K G (Z.lp A H) i n r D:=by
 cases r with
 |nx=>exact λA' σ' H' u' v' L' h'=>f A' σ' H' u' v' L' (h.unlp h')
 |bk=>exact λA' σ' H' u' v' L' h'=>f A' σ' H' u' v' L' (h.unlp h')
 |ct=>exact λA' σ' H' u' v' L' h'=>f A' σ' H' u' v' L' (h.unlp h')
 |rt=>exact f.elim
 |exc=>exact f.elim
 |stk=>exact f.elim
theorem nE.of {α:Type}{x:R α}{k:α->SR}{D:l_}(f:nE K G Z i n (SR.of x k) D):∃a,x=.ok a/\nE K G Z i n (k a) D:=by
 cases x with
 |ok a=>exact⟨a,rfl,f⟩
 |exc=>exact f.elim
 |stk=>exact f.elim
end
structure DD (X:Cx)(G:Gm)(i n:Nat)(st:aak)(g:Ev->SR):Prop where
 un:PS X st (Ua X.K G i n g)
structure O_ (X:Cx)(G:Gm)(i n:Nat)(st:List aak)(g:Ev->SR):Prop where
 un:ud X st (Ua X.K G i n g)
section
variable {e a b o f:Yv}{rest:List aak}{es:List Yv}{gR cpos:Pos}{b1 b2:Bool}{m1 m2 m:Md}{g1 g2:Ev->R (U×Ev)}{h1:Ev->R (Bool×Ev)}{s1 s2:Ev->SR}
theorem IH:O_ X G i n [] bF:=⟨AW.to λD σ H ⟨Z,A,ρ,u,v,L,h,hu,f⟩=>f A σ H u v L h hu⟩
theorem B4 (h:DD X G i n st s1):O_ X G i n [st] s1:=⟨AX h.un⟩
noncomputable def Mt (i:Nat)(h:Ev->R (Bool×Ev))(s1 s2:Ev->SR):Ev->SR:=λρ=>SR.of (h (ρ.set i none)) λx=>if x.1=true then s1 ρ else s2 ρ
theorem Pa {a b:List aak}(hc:DT X G c false h1)(ha:O_ X G i n a s1)(hb:O_ X G i n b s2):DD X G i n (.If c a b pos) (Mt i h1 s1 s2):=⟨(Je hc.un ha.un hb.un).to λD σ H h00=>by
 obtain⟨Z,A,ρ,u,v,L,h,hu,f⟩:=h00;obtain⟨⟨k,ρ1⟩,e1,f⟩:=f.of;refine⟨Z.hx H L,A,ρ.set i none,h.rel,?_⟩;rw[e1];intro H1 q1 _ s1;have sm:=(s1 rfl).2;cases k with
 |true=>rw[hV rfl] at f ⊢;exact⟨Z,A,ρ,u,v,L,h.same sm,hu,f⟩
 |false=>rw[hU WA] at f ⊢;exact⟨Z,A,ρ,u,v,L,h.same sm,hu,f⟩⟩
noncomputable def Dl (i:Nat)(sg:U->Ev->R Ev)(s:Ev->SR):List U->Ev->SR
 | [],ρ=>.nx ρ
 |u::us,ρ=>SR.of (sg u (ρ.set i none)) λρ1=>match s (ρ1.set i (ρ[i]?.getD none)) with
   | .nx ρ2=>Dl i sg s us ρ2
   | .ct ρ2=>Dl i sg s us ρ2
   | .bk ρ2=>.nx ρ2
   |r=>r
noncomputable def Gw (i:Nat)(gi:Ev->R (List U×Ev))(sg:U->Ev->R Ev)(s:Ev->SR):Ev->SR:=λρ=>SR.of (gi (ρ.set i none)) λx=>Dl i sg s x.1 ρ
theorem Mv {gi:Ev->R (List U×Ev)}(hp:abX (W7 X.prog X.w) X.A X.env X.xe)(hc:X.calm=true)(hi:DI X G tg iter false false gi)(hg:DG X G tg sg)(hb:O_ X G i n body s1)(ci:G.is i=true:=by rfl)(hs:∀x,X5 iter X.env x=pure x:=by intro _;rfl):DD X G i n (.For tg iter body [] pos) (Gw i gi sg s1):=⟨(A7 hp hc hi.un hg.un hb.un hs).to λD σ H h00=>by
 obtain⟨Z,A,ρ,u,v,L,h,hu,f⟩:=h00;obtain⟨⟨us,ρ1⟩,e1,f⟩:=f.of;refine⟨Z.hx H L,A,ρ.set i none,h.rel,?_⟩;rw[e1];intro J H1 q1 x1 za wk;have h1:=h.same (za rfl).2;dsimp only at f;obtain⟨hz,wk⟩:=wk;refine⟨λj k σ H=>j+k=us.length/\∃A' ρ' u' v' L',lB X.K G (Z.lp A H1) A' ρ' σ H i n u' v' L'/\ρ'[i]? = some (some u')/\nE X.K G (Z.lp A H1) i n (Dl i sg s1 (us.drop j) ρ') D,⟨us.length,by lia,A,ρ,u,v,L,h1.lp,hu,by rw[aaO];exact f.lp h1⟩,?_⟩;rintro j k σ H ⟨hk,A',ρ',u',v',L',h',du,f'⟩;obtain⟨ex,nw⟩:=h1.ext h';obtain⟨w1,w2⟩:=wk H A' (by rw[hU WA];exact ex) nw;by_cases zi:j<us.length
 ·have eu:us[j]? = some us[j]:=Wr zi;obtain⟨go,yl⟩:=w1 j _ eu;rw[XS zi] at f';unfold Dl at f';obtain⟨ρ2,e2,f2⟩:=f'.of;refine .inr ⟨go,λσ H=>∃A' ρ' u' v' L',lB X.K G (Z.lp A H1) A' ρ' σ H i n u' v' L'/\ρ'[i]? = some (some u')/\nE X.K G (Z.lp A H1) i n (Dl i sg s1 (us.drop (j+1)) ρ') D,λσ' H' z=>⟨k-1,by lia,by lia,z⟩,λx H' y=>?_⟩;obtain⟨sm,rp⟩:=yl x H' y;have h2:=h'.same sm;refine⟨(Z.lp A H1).hx H' L',A',ρ'.set i none,us[j],h2.rel,rp,?_⟩;rw[e2];intro σ2 q2 keep;have KQ:σ2[i]? = some (some v'):=by rw[keep i ci];exact h2.at_
  have il:i<ρ2.length:=by
   rw[q2.len];exact (WH.mp KQ).1
  have Tz:(ρ2.set i (some u'))[i]? = some (some u'):=YX il;rw[du,Zv] at f2;refine⟨Z.lp A H1,A',ρ2.set i (some u'),u',v',L',⟨KQ,h2.nod,h2.fr,h2.dp,by rw[List.set_set];exact q2.drop i⟩,Tz,?_⟩;cases e3:s1 (ρ2.set i (some u')) with
  |nx ρ3=>rw[e3] at f2;exact λA3 σ3 H3 u3 v3 L3 h3 TB=>⟨A3,ρ3,u3,v3,L3,h3,TB,f2⟩
  |ct ρ3=>rw[e3] at f2;exact λA3 σ3 H3 u3 v3 L3 h3 TB=>⟨A3,ρ3,u3,v3,L3,h3,TB,f2⟩
  |bk ρ3=>rw[e3] at f2;exact f2
  |rt=>rw[e3] at f2;exact f2
  |exc=>rw[e3] at f2;exact f2
  |stk=>rw[e3] at f2;exact f2
 ·have e:j=us.length:=by lia
  subst e;rw[Z7] at f';exact .inl ⟨w2,f' A' σ H u' v' L' h' du⟩⟩
noncomputable def B5 (i:Nat)(g:Ev->SR):Ev->SR:=λρ=>match ρ[i]? with
 |some (some (.dct [] []))=>match g ρ with
  | .nx ρ'=>.nx ρ'
  | .bk ρ'=>.bk ρ'
  | .ct ρ'=>.ct ρ'
  |_=>.stk
 |_=>.stk
theorem II (h:DD X G i (n+1) st s1)(hi:G.io=true->i≠0:=by decide)(c:G.is i=true:=by rfl):DS X G m st (B5 i s1):=⟨h.un.to λD σ H h00=>by
 obtain⟨Z,A,ρ,q,f⟩:=h00;unfold B5 at f;split at f
 ·rename_i hu;obtain⟨a,hd⟩:=q.hid (n:=n) c hi hu;refine⟨Z,A,ρ,_,_,_,hd,hu,?_⟩;cases e:s1 ρ with
  |nx=>rw[e] at f;exact λA' σ' H' u' v' L' h' du=>f _ σ' H' (h'.un c du)
  |bk=>rw[e] at f;exact λA' σ' H' u' v' L' h' du=>f _ σ' H' (h'.un c du)
  |ct=>rw[e] at f;exact λA' σ' H' u' v' L' h' du=>f _ σ' H' (h'.un c du)
  |rt=>rw[e] at f;exact f.elim
  |exc=>rw[e] at f;exact f.elim
  |stk=>rw[e] at f;exact f.elim
 ·exact f.elim⟩
end
end L2
namespace L2
noncomputable def B6 (i:Nat):Ev->R (U×(U->U)):=λρ=>match ρ[i]? with
 |some (some u)=>.ok (u,id)
 |_=>.stk
noncomputable def vy (i:Nat)(e0:U)(gp:Ev->R (U×(U->U)))(gk:Ev->R (U×Ev)):Ev->R (U×(U->U)):=λρ=>(gp ρ).bind λx=>(gk (ρ.set i none)).bind λk=>match x.1 with
 | .dct ks us=>if CN k.1=true/\us.length<WE then .ok ((fx ks us k.1).getD e0,λw=>x.2 (.dct (kA ks k.1) (j5 ks us k.1 w))) else .stk
 |_=>.stk
def QT (K:Wv)(G:Gm)(i n m:Nat)(gp:Ev->R (U×(U->U))):TE:=λσ H Q=>∃Z A ρ u v L,lB K G Z A ρ σ H i n u v L/\ρ[i]? = some (some u)/\match gp ρ with
 | .ok (u',F)=>∀A1 H1 L1 v' L',lB K G Z A1 ρ σ H1 i n (F u') v L1->At K H1 A1 n v L1 m u' v' L' F->Q v' H1
 |_=>False
noncomputable def QU:Nat->HO
 |0=>.lst []
 |_+1=>.dK []
noncomputable def Aw:Nat->U
 |0=>.lst []
 |_+1=>.dct [] []
def R1 (m:Nat):TE:=λ_ H Q=>∀p,H p=none->Q (.ref p) (cY H p (QU m))
theorem Mw {c:WT}:∀{m:Nat},H c=some (QU m)->Dp K H A m (Aw m) (.ref c) [c]
 |0,h=>⟨c,[],[],rfl,rfl,rfl,h,XU _,aO.nil⟩
 |m+1,h=>⟨c,[],[],[],rfl,rfl,rfl,⟨.inr ⟨rfl,h⟩,aaN,(λe he=>nomatch he)⟩,λ_=>h,XU _,rfl,rfl⟩
theorem Dp.self {c:WT}:∀{m:Nat},Dp K H A m u (.ref c) L->c∈L
 |0,⟨a,_,_,e,_,e2,_⟩=>by cases e;subst e2;exact Wz
 |m+1,⟨a,_,_,_,e,_,e2,_⟩=>by cases e;subst e2;exact Wz
section
variable {e o f:Yv}{gR cpos p1:Pos}{y:Str}{mk:Md}{gk:Ev->R (U×Ev)}{gp:Ev->R (U×(U->U))}
theorem IJ:PE X (.Dict [] [] pos) (R1 (m+1)):=xA
theorem IK:PE X (.List [] pos) (R1 0):=(D8 qO).to λσ H Q h=>⟨XU _,h⟩
theorem IL (i:Nat)(hN:X.N[i]? = some y:=by rfl)(hv:Ha X.env.scope y:=by first|exact Or.inl rfl|exact Or.inr (Or.inl rfl)|exact Or.inr (Or.inr rfl))(hd:(y==("__debug__":Str))=false:=by decide)
  (tW:(y==("__classdict__":Str))=false:=by decide):PE X (.Name y pos) (QT X.K G i n n (B6 i)):=(ma hN hv hd tW).to λσ H Q h00=>by
 obtain⟨Z,A,ρ,u,v,L,h,hu,f⟩:=h00;unfold B6 at f;rw[hu] at f;exact⟨v,h.at_,f A H L v L h (.root h.dp h.nod)⟩
theorem B7 (hu:X.A.units+64<Yy)(ho:PE X o (QT X.K G i n (m+1) gp))(he:DE X G e false mk gk)(hf:PE X f (R1 m))(hn:mk≠.P:=by decide)(M:M2 X o "setdefault" gR e f cpos:=by exact⟨rfl,rfl,rfl,rfl⟩) :
  PE X (.Call (.Attribute o "setdefault" gR) [e,f] [] cpos) (QT X.K G i n m (vy i (Aw m) gp gk)):=(IF hu ho he.un hf M).to λσ H Q h00=>by
 obtain⟨Z,A,ρ,u,v,L,hd,hu0,f⟩:=h00;unfold vy at f;cases e1:gp ρ with
 |stk=>rw[e1] at f;exact f.elim
 |exc=>rw[e1] at f;exact f.elim
 |ok x=>
  obtain⟨u1,F⟩:=x;rw[e1] at f;dsimp only[R.bind] at f;cases e2:gk (ρ.set i none) with
  |stk=>rw[e2] at f;exact f.elim
  |exc=>rw[e2] at f;exact f.elim
  |ok k=>
   obtain⟨k,ρk⟩:=k;rw[e2] at f;dsimp only[R.bind] at f;refine⟨Z,A,ρ,u,v,L,hd,hu0,?_⟩;rw[e1];intro A1 H1 L1 v' L' DB kY;obtain⟨a,us,es,M,r1,r2,r3,d,z,l,al⟩:=id kY.dp;subst r1 r2 r3;dsimp only at f;split at f;rotate_left
   ·exact f.elim
   rename_i u' F' ef;split at ef;rotate_left
   ·cases ef
   rename_i hk;cases ef;refine⟨a,rfl,.inr ⟨es,d⟩,Z.hx H1 L1,A1,ρ.set i none,DB.rel,?_⟩;rw[e2];intro vk H2 q2 x2 s2 uc;have Q2:=(s2 rfl).2;intro c nc;have s3:aY H2 (cY H2 c (QU m)):=cW nc _;have Nr:=Q2.trans s3;have AO:CN k=true:=hk.1;cases k<;>first|(cases AO;done)|skip
   rename_i kk;obtain⟨b,rfl,kb⟩:=EZ AO (uc.rp hn);have UE:zC (cY H2 c (QU m)) kk b:=kb.to λx ys q=>s3 x _ q;have TC:=s9 DB.rel.mu Nr;have TF:=DB.kept Nr;have VE:=kY.keep TC TF (wH Nr);have ka:=TF a (kY.sub a Wz);have d3:=d.re ka TC.tup;have VF:=al.imp λu v L' s (p:Dp X.K H1 A1 m u v L')=>p.re TC λb hb=>TF b (kY.sub b (WD _ (s b hb)));have hl:es.length=us.length:=by rw[al.length,WC]
   refine⟨es,kk,b,d3,rfl,UE,by lia,λx hx=>?_,λhx ep=>?_⟩
   ·obtain⟨u',L2,y1,y2,y3⟩:=VE.child d3 (by rw[ka];exact z) l VF hx;rw[show fx (es.map λp=>U.tup p.1) us (.tup kk)=some u' from y1,Zv] at f;refine f A1 _ L1 x L2 ?_ y3;show lB _ _ _ _ _ _ _ _ _ (F (.dct (kA (iQ es) (.tup kk)) (j5 (iQ es) us (.tup kk) u'))) _ _;rw[y2];exact DB.same Nr
   ·have UG:H1 c=none:=wH Q2 c nc;obtain⟨L4,L2,y1,y3,z1,z2,g⟩:=At.new (H0:=H1) (c:=c) (u0:=Aw m) (ep:=ep) kY d hk.2 al DB.rel.mu (λb hb=>DB.inA hb) Nr UG UE hx rfl (λH' e _=>Mw (by rw[e];exact bT));rw[show fx (es.map λp=>U.tup p.1) us (.tup kk)=none from y1,Z5] at f;refine f _ _ L4 (.ref c) L2 (DB.put g (λb z=>.inl z) (λb nb ne=>?_) y3.nod z1 (λb hb=>?_) (λb hb=>?_) (λb z=>?_) y3.all rfl) y3
    ·have:b≠a:=λq=>nb (by rw[q];exact z1 a (kY.sub a Wz));show (if b=a then _ else _)=_;rw[hU this];cases q:H1 b with
     |none=>exact absurd q ne
     |some o=>exact Nr b o q
    ·rcases z2 b hb with y|y
     ·exact .inl y
     ·rw[y];exact .inr UG
    ·exact (z2 b hb).imp (λy=>DB.inA y) id
    ·rcases z with z|z
     ·exact .inl z
     ·rw[z];exact .inr (y3.sub c y3.dp.self)
noncomputable def Mx (i:Nat)(gp:Ev->R (U×(U->U)))(g:Ev->R (U×Ev)):Ev->SR:=λρ=>SR.of (gp ρ) λx=>SR.of (g (ρ.set i none)) λy=>match x.1 with
 | .lst us=>if us.length<WE then .nx (ρ.set i (some (x.2 (.lst (us++[y.1]))))) else .stk
 |_=>.stk
theorem My (ho:PE X o (QT X.K G i n 0 gp))(he:DE X G e false mk gk)(hn:mk≠.P:=by decide)
  (yZ:aan o "append" X.env (Z0 o X.env)=Z0 o X.env:=by rfl)
  (GL:((Zc cpos (WY [e] X.env)).all (λx=> !x.1)&&(backToKw cpos (aa9 [] X.env)).all (λx=>x.1.isSome)
   && decide ([e].length+([]:List aaR).length+(if ([]:List aaR).isEmpty then 0 else 1)<30))=true:=by rfl)
  (y_:(gR.endLine==cpos.line)=true:=by rfl) (hs:WY [e] X.env=(false,Z0 e X.env)::WY [] X.env:=by rfl) (tX:(Zc cpos (WY [] X.env)).any (·.1)=false:=by rfl)
  (hw:aaP (.Call (.Attribute o "append" gR) [e] [] cpos) none pos.line X.env=pure false:=by rfl) :
  DD X G i n (.Expr (.Call (.Attribute o "append" gR) [e] [] cpos) pos) (Mx i gp gk):=⟨(AY (Jk XN aah aai oh ho (ae (p:=false) he ah (λh=>absurd h hn) hs).un yZ GL y_ hs tX) hw).to λD σ H h00=>by
 obtain⟨Z,A,ρ,u,v,L,hd,hu0,f⟩:=h00;obtain⟨⟨u1,F⟩,e1,f⟩:=f.of;obtain⟨⟨y,ρy⟩,e2,f⟩:=f.of;dsimp only at e2 f;refine⟨Z,A,ρ,u,v,L,hd,hu0,?_⟩;rw[e1];intro A1 H1 L1 v' L' DB kY;obtain⟨a,us,xs,r1,r2,r3,q,l,r⟩:=id kY.dp;subst r1 r2 r3;dsimp only at f;split at f;rotate_left
 ·exact f.elim
 rename_i hl;refine⟨.inl ⟨rfl,xs,.inl (.inl q)⟩,Z.hx H1 L1,A1,ρ.set i none,DB.rel,?_⟩;unfold af;rw[e2];intro vs H2 q2 x2 s2 uc;have sm:=(s2 rfl).2;have rr:=uc.rps;unfold aO at rr;obtain⟨w,wr,rfl,rw1,rw2⟩:=rr;unfold aO at rw2;subst rw2;have KQ:=kY.keep (s9 DB.rel.mu sm) (DB.kept sm) (wH sm);have AR:=DB.same sm;have VG:H2 a=some (.lst xs):=sm a _ q;have r2:=r.same sm;refine⟨a,xs,w,rfl,rfl,VG,by rw[←r.length];exact hl,?_⟩;have aA:A1 a:=AR.inA (KQ.sub a Wz);have hb:∀b,b≠a->cY H2 a (.lst (xs++[w])) b=H2 b:=λb nb=>by unfold cY;rw[hU nb]
 have g:zh A1 A1 H2 (cY H2 a (.lst (xs++[w]))):=⟨AR.rel.mu,λb o nb e=>by rw[hb b (λz=>nb (z▸aA))];exact e,λb z=>.inl z⟩;obtain⟨L4,d4,n4,z1,z3,z2⟩:=KQ.put _ A1 (.lst (us++[y])) [a] g (λb qw nb=>hb b λz=>nb (by rw[z];exact Wz))
  ⟨a,_,_,rfl,rfl,rfl,bT,by rw[WG];exact hl,(r2.snoc rw1).re g.mu g.ex g.nw⟩ (XB _ _) (λb hb=>hb) (λb hb=>.inl hb)
 have il:i<ρ.length:=by
  have:=AR.rel.len;rw[XA] at this;rw[this];exact (WH.mp AR.at_).1
 refine f A1 σ _ _ v L4 (AR.put g (λb z=>z) (λb nb ne=>hb b λz=>nb (z3 b (by rw[z];exact Wz))) n4 z1 (λb qw=>?_) (λb qw=>?_) (λb z=>.inl z) d4 (List.set_set _)) (YX il)
 ·rcases z2 b qw with x|x
  ·rw[WZ] at x;rw[x];exact .inl (KQ.sub a Wz)
  ·exact .inl x
 ·rcases z2 b qw with x|x
  ·rw[WZ] at x;rw[x];exact aA
  ·exact AR.inA x⟩
end
end L2
namespace Hc.Ts
open PySem.W
noncomputable def ki:List (List Int)->List (List Int)->Bool
 | [],[]=>false
 | [],_::_=>true
 |_::_,[]=>false
 |x::xs,y::ys=>if x=y then ki xs ys else fz x y
theorem pT:∀a,ki a a=false
 | []=>rfl
 |x::xs=>by unfold ki;rw[hV rfl];exact pT xs
theorem s_:∀a b c,ki a b=true->ki b c=true->ki a c=true
 | [],[],_,h,_=>by cases h
 | [],_::_,[],_,h=>by cases h
 | [],_::_,_::_,_,_=>rfl
 |_::_,[],_,h,_=>by cases h
 |_::_,_::_,[],_,h=>by cases h
 |x::xs,y::ys,z::zs,h1,h2=>by
  unfold ki at h1 h2 ⊢;by_cases e1:x=y
  ·subst e1;rw[hV rfl] at h1;by_cases e2:x=z
   ·subst e2;rw[hV rfl] at h2 ⊢;exact s_ xs ys zs h1 h2
   ·rw[hU e2] at h2 ⊢;exact h2
  ·rw[hU e1] at h1;by_cases e2:y=z
   ·subst e2;rw[hU e1];exact h1
   ·rw[hU e2] at h2;have h3:=mx x y z h1 h2;rw[hU (λe=>by subst e;rw[kF] at h3;cases h3)];exact h3
theorem yD:∀a b c,ki a c=true->ki a b=true\/ki b c=true
 | [],[],_::_,_=>.inr rfl
 | [],_::_,_::_,_=>.inl rfl
 | [],_,[],h=>by cases h
 |_::_,_,[],h=>by cases h
 |_::_,[],_::_,_=>.inr rfl
 |x::xs,y::ys,z::zs,h=>by
  unfold ki at h ⊢;by_cases e:x=z
  ·subst e;rw[hV rfl] at h;by_cases e2:x=y
   ·subst e2;rw[hV rfl,hV rfl];exact yD xs ys zs h
   ·rw[hU e2,hU (λq=>e2 q.symm)];cases c1:fz x y with
    |true=>exact .inl rfl
    |false=>
     cases c2:fz y x with
     |true=>exact .inr rfl
     |false=>exact absurd (iN x y c1 c2) e2
  ·rw[hU e] at h;by_cases e2:x=y
   ·subst e2;exact .inr (by rw[hU e];exact h)
   ·by_cases e3:y=z
    ·subst e3;exact .inl (by rw[hU e];exact h)
    ·rw[hU e2,hU e3];exact sR x y z h
theorem tm:∀a b,ki a b=false->ki b a=false->a=b
 | [],[],_,_=>rfl
 | [],_::_,h,_=>by cases h
 |_::_,[],_,h=>by cases h
 |x::xs,y::ys,h1,h2=>by
  unfold ki at h1 h2;by_cases e:x=y
  ·subst e;rw[hV rfl] at h1 h2;rw[tm xs ys h1 h2]
  ·rw[hU e] at h1;rw[hU (λq=>e q.symm)] at h2;exact absurd (iN x y h1 h2) e
noncomputable def Ax:abW:=⟨List (List Int),ki,pT,s_,yD,tm⟩
inductive kK (h:Y8):List WB->List (List Int)->Prop
 |nil:kK h [] []
 |cons {t:WT} {its:Array WB} {ns:List Int} {vs:List WB} {c8:List (List Int)}:h.IsTuple t its->YJ its.toList ns->kK h vs c8->kK h (.ref t::vs) (ns::c8)
theorem kK.keep (k:∀b o,h.get? b=some o->h'.get? b=some o){vs:List WB}(t:kK h vs c8):kK h' vs c8:=by
 induction t with
 |nil=>exact .nil
 |cons a i _ ih=>
  obtain⟨o,e,r⟩:=a;exact .cons ⟨o,k _ _ e,r⟩ i ih
theorem kK.length {vs:List WB}(t:kK h vs c8):vs.length=c8.length:=by
 induction t with
 |nil=>rfl
 |cons _ _ _ ih=>rw[Ww,Ww,ih]
def mB (h:Y8)(a:WT)(c8:List (List Int)):Prop:=∃its,h.IsTuple a its/\kK h its.toList c8
theorem mB.keep (k:∀b o,h.get? b=some o->h'.get? b=some o)(t:mB h a c8):mB h' a c8:=by
 obtain⟨its,⟨o,e,r⟩,t⟩:=t;exact⟨its,⟨o,k _ _ e,r⟩,t.keep k⟩
section
variable {A:Xh}{fin:Bool}{Q:Bool->WN->Prop}
theorem yE (hu:A.units<Yy):∀{xs ys:List WB} {ns ms:List (List Int)} {i:Nat},kK s.heap xs ns->kK s.heap ys ms->fin=decide (ns.length<ms.length)->Q (ki ns ms) s->KatLex prog w A false fin Q (xs.zip ys) i s
 |_,_,_,_,i,.nil,.nil,hf,h=>by subst hf;exact kat_nil h
 |_,_,_,_,i,.nil,.cons a1 a2 r,hf,h=>by subst hf;exact kat_nil (by rw[show decide (([]:List (List Int)).length<(_::_).length)=true from hG (by simp)];exact h)
 |_,_,_,_,i,.cons a1 a2 r,.nil,hf,h=>by subst hf;exact kat_nil (by rw[show decide ((_::_).length<([]:List (List Int)).length)=false from hJ (by simp)];exact h)
 |_,_,_,_,i,.cons (ns:=n) a1 a2 r,.cons (ns:=m) c1 c2 q,hf,h=>by
  refine kat_cons (wpAny_eqBool_tuple (knd:=abD prog w) hu (O5 a1 a2) (O5 c1 c2) ?_);unfold ki at h;by_cases e:n=m
  ·rw[hV e] at h;rw[hG e];refine kat_yes (yE hu r q ?_ h);rw[hf];simp
  ·rw[hU e] at h;rw[hJ e];refine kat_no (kat_one _ _ (HT.lt_tupInts a1 c1 a2 c2 hu ?_));rw[yB];exact h
theorem Gx {h0:Y8}{bs:List WT}{kf:WT->List (List Int)}(hu:A.units<Yy)(at_:∀a∈bs,mB h0 a (kf a))(keep:∀b o,h0.get? b=some o->s.heap.get? b=some o)
  {key:W3->List (List Int)} (QA:∀x:W3,∀a∈bs,x.1=.ref a->key x=kf a):lZ (W7 prog w) A E s Ax key (tuples' false) (λx=>∃a∈bs,x.1=.ref a) where
 lt:=λx y st Q dx dy kd q=>by
  obtain⟨a,ha,e1⟩:=dx;obtain⟨c,hc,e2⟩:=dy;rw[QA x a ha e1,QA y c hc e2] at q;obtain⟨i1,t1,u1⟩:=(at_ a ha).keep keep;obtain⟨i2,t2,u2⟩:=(at_ c hc).keep keep;rw[lt'_eq];refine WM (abJ ?_);rw[kd,e1,e2];obtain⟨o1,g1,_,n1,d1⟩:=t1;obtain⟨o2,g2,_,n2,d2⟩:=t2;refine WM (wpS_lift (Zs (kat_lt g1 d1 g2 d2 (yE hu u1 u2 ?_ ⟨rfl,?_⟩))))
  ·rw[←u1.length,←u2.length,Wx,Wx]
  ·exact WV q
theorem Dm {bs:List WT}{Q:Z_->WN->Prop}(h2:2<=bs.length)(at_:∀a∈bs,∃c8,mB s.heap a c8/\c8≠[])(q:Q (tuples' false) s):WU (W7 prog w) A (keyKind' (bs.map Value.ref).toArray) Q E s:=by
 have kt:∀l:List WT,(∀a∈l,∃c8,mB s.heap a c8/\c8≠[])->∃fs,KatTups s.heap (l.map Value.ref) fs/\fs.length=l.length/\∀f∈fs,∃t its,f=.ref t/\s.heap.IsTuple t its:=by
  intro l
  induction l with
  |nil=>exact λ_=>⟨[],.nil,rfl,λf hf=>by cases hf⟩
  |cons a l ih=>
   intro h;obtain⟨fs,k1,k2,k3⟩:=ih λc hc=>h c (WD _ hc);obtain⟨c8,⟨its,⟨o,e,c,n,d⟩,tj⟩,ne⟩:=h a Wz;have:∃t i2 r,its.toList=.ref t::r/\s.heap.IsTuple t i2:=by
    generalize its.toList=l at tj;cases tj with
    |nil=>exact absurd rfl ne
    |cons v _ _=>exact⟨_,_,_,rfl,v⟩
   obtain⟨t,i2,r,el,v⟩:=this;refine⟨.ref t::fs,.cons e c d (by rw[←WS,el];rfl) k1,by rw[Ww,Ww,k2],λf hf=>?_⟩;rcases WK.mp hf with rfl|hf
   ·exact⟨t,i2,rfl,v⟩
   ·exact k3 f hf
 obtain⟨fs,k1,k2,k3⟩:=kt bs at_;refine kat_kind (T:=.type "tuple") k1 (by lia) (λv hv=>?_) (by decide) q;obtain⟨t,its,rfl,o,e,c,_⟩:=k3 v hv;rw[←c];exact (Looks.ld e).andThen .now
end
end Hc.Ts
namespace L2
open Hc.Dw Hc.Ts
section
variable (O:abW)
noncomputable def Dn (x:O.α):List O.α->List O.α
 | []=>[x]
 |y::r=>if O.blt y x=true then y::Dn x r else x::y::r
noncomputable def B8 (l:List O.α):List O.α:=l.foldr (Dn O) []
def Pb (l:List O.α):Prop:=l.Pairwise λx y=>O.blt y x=false
variable {O}
theorem oM (x:O.α):∀l,(Dn O x l).Perm (x::l)
 | []=>.refl _
 |y::r=>by
  unfold Dn;split
  ·exact ((oM x r).cons y).trans (.swap x y r)
  ·exact .refl _
theorem tq:∀l,(B8 O l).Perm l
 | []=>.refl _
 |x::l=>(oM x _).trans ((tq l).cons x)
theorem B9 (x:O.α):∀{l},Pb O l->Pb O (Dn O x l)
 | [],_=>XB _ _
 |y::r,h=>by
  obtain⟨h1,h2⟩:=Xs.mp h;unfold Dn;split
  ·rename_i c;refine Xs.mpr ⟨λz hz=>?_,B9 x h2⟩;rcases WK.mp ((oM x r).mem_iff.mp hz) with rfl|hz
   ·exact KeyOrd.klt_asymm (O:=O) c
   ·exact h1 z hz
  ·rename_i c;have c:O.blt y x=false:=by simpa using c
   refine Xs.mpr ⟨λz hz=>?_,h⟩;rcases WK.mp hz with rfl|hz
   ·exact c
   ·exact Xa (O:=O) (a:=x) (b:=y) (c:=z) c (h1 z hz)
theorem yF:∀l,Pb O (B8 O l)
 | []=>List.Pairwise.nil
 |x::l=>B9 x (yF l)
theorem yG:∀{l m:List O.α},l.Perm m->Pb O l->Pb O m->l=m
 | [],m,p,_,_=>(List.nil_perm.mp p).symm
 |x::l,[],p,_,_=>absurd p.length_eq (by simp)
 |x::l,y::m,p,h1,h2=>by
  obtain⟨a1,a2⟩:=Xs.mp h1;obtain⟨b1,b2⟩:=Xs.mp h2;have e:x=y:=by
   have hx:x∈y::m:=p.mem_iff.mp Wz;have hy:y∈x::l:=p.mem_iff.mpr Wz;rcases WK.mp hx with rfl|hx
   ·rfl
   ·rcases WK.mp hy with rfl|hy
    ·rfl
    ·exact O.total x y (b1 x hx) (a1 y hy)
  subst e;rw[yG (p.cons_inv) a2 b2]
end
noncomputable def R3:V->WT
 | .ref a=>a
 |_=>0
noncomputable def nF (H:Hp)(b:WT):List (List Int):=match H b with
 |some (.tup xs)=>xs.map λx=>cA H (R3 x)
 |_=>[]
def yH (H:Hp)(b:WT)(c8:List (List Int)):Prop:=∃ts:List WT,H b=some (.tup (ts.map V.ref))/\ts.map (cA H)=c8/\∀t∈ts,H t=some (.tup ((cA H t).map V.int))
theorem IM (h:yH H b c8):nF H b=c8:=by
 obtain⟨ts,h1,h2,_⟩:=h;unfold nF;rw[h1];dsimp only;rw[←h2,Ys];rfl
theorem vz (I:aN X pins σ H s)(h:yH H b c8):mB s.heap b c8:=by
 obtain⟨ts,h1,h2,h3⟩:=h;obtain⟨y1,its,rv,it,y2⟩:=I.hok b _ h1;refine⟨its.toArray,it,?_⟩;have e:=gr rv;subst e h2;clear rv it h1 y1 y2;rw[List.toList_toArray]
 induction ts with
 |nil=>exact .nil
 |cons t ts ih=>
  obtain⟨_,its2,rv2,it2,_⟩:=I.hok t _ (h3 t Wz);exact .cons it2 (by simpa using dW rv2) (ih λt ht=>h3 t (WD _ ht))
def Ay (K:Wv):List V->Hp->VK->Prop:=λxs H Q=>∃(p:WT) (bs:List WT),xs=[.ref p]/\C8 K H p bs/\bs.length<=1000000/\(2<=bs.length->∀b∈bs,yH H b (nF H b)/\nF H b≠[])/\
  ∀(l:WT) (iB:List WT),H l=none->iB.Perm bs->iB.Pairwise (λx y=>ki (nF H y) (nF H x)=false)->Q (.ref l) (cY H l (.lst (iB.map V.ref)))
theorem IP (hc:X.calm=true)(I:aN X pins σ H s){bs:List WT}(DL:C8 X.K H p bs)(ze:bs.length<=WE)(Q:List WB->WN->Prop)(E:WB->WN->Prop)(hq:∀h1 tk (jw:List WT),jw.Perm bs->(∀b o,s.heap.get? b=some o->h1.get? b=some o)->Q (jw.map Value.ref) {s with heap:=h1,toks:=tk}):WU (W7 X.prog X.w) X.A.in1 (collect (.ref p)) Q E s:=by
 rcases DL with hs|hs|⟨ep,es,hs,rfl⟩
 ·obtain⟨its,rv,pl,_⟩:=I.list hs;obtain⟨o,e,c,n,d⟩:=pl.isList;have e2:=gr rv;subst e2;exact ZT p (.inl rfl) e c d (λh1 k1=>by simpa using hq h1 s.toks bs (X3 _) k1) (by rw[Wy,WC];exact ze)
 ·obtain⟨its,rv,pl,_⟩:=I.tuple hs;obtain⟨o,e,c,n,d⟩:=pl;have e2:=gr rv;subst e2;exact ZT p (.inr rfl) e c d (λh1 k1=>by simpa using hq h1 s.toks bs (X3 _) k1) (by rw[Wy,WC];exact ze)
 ·obtain⟨lo,ds,rd,n,at_⟩:=I.rawD hs;refine kG (A:=X.A.in1) (OX lo) (I.ok.hd hc) rd (by rw[n];rw[WC] at ze;exact ze) λh1 tk cG k1 ia=>?_;have e:cG.toList=(es.map (·.2.1)).map Value.ref:=by
   apply Zk;intro i;rw[WS,Ys,Xc];by_cases hi:i<cG.size
   ·rw[getElem?_pos cG i hi];obtain⟨en,e1,e2⟩:=ia.2 i _ (getElem?_pos cG i hi);have xk:i<ds.size:=by rw[←ia.1];exact hi
    rw[getElem?_pos ds i xk] at e1;cases e1;obtain⟨x,m,ek,_⟩:=at_ i xk;rw[m,e2,ek];rfl
   ·rw[getElem?_neg cG i hi,ZN (by rw[←n,←ia.1];lia)];rfl
  rw[e];exact hq h1 tk _ (X3 _) k1
theorem Az (hc:X.calm=true)(hu:X.A.units+64<Yy):eT X (.builtin "sorted") (Ay X.K):=by
 intro pins s σ H xs us Q I r h;obtain⟨p,bs,rfl,DL,hz,tu,q⟩:=h;obtain⟨u,rfl,rx⟩:=ja r;cases rx;have ze:bs.length<=WE:=by rw[Yx];lia
 refine sU (O:=Ax) (nF H) (tuples' false) I hz hu (λA E jw s6 Q6 Ck h2 k6 q6=>?_) (λh2 A E s6 hA k6=>?_) (λQ E hq=>IP hc I DL ze Q E hq) q
 ·refine Dm h2 (λa ha=>?_) q6;have:=tu (by rw[←Ck.length_eq];exact h2) a (Ck.mem_iff.mp ha);exact⟨_,(vz I this.1).keep k6,this.2⟩
 ·exact Gx (h0:=s.heap) (kf:=nF H) hA (λa ha=>vz I (tu h2 a ha).1) k6 (λx a _ e=>by rw[e];rfl)
noncomputable def IQ (c8:List (List Int)):U:=.tup (c8.map au)
noncomputable def Kp:U->Option (List Int)
 | .tup xs=>je xs
 |_=>none
noncomputable def tw:List U->Option (List (List Int))
 | []=>some []
 |u::us=>match Kp u,tw us with
  |some ns,some c8=>some (ns::c8)
  |_,_=>none
noncomputable def Mz:U->Option (List (List Int))
 | .tup (x::xs)=>tw (x::xs)
 |_=>none
noncomputable def yI:List U->Option (List (List (List Int)))
 | []=>some []
 |u::us=>match Mz u,yI us with
  |some ns,some c8=>some (ns::c8)
  |_,_=>none
theorem vA:∀{us:List U} {c8:List (List Int)},tw us=some c8->us=c8.map au
 | [],c8,h=>by unfold tw at h;cases h;rfl
 |u::us,c8,h=>by
  unfold tw at h;split at h
  ·rename_i ns r e1 e2;cases h;rw[WQ,←vA e2];unfold Kp at e1;split at e1
   ·rw[jf e1];rfl
   ·cases e1
  ·cases h
theorem IS (h:Mz u=some c8):u=IQ c8/\c8≠[]:=by
 unfold Mz at h;split at h
 ·rename_i x xs;have e:=vA h;refine⟨by unfold IQ;rw[←e],λz=>by subst z;cases e⟩
 ·cases h
theorem tE:∀{us:List U} {c8:List (List (List Int))},yI us=some c8->us=c8.map IQ/\∀ns∈c8,ns≠[]
 | [],c8,h=>by unfold yI at h;cases h;exact⟨rfl,λz hz=>by cases hz⟩
 |u::us,c8,h=>by
  unfold yI at h;split at h
  ·rename_i ns r e1 e2;cases h;obtain⟨e3,n3⟩:=IS e1;obtain⟨e4,n4⟩:=tE e2;refine⟨by rw[WQ,←e3,←e4],λz hz=>?_⟩;rcases WK.mp hz with rfl|hz
   ·exact n3
   ·exact n4 z hz
  ·cases h
noncomputable def jZ (us:List U):R U:=if us.length<2/\us.all EY=true then .ok (.lst us) else match yI us with
 |some c8=>if c8.length<=1000000 then .ok (.lst ((B8 Ax c8).map IQ)) else .stk
 |none=>.stk
noncomputable def kM:List U->R U:=λus=>match us with
 | [.lst xs]=>jZ xs
 | [.tup xs]=>jZ xs
 | [.dct ks _]=>if OV ks=true then jZ ks else .stk
 |_=>.stk
theorem Pc {ns:List (List Int)}(h:Rp K H A (IQ ns) v):∃b,v=.ref b/\yH H b ns:=by
 unfold IQ Rp at h;obtain⟨b,ys,e,q,l,r⟩:=h;obtain⟨ts,rfl,e2,z⟩:=jC r;exact⟨b,e,ts,q,e2,λt ht=>(z t ht).1⟩
theorem wI {A:WT->Prop}:∀{c8:List (List (List Int))} {xs:List V},aO K H A (c8.map IQ) xs->∃bs:List WT,xs=bs.map V.ref/\bs.map (nF H)=c8/\∀b∈bs,yH H b (nF H b)/\Rp K H A (IQ (nF H b)) (.ref b)
 | [],xs,h=>by rw[Yg] at h;unfold aO at h;subst h;exact⟨[],rfl,rfl,λb hb=>by cases hb⟩
 |ns::c8,xs,h=>by
  rw[WQ] at h;unfold aO at h;obtain⟨x,r,rfl,h1,h2⟩:=h;obtain⟨b,rfl,q⟩:=Pc h1;obtain⟨bs,rfl,e,z⟩:=wI h2;have k:=IM q;refine⟨b::bs,rfl,by rw[WQ,e,k],λc hc=>?_⟩;rcases WK.mp hc with rfl|hc
  ·rw[k];exact⟨q,h1⟩
  ·exact z c hc
theorem yJ {A:WT->Prop}:∀{us:List U} {xs:List V},us.all EY=true->aO K H A us xs->∃bs:List WT,xs=bs.map V.ref
 | [],xs,_,h=>by unfold aO at h;subst h;exact⟨[],rfl⟩
 |u::us,xs,c,h=>by
  rw[aaq,WX] at c;unfold aO at h;obtain⟨x,r,rfl,h1,h2⟩:=h;obtain⟨bs,rfl⟩:=yJ c.2 h2;have c1:=c.1;cases u<;>first|(cases c1;done)|skip
  unfold Rp at h1;obtain⟨a,_,rfl,_⟩:=h1;exact⟨a::bs,rfl⟩
theorem Kq (h:n<=1000000):n<=WE:=by rw[Yx];lia
theorem IT {bs cs:List WT}(h:bs.map V.ref=cs.map V.ref):bs=cs:=(List.map_inj_right λ_ _ h=>by cases h;rfl).mp h
theorem tF {xs:List U}{z:U}(e:jZ xs=.ok z)(r:aO K H A xs vs):∃bs:List WT,vs=bs.map V.ref:=by
 unfold jZ at e;split at e
 ·rename_i c;exact yJ c.2 r
 ·split at e
  ·rename_i c8 e1;rw[(tE e1).1] at r;obtain⟨bs,e2,_⟩:=wI r;exact⟨bs,e2⟩
  ·cases e
theorem Dq:lK K (Ay K) .O kM:=λA H vs us z Q h mu e q=>by
 have fin:∀(xs:List U) (p:WT) (bs:List WT),jZ xs=.ok z->aO K H A xs (bs.map V.ref)->C8 K H p bs->Ay K [.ref p] H Q:=by
  intro xs p bs e r DL;have rl:xs.length=bs.length:=by have:=r.length;rwa [WC] at this
  unfold jZ at e;split at e
  ·rename_i c;cases e;refine⟨p,bs,rfl,DL,by lia,λh2=>absurd h2 (by lia),λl iB hn hp hw=>?_⟩;have e7:iB=bs:=by
    have hl:=hp.length_eq
    match bs,iB,hp,hl with
    | [],[],_,_=>rfl
    | [a],[b],hp,_=>exact List.perm_singleton.mp hp
    |_::_::_,_,_,_=>simp at rl;lia
   subst e7;exact q _ _ (cW hn _) ⟨l,rfl,hn,bJ mu r hn (Kq (by lia))⟩
  ·split at e
   ·rename_i c8 e1;split at e
    ·rename_i hz;cases e;obtain⟨e2,ne⟩:=tE e1;subst e2;obtain⟨jw,e3,e4,e5⟩:=wI r;have e6:=IT e3;subst e6;have n1:bs.length=c8.length:=by rw[←e4,WC]
     refine⟨p,bs,rfl,DL,by lia,λ_ b hb=>⟨(e5 b hb).1,ne _ (by rw[←e4];exact YV hb)⟩,λl iB hn hp hw=>?_⟩;have e7:iB.map (nF H)=B8 Ax c8:=yG (O:=Ax) ((hp.map (nF H)).trans (by rw[e4];exact (tq (O:=Ax) c8).symm)) (YA.mpr hw) (yF (O:=Ax) c8);refine q _ _ (cW hn _) ⟨l,rfl,hn,?_⟩;rw[←e7];refine bJ mu ?_ hn (Kq (by rw[WC,WC,hp.length_eq];lia));have all:∀b∈iB,Rp K H A (IQ (nF H b)) (.ref b):=λb hb=>(e5 b (hp.mem_iff.mp hb)).2;clear hw e7 hp
     induction iB with
     |nil=>exact aO.nil
     |cons b iB ih=>exact aO.cons (all b Wz) (ih λc hc=>all c (WD _ hc))
    ·cases e
   ·cases e
 unfold kM at e;split at e
 ·obtain⟨v,rfl,p⟩:=h.one;unfold Pk at p;obtain⟨a,ys,rfl,h1,l1,r1⟩:=p;obtain⟨bs,rfl⟩:=tF e r1;exact fin _ a bs e r1 (.inl (f7.of h1))
 ·obtain⟨v,rfl,p⟩:=h.one;unfold Pk at p;obtain⟨a,ys,rfl,h1,l1,r1⟩:=p;obtain⟨bs,rfl⟩:=tF e r1;exact fin _ a bs e r1 (.inr (.inl (gK.of h1)))
 ·rename_i ks ws;split at e
  ·rename_i c;obtain⟨v,rfl,p⟩:=h.one;unfold Pk at p;obtain⟨a,ys,rfl,h1,l1,r1⟩:=p;obtain⟨es,ep,q1,kt,e1,e2⟩:=F6 c h1;refine fin ks a (es.map (·.2.1)) e ?_ (.inr (.inr ⟨ep,es,q1,rfl⟩));subst e1;clear e fin e2 r1 h1 c q1 h
   induction es with
   |nil=>exact aO.nil
   |cons x es ih=>exact aO.cons (Kc (kt x Wz)) (ih λy hy=>kt y (WD _ hy))
  ·cases e
 ·cases e
end L2
noncomputable section
namespace Hc
open PySem L2
noncomputable abbrev yK:Gm:=⟨[false,false,false,true,false,false,false,false],false,λ_=>False⟩
noncomputable def wJ:Ev->SR:=(mX 3 (ag 7) (ag 6))
noncomputable def wK:Ev->SR:=(g_ (C3 (af (ag 4) (af (aJ bZ (ag 1) (ag 5)) ar))) (cq 2 (aI (bD 6) (aI (bD 7) cn)))
 wJ)
noncomputable def pU:Ev->SR:=(aK (a8 3 (o8 (af (ag 0) ar)))
 (aK (g_ (C3 (af (ag 1) (af (ag 2) ar))) (cq 2 (aI (bD 4) (aI (bD 5) cn)))
 wK)
 (bg (gG fL (af (ag 3) ar)))))
noncomputable def kN:List U->R U:=dC .S 8 pU
noncomputable abbrev kO:Gm:=⟨[false,true,false,false],false,λ_=>False⟩
noncomputable def fN:Nat->Ev->SR
 |0=>λ_=>.stk
 |n+1=>let r_arrangements:=dC .O 4 (fN n)
  (aK (ku (gB (aJ (iJ id) (gG iq (af (ag 0) ar)) (gC (.int 0)))) (bg (bE (af (aQ ar) ar))) bF)
 (aK (a8 1 (bE ar))
 (aK (g_ (bW (ag 0)) (bD 2)
 (aK (a8 3 (dO (bW (ag 0)) [none,some 2] (bD 0) (gB (aJ (iJ not) (ag 0) (ag 1))) (ag 0)))
 (lU (gM "list" 1 lu (af (dO (bW (dQ 1 r_arrangements (af (ag 3) ar))) [none,some 2] (bD 0) fJ (aJ dR (aQ (af (ag 1) ar)) (ag 0))) ar)))))
 (bg (ag 1)))))
noncomputable def iR (n:Nat):List U->R U:=dC .O 4 (fN n)
noncomputable abbrev AA:Gm:=⟨[false,false],false,λ_=>False⟩
noncomputable def tG:Ev->SR:=(aK (ku (gB (aJ Oc (gG iq (af (ag 1) ar)) (gC (.int 4)))) (λ_=>.exc "TooMany" .non) bF)
 (bg (gG fL (af (dO (bW (dQ 1 (iR 6) (af (o8 (af (gG iq (af (ag 1) ar)) ar)) ar))) [none,some 0,some 1] (bD 0) fJ (dQ 3 kN (af (ag 1) (af (ag 2) (af (ag 0) ar))))) ar))))
noncomputable def mC:List U->R U:=dC .S 2 tG
noncomputable abbrev Dr:Gm:=⟨[false],false,λ_=>False⟩
noncomputable def vB:Ev->SR:=(bg (aQ (af (aJ c9 (gC (.int 2)) (ag 0)) (af (aJ dR (aJ c9 (gC (.int 2)) (ag 0)) (gC (.int 1))) ar))))
noncomputable def iE:List U->R U:=dC .S 1 vB
noncomputable abbrev Gy:Gm:=⟨[false],false,λ_=>False⟩
noncomputable def yL:Ev->SR:=(bg (aQ (af (aJ bZ (ag 0) (gC (.int 1))) (af (aJ bZ (ag 0) (gC (.int 0))) ar))))
noncomputable def nG:List U->R U:=dC .S 1 yL
noncomputable abbrev yM:Gm:=⟨[false,false,true,false],false,λ_=>False⟩
noncomputable def wL:Ev->SR:=(lU (gM "list" 2 lu (af (ag 3) ar)))
noncomputable def pV:Ev->SR:=(aK (a8 2 (bE ar))
 (aK (g_ (bW (ag 1)) (bD 3)
 wL)
 (lM 2 (bg (aQ (af (gC (.str "end")) (af (gG fL (af (aJ dR (ag 2) (dO (lV (af (ag 0) ar)) [none,some 2] (bD 0) (gB (aJ (O6 not) (ag 0) (ag 1))) (ag 0))) ar)) ar)))))))
noncomputable def jh:List U->R U:=dC .S 4 pV
noncomputable abbrev oN:Gm:=⟨[false,false,false],false,λ_=>False⟩
noncomputable def jE:Ev->SR:=(bg (aQ (af (gC (.str "mix")) (af (dQ 2 mC (af (ag 0) (af (ag 1) ar))) (af (aQ (af (gC (.str "look")) (af (aQ (af (aJ bZ (aJ bZ (ag 1) (gC (.int 0))) (gC (.int 0))) ar)) (af (aQ (af (aQ (af (aQ (af (gC (.int 0)) ar)) (af (aJ bZ (ag 2) (gC (.int 0))) ar))) (af (aQ (af (aQ (af (gC (.int 1)) ar)) (af (aJ bZ (ag 2) (gC (.int 1))) ar))) ar))) ar)))) ar)))))
noncomputable def gu:List U->R U:=dC .S 3 jE
noncomputable abbrev Ds:Gm:=⟨[false,false],false,λ_=>False⟩
noncomputable def vC:Ev->SR:=(bg (aQ (af (aJ dR (aQ (af (aJ bZ (ag 0) (gC (.int 0))) ar)) (gG fL (af (dO (bW (ag 1)) [none] (bD 0) fJ (aJ bZ (ag 0) (gC (.int 0)))) ar))) (af (aJ dR (aQ (af (aJ bZ (ag 0) (gC (.int 1))) ar)) (gG fL (af (dO (bW (ag 1)) [none] (bD 0) fJ (aJ bZ (ag 0) (gC (.int 1)))) ar))) ar))))
noncomputable def oO:List U->R U:=dC .S 2 vC
noncomputable abbrev Dt:Gm:=⟨[false,false,false,true],false,λ_=>False⟩
noncomputable def vD:Ev->SR:=(aK (a8 2 (dQ 1 iE (af (ag 1) ar)))
 (aK (a8 3 (o8 (af (ag 0) ar)))
 (aK (mX 3 (aJ bZ (ag 2) (gC (.int 1))) (aJ bZ (ag 2) (gC (.int 0))))
 (aK (mX 3 (aJ bZ (ag 2) (gC (.int 0))) (aJ bZ (ag 2) (gC (.int 1))))
 (bg (aQ (af (gC (.str "end")) (af (gG fL (af (ag 3) ar)) ar))))))))
noncomputable def cF:List U->R U:=dC .S 4 vD
noncomputable abbrev MA:Gm:=⟨[false,false,false,false,false,false],false,λ_=>False⟩
noncomputable def Gz:Ev->SR:=(aK (a8 3 (dQ 1 iE (af (ag 1) ar)))
 (aK (a8 4 (dQ 1 iE (af (ag 2) ar)))
 (aK (a8 5 (aQ (af (dQ 2 jh (af (ag 0) (af (aQ (af (ag 4) (af (ag 3) ar))) ar))) (af (dQ 2 jh (af (ag 0) (af (aQ (af (dQ 1 nG (af (ag 4) ar)) (af (dQ 1 nG (af (ag 3) ar)) ar))) ar))) ar))))
 (bg (dQ 3 gu (af (ag 0) (af (dQ 2 oO (af (ag 3) (af (aQ (af (ag 4) ar)) ar))) (af (ag 5) ar))))))))
noncomputable def iS:List U->R U:=dC .S 6 Gz
noncomputable abbrev tH:Gm:=⟨[false,false],false,λ_=>False⟩
noncomputable def fO:Ev->SR:=(aK (ku (gB (aJ Ob (ag 1) (gG iq (af (ag 0) ar)))) (bg (aJ bZ (ag 0) (ag 1))) bF)
 (bg (gC (.int 0))))
noncomputable def c_:List U->R U:=dC .S 2 fO
noncomputable abbrev wM:Gm:=⟨[false,false,false],false,λ_=>False⟩
noncomputable def iu:Ev->SR:=(aK (a8 2 (dQ 2 c_ (af (ag 0) (af (ag 1) ar))))
 (aK (ku (gB (aJ RJ (ag 2) (aJ HW (gC (.int 10)) (gC (.int 18))))) (bg (bE (af (aJ ui (ag 2) (aJ HW (gC (.int 10)) (gC (.int 18)))) (af (gC (.bl true)) ar)))) bF)
 (bg (bE (af (aJ rN (ag 2) (gC (.int 2147483647))) (af (gC (.bl false)) ar))))))
noncomputable def fP:List U->R U:=dC .O 3 iu
noncomputable abbrev yN:Gm:=⟨[true,false,false,false],true,λ_=>False⟩
noncomputable def ji:Ev->SR:=(aK (ku (gB (aJ bZ (ag 0) (gC (.int 1)))) (aK (a8 2 (aJ rN (aJ bZ (ag 0) (gC (.int 0))) (ag 1)))
 (aK (mX 0 (aJ mZ (aJ bZ (ag 0) (gC (.int 0))) (ag 1)) (gC (.int 0)))
 (bg (ag 2)))) bF)
 (aK (mX 0 (aJ rN (aJ dR (aJ c9 (aJ bZ (ag 0) (gC (.int 0))) (gC (.int 48271))) (gC (.int 29))) (gC (.int 2147483647))) (gC (.int 0)))
 (aK (a8 3 (aJ rN (aJ dR (aJ dR (aJ c9 (aJ bZ (ag 0) (gC (.int 0))) (aJ bZ (ag 0) (gC (.int 0)))) (aJ c9 (gC (.int 39373)) (aJ bZ (ag 0) (gC (.int 0))))) (gC (.int 7))) (gC (.int 2147483629))))
 (aK (a8 3 (aJ rN (aJ dR (aJ c9 (ag 3) (ag 3)) (aJ c9 (gC (.int 16807)) (ag 3))) (gC (.int 2147483587))))
 (bg (aJ rN (aJ mZ (ag 3) (gC (.int 8))) (ag 1)))))))
noncomputable def ba:List U->R (U×U):=xP 4 ji
noncomputable abbrev tJ:Gm:=⟨[false,false],false,λ_=>False⟩
noncomputable def kP:Ev->SR:=(aK (a8 0 (gG HX (af (ag 0) ar)))
 (aK (a8 1 (gG HX (af (ag 1) ar)))
 (aK (mf (gB (aJ Oc (ag 1) (gC (.int 0))))
 (LB 0 1 (af (ag 1) (af (aJ rN (ag 0) (ag 1)) ar))) 1000)
 (bg (ag 0)))))
noncomputable def iT:List U->R U:=dC .S 2 kP
noncomputable abbrev wN:Gm:=⟨[false,false,false],false,λ_=>False⟩
noncomputable def nH:Ev->SR:=(aK (a8 2 (dQ 2 iT (af (ag 0) (af (ag 1) ar))))
 (bg (aQ (af (aJ mZ (ag 0) (ag 2)) (af (aJ mZ (ag 1) (ag 2)) ar)))))
noncomputable def bP:List U->R U:=dC .S 3 nH
noncomputable abbrev yO:Gm:=⟨[false,false],false,λ_=>False⟩
noncomputable def pW:Ev->SR:=(bg (gG fL (af (dO (bW (ag 1)) [none,some 0] (bD 0) fJ (aJ bZ (ag 1) (ag 0))) ar)))
noncomputable def fo:List U->R U:=dC .S 2 pW
noncomputable abbrev nI:Gm:=⟨[false,false,false,false,false,true,false,false,false,false],false,λ_=>False⟩
noncomputable def iw:Nat->Ev->SR
 |0=>λ_=>.stk
 |n+1=>let r__law_paths:=dC .S 10 (iw n)
  (aK (ku (gB (aJ (iJ id) (aJ bZ (ag 0) (gC (.int 0))) (gC (.str "again")))) (bg (bE (af (aQ (af (ag 4) (af (gC .non) (af (ag 3) ar)))) ar))) bF)
 (aK (ku (gB (aJ (iJ id) (aJ bZ (ag 0) (gC (.int 0))) (gC (.str "end")))) (bg (bE (af (aQ (af (ag 4) (af (dQ 2 fo (af (ag 1) (af (aJ bZ (ag 0) (gC (.int 1))) ar))) (af (ag 3) ar)))) ar))) bF)
 (aK (ku (gB (aJ (iJ id) (aJ bZ (ag 0) (gC (.int 0))) (gC (.str "lay")))) (bg (dQ 5 r__law_paths (af (aJ bZ (ag 0) (gC (.int 2))) (af (dQ 2 fo (af (ag 1) (af (aJ bZ (ag 0) (gC (.int 1))) ar))) (af (ag 2) (af (ag 3) (af (ag 4) ar))))))) bF)
 (aK (ku (gB (aJ (iJ id) (aJ bZ (ag 0) (gC (.int 0))) (gC (.str "mix")))) (aK (a8 5 (bE ar))
 (aK (g_ (bW (aJ bZ (ag 0) (gC (.int 1)))) (bD 6)
 (lU (gM "list" 5 lu (af (dQ 5 r__law_paths (af (aJ bZ (ag 0) (gC (.int 2))) (af (dQ 2 fo (af (ag 1) (af (ag 6) ar))) (af (ag 2) (af (aJ c9 (ag 3) (gG iq (af (aJ bZ (ag 0) (gC (.int 1))) ar))) (af (ag 4) ar)))))) ar))))
 (bg (ag 5)))) bF)
 (aK (a8 7 (dQ 2 fo (af (ag 1) (af (aJ bZ (ag 0) (gC (.int 1))) ar))))
 (aK (g_ (bW (aJ bZ (ag 0) (gC (.int 2)))) (cq 2 (aI (bD 8) (aI (bD 9) cn)))
 (ku (gB (aJ (iJ id) (ag 8) (ag 7))) (bg (dQ 5 r__law_paths (af (ag 9) (af (ag 1) (af (ag 2) (af (ag 3) (af (aJ dR (ag 4) (aQ (af (ag 7) ar))) ar))))))) bF))
 (bg (bE (af (aQ (af (ag 4) (af (aQ (af (gC (.str "no way")) (af (ag 7) ar))) (af (ag 3) ar)))) ar)))))))))
noncomputable def ai (n:Nat):List U->R U:=dC .S 10 (iw n)
noncomputable abbrev wO:Gm:=⟨[false,false,false,false],false,λ_=>False⟩
noncomputable def uo:Ev->SR:=(a8 1 (dQ 2 bP (af (aJ dR (aJ c9 (aJ bZ (ag 1) (gC (.int 0))) (ag 3)) (aJ c9 (ag 2) (aJ bZ (ag 1) (gC (.int 1))))) (af (aJ c9 (aJ bZ (ag 1) (gC (.int 1))) (ag 3)) ar))))
noncomputable def nJ:Ev->SR:=(aK (a8 1 (aQ (af (gC (.int 0)) (af (gC (.int 1)) ar))))
 (aK (g_ (bW (ag 0)) (cq 2 (aI (bD 2) (aI (bD 3) cn)))
 uo)
 (bg (ag 1))))
noncomputable def bz:List U->R U:=dC .S 4 nJ
noncomputable abbrev uq:Gm:=⟨[false,false,true,false,false,false,false,true,false,false,false],false,λ_=>False⟩
noncomputable def bX:Ev->SR:=(aK (a8 8 (dO (bW (gG pR (af (aJ jV (ag 2) (ag 3)) ar))) [none,some 2,some 3] (bD 0) fJ (aQ (af (ag 0) (af (dQ 1 bz (af (aJ jV (aJ jV (ag 1) (ag 2)) (ag 0)) ar)) ar)))))
 (aK (a8 9 (dQ 1 bz (af (dO (bW (ag 8)) [none,none] (cq 2 (aI (bD 0) (aI (bD 1) cn))) fJ (ag 1)) ar)))
 (aK (a8 10 (dO (bW (ag 8)) [none,none,some 9] (cq 2 (aI (bD 0) (aI (bD 1) cn))) fJ (aQ (af (ag 0) (af (dQ 2 bP (af (aJ c9 (aJ bZ (ag 1) (gC (.int 0))) (aJ bZ (ag 2) (gC (.int 1)))) (af (aJ c9 (aJ bZ (ag 1) (gC (.int 1))) (aJ bZ (ag 2) (gC (.int 0)))) ar))) ar)))))
 (lU (gM "list" 7 jg (af (aQ (af (ag 3) (af (dQ 2 bP (af (aJ c9 (aJ bZ (ag 9) (gC (.int 0))) (aJ bZ (ag 6) (gC (.int 1)))) (af (aJ c9 (aJ bZ (ag 9) (gC (.int 1))) (aJ bZ (ag 6) (gC (.int 0)))) ar))) (af (ag 10) ar)))) ar))))))
noncomputable def jt:Ev->SR:=(aK (a8 1 (dQ 1 bz (af (dO (bW (ag 0)) [none,none,none] (cq 3 (aI (bD 0) (aI (bD 1) (aI (bD 2) cn)))) (gB (aJ (m4 id) (ag 1) (gC .non))) (aQ (af (gC (.int 1)) (af (ag 2) ar)))) ar)))
 (aK (a8 2 QI)
 (aK (B5 2 (Gw 2 (bW (ag 0)) (cq 3 (aI (bD 3) (aI (bD 4) (aI (bD 5) cn))))
 (Mt 2 (gB (aJ (m4 not) (ag 4) (gC .non))) (Mx 2 (vy 2 (Aw 0) (vy 2 (Aw 1) (B6 2) (ag 3)) (ag 4)) (aQ (af (gC (.int 1)) (af (ag 5) ar)))) bF)))
 (lM 2 (aK (a8 6 (dQ 2 bP (af (aJ ui (aJ bZ (ag 1) (gC (.int 1))) (aJ bZ (ag 1) (gC (.int 0)))) (af (aJ bZ (ag 1) (gC (.int 1))) ar))))
 (aK (ku (gB (aJ (iJ id) (aJ bZ (ag 6) (gC (.int 0))) (gC (.int 0)))) (bg (aQ (af (ag 1) (af (gC .non) ar)))) bF)
 (aK (a8 7 (bE ar))
 (aK (g_ (bW (gG kM (af (ag 2) ar))) (bD 3)
 bX)
 (lM 7 (bg (aQ (af (ag 1) (af (ag 7) ar)))))))))))))
noncomputable def bQ:List U->R U:=dC .S 11 jt
noncomputable abbrev yP:Gm:=⟨[false,false,false,false,false],false,λ_=>False⟩
noncomputable def kQ:Ev->SR:=(aK (a8 2 (dQ 5 (ai 6) (af (ag 0) (af (ag 1) (af (ag 1) (af (gC (.int 1)) (af (aQ ar) ar)))))))
 (aK (a8 3 (dO (bW (ag 2)) [none,none,none] (cq 3 (aI (bD 0) (aI (bD 1) (aI (bD 2) cn)))) (ox (gB (aJ (m4 not) (ag 1) (gC .non))) (gB (aJ (iJ id) (Jo EO (ag 1) o7 (mR (gC (.int 1)))) (aQ (af (gC (.str "no way")) ar))))) (aJ bZ (ag 1) (gC (.int 1)))))
 (aK (ku (gB (aJ (iJ not) (ag 3) (bE ar))) (bg (aQ (af (gC (.str "way")) (af (ag 3) ar)))) bF)
 (aK (a8 4 (aJ bZ (dQ 1 bQ (af (ag 2) ar)) (gC (.int 1))))
 (aK (ku (gB (aJ (m4 id) (ag 4) (gC .non))) (bg (aQ (af (gC (.str "end")) (af (bE ar) ar)))) bF)
 (bg (aQ (af (gC (.str "walked")) (af (ag 4) ar)))))))))
noncomputable def aG:List U->R U:=dC .S 5 kQ
noncomputable abbrev nK:Gm:=⟨[false,false,false,false,false,false,false],false,λ_=>False⟩
noncomputable def iy:Nat->Ev->SR
 |0=>λ_=>.stk
 |n+1=>let r__law_sound:=dC .S 7 (iy n)
  (aK (ku (ox (gB (aJ (iJ id) (aJ bZ (ag 0) (gC (.int 0))) (gC (.str "end")))) (gB (aJ (iJ id) (gG iq (af (ag 0) ar)) (gC (.int 2))))) (aK (a8 3 (dO (bW (aJ bZ (ag 0) (gC (.int 1)))) [none,some 1] (bD 0) (EC (gB (rE LN Ob (gC (.int 0)) (ag 0) (ag 1)))) (ag 0)))
 (aK (ku (HL (gB (aJ (iJ not) (ag 3) (bE ar))) (HL (gB (aJ (iJ not) (gG qB (af (aJ bZ (ag 0) (gC (.int 1))) ar)) (gG iq (af (aJ bZ (ag 0) (gC (.int 1))) ar)))) (ox (gB (ag 2)) (gB (aJ Ob (gG iq (af (aJ bZ (ag 0) (gC (.int 1))) ar)) (ag 1)))))) (bg (gC .non)) bF)
 (bg (RC (gB (aJ Oc (gG iq (af (aJ bZ (ag 0) (gC (.int 1))) ar)) (gC (.int 0)))) (aQ (af (gC (.int 1)) (af (gC (.int 1)) ar))) (gC .non))))) bF)
 (aK (a8 4 (bE ar))
 (aK (ku (ox (gB (aJ (iJ id) (aJ bZ (ag 0) (gC (.int 0))) (gC (.str "look")))) (gB (aJ (iJ id) (gG iq (af (ag 0) ar)) (gC (.int 3))))) (aK (a8 5 (dO (bW (aJ bZ (ag 0) (gC (.int 2)))) [none] (bD 0) fJ (aJ bZ (ag 0) (gC (.int 0)))))
 (ku (ox (gB (aJ (iJ id) (ag 5) (gG dZ (af (ag 5) ar)))) (gB (aJ (iJ id) (dO (bW (ag 5)) [none,some 0] (bD 0) (gB (aJ (iJ not) (gG iq (af (ag 0) ar)) (gG iq (af (aJ bZ (ag 1) (gC (.int 1))) ar)))) (ag 0)) (bE ar)))) (a8 4 (dO (bW (aJ bZ (ag 0) (gC (.int 2)))) [none] (bD 0) fJ (aJ bZ (ag 0) (gC (.int 1))))) bF)) bF)
 (aK (ku (ox (gB (aJ (iJ id) (aJ bZ (ag 0) (gC (.int 0))) (gC (.str "lay")))) (ox (gB (aJ (iJ id) (gG iq (af (ag 0) ar)) (gC (.int 3)))) (gB (aJ (iJ id) (gG pR (af (aJ bZ (ag 0) (gC (.int 1))) ar)) (o8 (af (ag 1) ar)))))) (a8 4 (bE (af (aJ bZ (ag 0) (gC (.int 2))) ar))) bF)
 (aK (ku (ox (gB (aJ (iJ id) (aJ bZ (ag 0) (gC (.int 0))) (gC (.str "mix")))) (ox (gB (aJ (iJ id) (gG iq (af (ag 0) ar)) (gC (.int 3)))) (gB (rE LN LN (gC (.int 1)) (gG iq (af (aJ bZ (ag 0) (gC (.int 1))) ar)) (gC (.int 24)))))) (ku (gB (aJ (iJ id) (dO (bW (aJ bZ (ag 0) (gC (.int 1)))) [none,some 1] (bD 0) (gB (aJ (iJ not) (gG pR (af (ag 0) ar)) (o8 (af (ag 1) ar)))) (ag 0)) (bE ar))) (a8 4 (bE (af (aJ bZ (ag 0) (gC (.int 2))) ar))) bF) bF)
 (aK (a8 6 (dO (bW (ag 4)) [none,some 1,some 2] (bD 0) fJ (dQ 3 r__law_sound (af (ag 0) (af (ag 1) (af (ag 2) ar))))))
 (aK (ku (HL (gB (aJ (iJ id) (ag 6) (bE ar))) (gB (aJ (O6 id) (gC .non) (ag 6)))) (bg (gC .non)) bF)
 (bg (aQ (af (aJ dR (gC (.int 1)) (gG Gn (af (dO (bW (ag 6)) [none] (bD 0) fJ (aJ bZ (ag 0) (gC (.int 0)))) ar))) (af (aJ dR (gC (.int 1)) (gG Gq (af (dO (bW (ag 6)) [none] (bD 0) fJ (aJ bZ (ag 0) (gC (.int 1)))) ar))) ar)))))))))))
noncomputable def j0 (n:Nat):List U->R U:=dC .S 7 (iy n)
noncomputable abbrev yQ:Gm:=⟨[false],false,λ_=>False⟩
noncomputable def pX:Ev->SR:=(bg (aQ (af (ag 0) (af (aJ ui (gC (.int 1)) (ag 0)) ar))))
noncomputable def jj:List U->R U:=dC .S 1 pX
noncomputable abbrev cK:Gm:=⟨[true,false,false,false,true,false,false],true,λ_=>False⟩
noncomputable def iU:Ev->SR:=(aK (mX 4 (ag 6) (aJ c9 (gC (.int 2)) (ag 5)))
 (mX 4 (aJ ui (gC (.int 1)) (ag 6)) (aJ dR (aJ c9 (gC (.int 2)) (ag 5)) (gC (.int 1)))))
noncomputable def fQ:Ev->SR:=(aK (a8 4 (zL cK (lV (af (ag 1) ar)) [none,some 0] (bD 0) fJ (uS 2 1 ba (af (gC (.int 10)) ar))))
 (aK (g_ (C3 (af (ag 2) (af (ag 3) ar))) (cq 2 (aI (bD 5) (aI (bD 6) cn)))
 iU)
 (bg (gG fL (af (ag 4) ar)))))
noncomputable def bf:List U->R (U×U):=xP 7 fQ
noncomputable abbrev ur:Gm:=⟨[false,false,false],false,λ_=>False⟩
noncomputable def l0:Ev->SR:=(aK (a8 2 (dO (lV (af (gG iq (af (ag 0) ar)) ar)) [none,some 1] (bD 0) (gB (aJ (O6 not) (aJ mZ (ag 0) (gC (.int 2))) (ag 1))) (ag 0)))
 (bg (gG fL (af (dO (bW (ag 2)) [none,some 0] (bD 0) fJ (aJ bZ (ag 1) (ag 0))) ar))))
noncomputable def gJ:List U->R U:=dC .S 3 l0
noncomputable abbrev iV:Gm:=⟨[true,false,false,true],true,λ_=>False⟩
noncomputable def iW:Ev->SR:=(aK (a8 3 (o8 (af (aJ mZ (ag 1) (gC (.int 2))) ar)))
 (bg (zL iV (lV (af (ag 2) ar)) [none,some 3,some 0] (bD 0) fJ (gM "list" 1 oB (af (uS 2 2 ba (af (gG iq (af (ag 1) ar)) ar)) ar)))))
noncomputable def cv:List U->R (U×U):=xP 4 iW
noncomputable abbrev qd:Gm:=⟨[false,false,false],false,λ_=>False⟩
noncomputable def oP:Ev->SR:=(a8 1 (aJ dR (dO (bW (ag 1)) [none] (bD 0) fJ (aJ dR (ag 0) (aQ (af (gC (.int 0)) ar)))) (dO (bW (ag 1)) [none] (bD 0) fJ (aJ dR (ag 0) (aQ (af (gC (.int 1)) ar))))))
noncomputable def j6:Ev->SR:=(aK (a8 1 (bE (af (aQ ar) ar)))
 (aK (g_ (lV (af (ag 0) ar)) (bD 2)
 oP)
 (bg (ag 1))))
noncomputable def fc:List U->R U:=dC .S 3 j6
noncomputable abbrev lQ:Gm:=⟨[false,false,false,false],false,λ_=>False⟩
noncomputable def c7:Ev->SR:=(aK (xM (cq 2 (aI (bD 2) (aI (bD 3) cn))) (dQ 2 aG (af (ag 0) (af (ag 1) ar))))
 (aK (ku (gB (aJ (iJ not) (ag 2) (gC (.str "walked")))) (bg (gC .non)) bF)
 (bg (dO (bW (ag 3)) [none,none,none] (cq 3 (aI (bD 0) (aI (bD 1) (aI (bD 2) cn)))) fJ (aQ (af (ag 0) (af (ag 1) ar)))))))
noncomputable def aM:List U->R U:=dC .S 4 c7
noncomputable abbrev tK:Gm:=⟨[false,false,false,false,true,false,false,false],false,λ_=>False⟩
noncomputable def dH:Ev->SR:=(lU (gM "list" 4 lu (af (dO (bW (ag 7)) [none,none] (cq 2 (aI (bD 0) (aI (bD 1) cn))) fJ (ag 0)) ar)))
noncomputable def fR:Ev->SR:=(aK (xM (cq 2 (aI (bD 2) (aI (bD 3) cn))) (dQ 2 aG (af (ag 0) (af (ag 1) ar))))
 (aK (ku (gB (aJ (iJ not) (ag 2) (gC (.str "walked")))) (bg (gC .non)) bF)
 (aK (a8 4 (bE ar))
 (aK (g_ (bW (ag 3)) (cq 3 (aI (bD 5) (aI (bD 6) (aI (bD 7) cn))))
 dH)
 (bg (gG dZ (af (ag 4) ar)))))))
noncomputable def bj:List U->R U:=dC .S 8 fR
noncomputable abbrev yR:Gm:=⟨[false,false,false],false,λ_=>False⟩
noncomputable def pY:Ev->SR:=(aK (a8 2 (dQ 3 (j0 6) (af (ag 0) (af (ag 1) (af (gC (.bl true)) ar)))))
 (bg (CF (aJ (m4 not) (ag 2) (gC .non)) (CF (aJ LN (aJ bZ (ag 2) (gC (.int 0))) (gC (.int 5))) (aJ LN (aJ bZ (ag 2) (gC (.int 1))) (gC (.int 3)))))))
noncomputable def aX:List U->R U:=dC .S 3 pY
noncomputable abbrev uu:Gm:=⟨[true,false,false,false,false,false,false],true,λ_=>False⟩
noncomputable def fS:Ev->SR:=(aK (a8 5 (uS 4 0 bf (af (ag 1) (af (bE (af (ag 2) ar)) (af (aQ (af (ag 4) ar)) ar)))))
 (aK (a8 6 (aJ dR (aJ dR (Jo EO (ag 5) o7 (mR (aJ c9 (gC (.int 2)) (ag 2)))) (aQ (af (aJ ui (gC (.int 1)) (ag 4)) (af (ag 4) ar)))) (Jo EO (ag 5) (mR (aJ dR (aJ c9 (gC (.int 2)) (ag 2)) (gC (.int 2)))) o7)))
 (ku (HL (gB (aJ (iJ not) (dQ 2 bj (af (ag 3) (af (ag 5) ar))) (bE (af (ag 6) ar)))) (gB (aJ (iJ not) (dQ 2 aM (af (ag 3) (af (ag 5) ar))) (dQ 2 aM (af (ag 3) (af (ag 6) ar)))))) (bg (gC (.bl false))) bF)))
noncomputable def ju:Ev->SR:=(aK (a8 2 (uS 2 0 ba (af (aJ mZ (ag 1) (gC (.int 2))) ar)))
 (aK (a8 3 (dQ 2 cF (af (ag 1) (af (ag 2) ar))))
 (aK (g_ (bW (bE (af (gC (.int 0)) (af (gC (.int 1)) (af (gC (.int 0)) (af (gC (.int 1)) ar)))))) (bD 4)
 fS)
 (bg (dQ 2 aX (af (ag 3) (af (ag 1) ar)))))))
noncomputable def eW:List U->R (U×U):=xP 7 ju
noncomputable abbrev nN:Gm:=⟨[true,false,false,false,true,false,false,false],true,λ_=>False⟩
noncomputable def bL:Ev->SR:=(aK (a8 6 (uS 4 0 bf (af (ag 1) (af (ag 2) (af (ag 5) ar)))))
 (aK (a8 7 (aJ dR (aJ dR (dQ 1 jj (af (aJ rN (aJ dR (aJ bZ (ag 5) (gC (.int 0))) (aJ bZ (ag 5) (gC (.int 1)))) (gC (.int 2))) ar)) (aQ (af (gC (.int 0)) (af (gC (.int 1)) ar)))) (dQ 2 gJ (af (ag 6) (af (ag 2) ar)))))
 (aK (ku (gB (aJ (iJ not) (dQ 2 bj (af (ag 3) (af (ag 6) ar))) (bE (af (ag 7) ar)))) (bg (gC (.bl false))) bF)
 (lU (gM "list" 4 jg (af (dQ 2 aM (af (ag 3) (af (ag 6) ar))) ar))))))
noncomputable def fT:Ev->SR:=(aK (a8 2 (uS 3 0 cv (af (ag 1) (af (gC (.int 2)) ar))))
 (aK (a8 3 (dQ 3 iS (af (ag 1) (af (aJ bZ (ag 2) (gC (.int 0))) (af (aJ bZ (ag 2) (gC (.int 1))) ar)))))
 (aK (a8 4 (bE ar))
 (aK (g_ (bW (aJ B3 (dQ 1 fc (af (gC (.int 2)) ar)) (gC (.int 2)))) (bD 5)
 bL)
 (lM 4 (bg (CF (dQ 2 aX (af (ag 3) (af (ag 1) ar))) (aJ (iJ id) (dO (bW (ag 4)) [none,some 4] (bD 0) (gB (aJ (iJ not) (ag 0) (aJ bZ (ag 1) (gC (.int 0))))) (ag 0)) (bE ar)))))))))
noncomputable def cN:List U->R (U×U):=xP 8 fT
noncomputable abbrev Pd:Gm:=⟨[false,false,true],false,λ_=>False⟩
noncomputable def wQ:Ev->SR:=(aK (a8 2 (dQ 2 fP (af (ag 0) (af (ag 1) ar))))
 (ku (HL (EC (gB (uS 2 2 eW (af (aJ dR (gC (.int 2)) (uS 2 2 ba (af (gC (.int 7)) ar))) ar)))) (EC (gB (uS 2 2 cN (af (aJ dR (gC (.int 4)) (uS 2 2 ba (af (gC (.int 5)) ar))) ar))))) (bg (gC (.bl false))) bF))
noncomputable def GA:Ev->SR:=(aK (g_ (lV (af (gG Bk (af (gC (.int 1)) (af (gG Bl (af (gG iq (af (ag 0) ar)) (af (gC (.int 3)) ar))) ar))) ar)) (bD 1)
 wQ)
 (bg (gC (.bl true))))
noncomputable def yS:List U->R U:=dC .S 3 GA
end Hc
end
namespace Hc
open L2
noncomputable def top (i:Nat):aak:=PySem.Challenge.pw_hushcards_k52_turned_and_one_of_two.main.body.getD i (.Pass ⟨0,0,0,0⟩)
noncomputable abbrev gw:aak:=top 5
noncomputable abbrev bR:aak:=top 6
noncomputable abbrev iX:aak:=top 7
noncomputable abbrev lC:aak:=top 9
noncomputable abbrev lD:aak:=top 10
noncomputable abbrev gx:aak:=top 11
noncomputable abbrev dM:aak:=top 12
noncomputable abbrev gP:aak:=top 13
noncomputable abbrev jF:aak:=top 14
noncomputable abbrev vE:aak:=top 15
noncomputable abbrev gy:aak:=top 17
noncomputable abbrev iF:aak:=top 18
noncomputable abbrev jG:aak:=top 19
noncomputable abbrev fq:aak:=top 20
noncomputable abbrev iG:aak:=top 21
noncomputable abbrev iY:aak:=top 22
noncomputable abbrev gz:aak:=top 23
noncomputable abbrev cT:aak:=top 24
noncomputable abbrev iH:aak:=top 25
noncomputable abbrev iZ:aak:=top 26
noncomputable abbrev bM:aak:=top 27
noncomputable abbrev jH:aak:=top 28
noncomputable abbrev cU:aak:=top 29
noncomputable abbrev d8:aak:=top 30
noncomputable abbrev d9:aak:=top 31
noncomputable abbrev dq:aak:=top 32
noncomputable abbrev b_:aak:=top 33
noncomputable abbrev d_:aak:=top 34
noncomputable abbrev jI:aak:=top 35
noncomputable abbrev gA:aak:=top 36
noncomputable abbrev dD:aak:=top 37
noncomputable abbrev yT:aak:=top 38
abbrev Bd (x:Str)(ps:List Str)(s:aak):Prop:=∀(kV n9 pm:WB) (an:Option WT) (cP ct:WB) (us:List WB),us.length=ps.length->bindArgs (Yp x x (fD s) (cx s) (aq s) .none kV n9 pm an cP ct) ⟨us,[]⟩=pure (ps.zip us)
theorem l4 {P:List Str}{sc:abC}(a:sc.kind=.function:=by rfl)(b:sc.isCoroutine=false:=by rfl)(c:sc.isGenerator=false:=by rfl)(d:N.Nodup:=by decide+kernel)(e:N.take P.length=P:=by rfl)(f:∀x∈P,sc.names.lookup x=some .local\/sc.names.lookup x=some .cell:=by decide+kernel)(g:∀y∈sc.names,y.2≠.free:=by decide+kernel):aR N P sc:=⟨a,b,c,d,e,f,g⟩
theorem rm {A:Xh}(r:fB k A)(h:j<=k:=by first|decide|lia):fB j A:=r.mono h
theorem eJ:aR ["many","piles","sources","order","pile","source","place","origin"] ["many","piles","sources"] (aq gw):=l4
theorem wR:Bd "exchanged" ["many","piles","sources"] gw:=λ_ _ _ _ _ _ us hl=>match us,hl with|[_,_,_],_=>rfl
theorem dI:aR ["numbers","told","number","rest"] ["numbers"] (aq bR):=l4
theorem j7:Bd "arrangements" ["numbers"] bR:=λ_ _ _ _ _ _ us hl=>match us,hl with|[_],_=>rfl
theorem yU:aR ["many","piles"] ["many","piles"] (aq iX):=l4
theorem yV:Bd "pile_mix" ["many","piles"] iX:=λ_ _ _ _ _ _ us hl=>match us,hl with|[_,_],_=>rfl
theorem AB:aR ["number"] ["number"] (aq lC):=l4
theorem AD:Bd "pair_at" ["number"] lC:=λ_ _ _ _ _ _ us hl=>match us,hl with|[_],_=>rfl
theorem Du:aR ["pair"] ["pair"] (aq lD):=l4
theorem Dv:Bd "turned" ["pair"] lD:=λ_ _ _ _ _ _ us hl=>match us,hl with|[_],_=>rfl
theorem j1:aR ["many","pairs","places","pair"] ["many","pairs"] (aq gx):=l4
theorem wU:Bd "whole_end" ["many","pairs"] gx:=λ_ _ _ _ _ _ us hl=>match us,hl with|[_,_],_=>rfl
theorem nO:aR ["many","piles","plans"] ["many","piles","plans"] (aq dM):=l4
theorem nP:Bd "mixed_and_seen" ["many","piles","plans"] dM:=λ_ _ _ _ _ _ us hl=>match us,hl with|[_,_,_],_=>rfl
theorem AE:aR ["one","others"] ["one","others"] (aq gP):=l4
theorem AF:Bd "turning" ["one","others"] gP:=λ_ _ _ _ _ _ us hl=>match us,hl with|[_,_],_=>rfl
theorem mD:aR ["many","at","pair","order"] ["many","at"] (aq jF):=l4
theorem AG:Bd "negated" ["many","at"] jF:=λ_ _ _ _ _ _ us hl=>match us,hl with|[_,_],_=>rfl
theorem qJ:aR ["many","one","other","first","second","ends"] ["many","one","other"] (aq vE):=l4
theorem IU:Bd "oned" ["many","one","other"] vE:=λ_ _ _ _ _ _ us hl=>match us,hl with|[_,_,_],_=>rfl
theorem qe:aR ["script","k"] ["script","k"] (aq gy):=l4
theorem qf:Bd "_law_cell_at" ["script","k"] gy:=λ_ _ _ _ _ _ us hl=>match us,hl with|[_,_],_=>rfl
theorem l5:aR ["script","k","cell"] ["script","k"] (aq iF):=l4
theorem uv:Bd "_law_state" ["script","k"] iF:=λ_ _ _ _ _ _ us hl=>match us,hl with|[_,_],_=>rfl
theorem iz:aR ["state","many","found","mixed"] ["state","many"] (aq jG):=l4
theorem wV:Bd "_law_take" ["state","many"] jG:=λ_ _ _ _ _ _ us hl=>match us,hl with|[_,_],_=>rfl
theorem ff:aR ["one","other"] ["one","other"] (aq fq):=l4
theorem qg:Bd "_law_divisor" ["one","other"] fq:=λ_ _ _ _ _ _ us hl=>match us,hl with|[_,_],_=>rfl
theorem l6:aR ["top","bottom","by"] ["top","bottom"] (aq iG):=l4
theorem uw:Bd "_law_ratio" ["top","bottom"] iG:=λ_ _ _ _ _ _ us hl=>match us,hl with|[_,_],_=>rfl
theorem wW:aR ["row","order"] ["row","order"] (aq iY):=l4
theorem wX:Bd "_law_laid" ["row","order"] iY:=λ_ _ _ _ _ _ us hl=>match us,hl with|[_,_],_=>rfl
theorem cV:aR ["plan","row","start","bottom","trace","found","order","seen","some","part"] ["plan","row","start","bottom","trace"] (aq gz):=l4
theorem l7:Bd "_law_paths" ["plan","row","start","bottom","trace"] gz:=λ_ _ _ _ _ _ us hl=>match us,hl with|[_,_,_,_,_],_=>rfl
theorem a_:aR ["paths","again","ends","trace","result","bottom","ending","found","shares","whole","results"] ["paths"] (aq cT):=l4
theorem tL:Bd "_law_walked" ["paths"] cT:=λ_ _ _ _ _ _ us hl=>match us,hl with|[_],_=>rfl
theorem eX:aR ["some","found","top","bottom"] ["some"] (aq iH):=l4
theorem ux:Bd "_law_total" ["some"] iH:=λ_ _ _ _ _ _ us hl=>match us,hl with|[_],_=>rfl
theorem iA:aR ["plan","row","paths","lost","found"] ["plan","row"] (aq iZ):=l4
theorem wY:Bd "_law_gone" ["plan","row"] iZ:=λ_ _ _ _ _ _ us hl=>match us,hl with|[_,_],_=>rfl
theorem bS:aR ["plan","many","full","odd","parts","seen","found"] ["plan","many","full"] (aq bM):=l4
theorem l8:Bd "_law_sound" ["plan","many","full"] bM:=λ_ _ _ _ _ _ us hl=>match us,hl with|[_,_,_],_=>rfl
theorem wZ:aR ["bit"] ["bit"] (aq jH):=l4
theorem w6:Bd "_law_pair" ["bit"] jH:=λ_ _ _ _ _ _ us hl=>match us,hl with|[_],_=>rfl
theorem dE:aR ["state","many","numbers","bits","row","number","bit"] ["state","many","numbers","bits"] (aq cU):=l4
theorem mE:Bd "_law_with_pairs" ["state","many","numbers","bits"] cU:=λ_ _ _ _ _ _ us hl=>match us,hl with|[_,_,_,_],_=>rfl
theorem kR:aR ["row","numbers","left"] ["row","numbers"] (aq d8):=l4
theorem tM:Bd "_law_others" ["row","numbers"] d8:=λ_ _ _ _ _ _ us hl=>match us,hl with|[_,_],_=>rfl
theorem j8:aR ["state","many","count","left"] ["state","many","count"] (aq d9):=l4
theorem qh:Bd "_law_numbers" ["state","many","count"] d9:=λ_ _ _ _ _ _ us hl=>match us,hl with|[_,_,_],_=>rfl
theorem eK:aR ["count","found","k"] ["count"] (aq dq):=l4
theorem oQ:Bd "_law_all_bits" ["count"] dq:=λ_ _ _ _ _ _ us hl=>match us,hl with|[_],_=>rfl
theorem eh:aR ["plan","row","word","found"] ["plan","row"] (aq b_):=l4
theorem kS:Bd "_law_seen_chances" ["plan","row"] b_:=λ_ _ _ _ _ _ us hl=>match us,hl with|[_,_],_=>rfl
theorem cb:aR ["plan","row","word","found","told","trace","chance","results"] ["plan","row"] (aq d_):=l4
theorem qi:Bd "_law_results" ["plan","row"] d_:=λ_ _ _ _ _ _ us hl=>match us,hl with|[_,_],_=>rfl
theorem nQ:aR ["plan","many","size"] ["plan","many"] (aq jI):=l4
theorem w9:Bd "_law_good" ["plan","many"] jI:=λ_ _ _ _ _ _ us hl=>match us,hl with|[_,_],_=>rfl
theorem de:aR ["state","many","at","plan","bit","row","due"] ["state","many"] (aq gA):=l4
theorem tN:Bd "_law_turned" ["state","many"] gA:=λ_ _ _ _ _ _ us hl=>match us,hl with|[_,_],_=>rfl
theorem bA:aR ["state","many","numbers","plan","seen","bits","row","due"] ["state","many"] (aq dD):=l4
theorem mF:Bd "_law_one_of_two" ["state","many"] dD:=λ_ _ _ _ _ _ us hl=>match us,hl with|[_,_],_=>rfl
theorem AH:aR ["script","k","state"] ["script"] (aq yT):=l4
structure lR (mg:Str->Option WB):Prop where
 zhq:mg "abs"=none
 zjq:mg "len"=none
 zeq:mg "list"=none
 zfq:mg "max"=none
 zgq:mg "min"=none
 zdq:mg "range"=none
 zlq:mg "set"=none
 zbq:mg "sorted"=none
 zkq:mg "sum"=none
 zcq:mg "tuple"=none
 ziq:mg "zip"=none
 zaq:∃tk,mg "MOST_PILES_MIXED"=some (.int 4 tk)
end Hc
namespace Hc
open L2
section
variable {P:XF}{base:Y8}
theorem w_ (T:lR mg)  (gT:Df K mg "exchanged" gw):Fn P w K mg base "exchanged" 1 ["many","piles","sources"] (fb K 3 kN .S):=by
 refine Df.fnD (N:=["many","piles","sources","order","pile","source","place","origin"]) (ps:=["many","piles","sources"]) (st:=gw) (k:=0) yK .S pU gT eJ wR rfl (by decide) ?_;intro f cP A outer s0 H E hr;have hu:=hr.units;have kg:=bV hr;exact (ao (fH (i:=3) eJ.nd (lr rfl (ae (aj 0) ah) T.zeq T.zdq))
 (ao (fI Xu rfl (Af (ae (aj 1) (ae (aj 2) ah)) T.ziq) (fi rfl (aP (aB (i:=4) eJ.nd) (aP (aB (i:=5) eJ.nd) dB)))
 (aw (fI Xu rfl (Af (ae (aj 4) (ae (aL aD aE (aj 1) (aj 5) (λ_ _=>rfl)) ah)) T.ziq) (fi rfl (aP (aB (i:=6) eJ.nd) (aP (aB (i:=7) eJ.nd) dB)))
 (aw (jT (i:=3) (aj 7) (aj 6))))))
 (aw (aW (eG bN eI (by rfl) T.zcq fE (ae (g9 3) ah))))))
theorem qj (T:lR mg)  (dg:Df K mg "arrangements" bR):∀n,Fn P w K mg base "arrangements" (n+1) ["numbers"] (fb K 1 (iR n) .O):=by
 intro n
 induction n with
 |zero=>
  refine Df.fnD (N:=["numbers","told","number","rest"]) (ps:=["numbers"]) (st:=bR) (k:=0) kO .O (fN 0) dg dI j7 rfl (by decide) ?_;intro f cP A outer s0 H E hr;have hu:=hr.units;have kg:=bV hr;exact v7
 |succ n ez=>
  refine Df.fnD (N:=["numbers","told","number","rest"]) (ps:=["numbers"]) (st:=bR) (k:=n+1) kO .O (fN (n+1)) dg dI j7 rfl (by decide) ?_;intro f cP A outer s0 H E hr;have hu:=hr.units;have kg:=bV hr;exact (ao (dk (aZ (cz hu) (bp (f:=id)) (a7 bI cy (by rfl) T.zjq dw (ae (aj 0) ah)) ak (aV _)) (aw (vW (bK (ae (aT ah) ah)))) bt)
 (ao (fH (i:=1) dI.nd (bK ah))
 (ao (fI Xu rfl (bh (aj 0)) (aB (i:=2) dI.nd)
 (ao (eH (i:=3) (aq bR) ["numbers","told","number","rest"] ["other","number"] [none,some 2] dI.nd rfl (bh (aj 0)) (λY=>⟨(aB (i:=0) (show (["other","number"]:List Str).Nodup by decide+kernel)),(fK (aZ (g7 hu) (bp (f:=not)) (aj 0) (aj 1) (aV _))),(aj 0)⟩))
 (aw (k_ (md (i:=1) XN Zn Zo qA jU (ae (dP (aq bR) ["numbers","told","number","rest"] ["more","number"] [none,some 2] rfl (bh (aH ez (rm hr) (ae (aj 3) ah))) (λY=>⟨(aB (i:=0) (show (["more","number"]:List Str).Nodup by decide+kernel)),bB,(aS bw bx (aT (ae (aj 1) ah)) (aj 0))⟩)) ah))))))
 (aw (A_ (i:=1) (hi:=by decide))))))
theorem yW (T:lR mg)(kZ:Fn P w K mg base "exchanged" 1 ["many","piles","sources"] (fb K 3 kN .S))(ez:∀n,Fn P w K mg base "arrangements" (n+1) ["numbers"] (fb K 1 (iR n) .O))(i4:Df K mg "pile_mix" iX):Fn P w K mg base "pile_mix" 8 ["many","piles"] (fb K 2 mC .S):=by
 obtain⟨ik,zaq⟩:=T.zaq;refine Df.fnD (N:=["many","piles"]) (ps:=["many","piles"]) (st:=iX) (k:=7) AA .S tG i4 yU yV rfl (by decide) ?_;intro f cP A outer s0 H E hr;have hu:=hr.units;have kg:=bV hr;exact (ao (dk (aZ D4 zW (a7 bI cy (by rfl) T.zjq dw (ae (aj 1) ah)) (EB (i:=4) rfl zaq) (aV _)) (aw (LY λ_=>⟨_,_,rfl⟩)) bt)
 (aw (aW (eG bN eI (by rfl) T.zcq fE (ae (dP (aq iX) ["many","piles"] ["sources","many","piles"] [none,some 0,some 1] rfl (bh (aH (ez 6) (rm hr) (ae (lr rfl (ae (a7 bI cy (by rfl) T.zjq dw (ae (aj 1) ah)) ah) T.zeq T.zdq) ah))) (λY=>⟨(aB (i:=0) (show (["sources","many","piles"]:List Str).Nodup by decide+kernel)),bB,(aH kZ (rm hr) (ae (aj 1) (ae (aj 2) (ae (aj 0) ah))))⟩)) ah)))))
theorem AI (T:lR mg)  (jK:Df K mg "pair_at" lC):Fn P w K mg base "pair_at" 1 ["number"] (fb K 1 iE .S):=by
 refine Df.fnD (N:=["number"]) (ps:=["number"]) (st:=lC) (k:=0) Dr .S vB jK AB AD rfl (by decide) ?_;intro f cP A outer s0 H E hr;have hu:=hr.units;have kg:=bV hr;exact (aw (aW (aT (ae (aS dv cg ak (aj 0)) (ae (aS bw bx (aS dv cg ak (aj 0)) ak) ah)))))
theorem Dx (T:lR mg)  (k7:Df K mg "turned" lD):Fn P w K mg base "turned" 1 ["pair"] (fb K 1 nG .S):=by
 refine Df.fnD (N:=["pair"]) (ps:=["pair"]) (st:=lD) (k:=0) Gy .S yL k7 Du Dv rfl (by decide) ?_;intro f cP A outer s0 H E hr;have hu:=hr.units;have kg:=bV hr;exact (aw (aW (aT (ae (aL aD aE (aj 0) ak (λ_ _=>rfl)) (ae (aL aD aE (aj 0) ak (λ_ _=>rfl)) ah)))))
theorem xb (T:lR mg)  (gU:Df K mg "whole_end" gx):Fn P w K mg base "whole_end" 1 ["many","pairs"] (fb K 2 jh .S):=by
 refine Df.fnD (N:=["many","pairs","places","pair"]) (ps:=["many","pairs"]) (st:=gx) (k:=0) yM .S pV gU j1 wU rfl (by decide) ?_;intro f cP A outer s0 H E hr;have hu:=hr.units;have kg:=bV hr;exact (ao (fH (i:=2) j1.nd (bK ah))
 (ao (fI Xu rfl (bh (aj 1)) (aB (i:=3) j1.nd)
 (aw (k_ (md (i:=2) XN Zn Zo qA jU (ae (aj 3) ah)))))
 (qD 2 (aw (aW (aT (ae dA (ae (eG bN eI (by rfl) T.zcq fE (ae (aS bw bx (aj 2) (dP (aq gx) ["many","pairs","places","pair"] ["place","places"] [none,some 2] rfl (iD (ae (aj 0) ah) T.zdq) (λY=>⟨(aB (i:=0) (show (["place","places"]:List Str).Nodup by decide+kernel)),(fK (aZ (vv hu) Av (aj 0) (aj 1) (by with_unfolding_all rfl))),(aj 0)⟩))) ah)) ah))))))))
theorem nR (T:lR mg)(mJ:Fn P w K mg base "pile_mix" 8 ["many","piles"] (fb K 2 mC .S))(dh:Df K mg "mixed_and_seen" dM):Fn P w K mg base "mixed_and_seen" 9 ["many","piles","plans"] (fb K 3 gu .S):=by
 refine Df.fnD (N:=["many","piles","plans"]) (ps:=["many","piles","plans"]) (st:=dM) (k:=8) oN .S jE dh nO nP rfl (by decide) ?_;intro f cP A outer s0 H E hr;have hu:=hr.units;have kg:=bV hr;exact (aw (aW (aT (ae dA (ae (aH mJ (rm hr) (ae (aj 0) (ae (aj 1) ah))) (ae (aT (ae dA (ae (aT (ae (aL aD aE (aL aD aE (aj 1) ak (λ_ _=>rfl)) ak (λ_ _=>rfl)) ah)) (ae (aT (ae (aT (ae (aT (ae ak ah)) (ae (aL aD aE (aj 2) ak (λ_ _=>rfl)) ah))) (ae (aT (ae (aT (ae ak ah)) (ae (aL aD aE (aj 2) ak (λ_ _=>rfl)) ah))) ah))) ah)))) ah))))))
theorem AJ (T:lR mg)  (jL:Df K mg "turning" gP):Fn P w K mg base "turning" 1 ["one","others"] (fb K 2 oO .S):=by
 refine Df.fnD (N:=["one","others"]) (ps:=["one","others"]) (st:=gP) (k:=0) Ds .S vC jL AE AF rfl (by decide) ?_;intro f cP A outer s0 H E hr;have hu:=hr.units;have kg:=bV hr;exact (aw (aW (aT (ae (aS bw bx (aT (ae (aL aD aE (aj 0) ak (λ_ _=>rfl)) ah)) (eG bN eI (by rfl) T.zcq fE (ae (dP (aq gP) ["one","others"] ["pair"] [none] rfl (bh (aj 1)) (λY=>⟨(aB (i:=0) (show (["pair"]:List Str).Nodup by decide+kernel)),bB,(aL aD aE (aj 0) ak (λ_ _=>rfl))⟩)) ah))) (ae (aS bw bx (aT (ae (aL aD aE (aj 0) ak (λ_ _=>rfl)) ah)) (eG bN eI (by rfl) T.zcq fE (ae (dP (aq gP) ["one","others"] ["pair"] [none] rfl (bh (aj 1)) (λY=>⟨(aB (i:=0) (show (["pair"]:List Str).Nodup by decide+kernel)),bB,(aL aD aE (aj 0) ak (λ_ _=>rfl))⟩)) ah))) ah)))))
theorem AK (T:lR mg)(gE:Fn P w K mg base "pair_at" 1 ["number"] (fb K 1 iE .S))(jM:Df K mg "negated" jF):Fn P w K mg base "negated" 2 ["many","at"] (fb K 2 cF .S):=by
 refine Df.fnD (N:=["many","at","pair","order"]) (ps:=["many","at"]) (st:=jF) (k:=1) Dt .S vD jM mD AG rfl (by decide) ?_;intro f cP A outer s0 H E hr;have hu:=hr.units;have kg:=bV hr;exact (ao (bq (i:=2) mD.nd (aH gE (rm hr) (ae (aj 1) ah)))
 (ao (fH (i:=3) mD.nd (lr rfl (ae (aj 0) ah) T.zeq T.zdq))
 (ao (jT (i:=3) (aL aD aE (aj 2) ak (λ_ _=>rfl)) (aL aD aE (aj 2) ak (λ_ _=>rfl)))
 (ao (jT (i:=3) (aL aD aE (aj 2) ak (λ_ _=>rfl)) (aL aD aE (aj 2) ak (λ_ _=>rfl)))
 (aw (aW (aT (ae dA (ae (eG bN eI (by rfl) T.zcq fE (ae (g9 3) ah)) ah)))))))))
theorem IV (T:lR mg)(gE:Fn P w K mg base "pair_at" 1 ["number"] (fb K 1 iE .S))(nX:Fn P w K mg base "turned" 1 ["pair"] (fb K 1 nG .S))(jn:Fn P w K mg base "whole_end" 1 ["many","pairs"] (fb K 2 jh .S))(gF:Fn P w K mg base "mixed_and_seen" 9 ["many","piles","plans"] (fb K 3 gu .S))(oX:Fn P w K mg base "turning" 1 ["one","others"] (fb K 2 oO .S))(t6:Df K mg "oned" vE):Fn P w K mg base "oned" 10 ["many","one","other"] (fb K 3 iS .S):=by
 refine Df.fnD (N:=["many","one","other","first","second","ends"]) (ps:=["many","one","other"]) (st:=vE) (k:=9) MA .S Gz t6 qJ IU rfl (by decide) ?_;intro f cP A outer s0 H E hr;have hu:=hr.units;have kg:=bV hr;exact (ao (bq (i:=3) qJ.nd (aH gE (rm hr) (ae (aj 1) ah)))
 (ao (bq (i:=4) qJ.nd (aH gE (rm hr) (ae (aj 2) ah)))
 (ao (bq (i:=5) qJ.nd (aT (ae (aH jn (rm hr) (ae (aj 0) (ae (aT (ae (aj 4) (ae (aj 3) ah))) ah))) (ae (aH jn (rm hr) (ae (aj 0) (ae (aT (ae (aH nX (rm hr) (ae (aj 4) ah)) (ae (aH nX (rm hr) (ae (aj 3) ah)) ah))) ah))) ah))))
 (aw (aW (aH gF (rm hr) (ae (aj 0) (ae (aH oX (rm hr) (ae (aj 3) (ae (aT (ae (aj 4) ah)) ah))) (ae (aj 5) ah)))))))))
theorem qk (T:lR mg)  (eA:Df K mg "_law_cell_at" gy):Fn P w K mg base "_law_cell_at" 1 ["script","k"] (fb K 2 c_ .S):=by
 refine Df.fnD (N:=["script","k"]) (ps:=["script","k"]) (st:=gy) (k:=0) tH .S fO eA qe qf rfl (by decide) ?_;intro f cP A outer s0 H E hr;have hu:=hr.units;have kg:=bV hr;exact (ao (dk (aZ D3 zV (aj 1) (a7 bI cy (by rfl) T.zjq dw (ae (aj 0) ah)) (aV _)) (aw (aW (aL aD aE (aj 0) (aj 1) (λ_ _=>rfl)))) bt)
 (aw (aW ak)))
theorem uy (T:lR mg)(i5:Fn P w K mg base "_law_cell_at" 1 ["script","k"] (fb K 2 c_ .S))(fW:Df K mg "_law_state" iF):Fn P w K mg base "_law_state" 2 ["script","k"] (fb K 2 fP .O):=by
 refine Df.fnD (N:=["script","k","cell"]) (ps:=["script","k"]) (st:=iF) (k:=1) wM .O iu fW l5 uv rfl (by decide) ?_;intro f cP A outer s0 H E hr;have hu:=hr.units;have kg:=bV hr;exact (ao (bq (i:=2) l5.nd (aH i5 (rm hr) (ae (aj 0) (ae (aj 1) ah))))
 (ao (dk (aZ NJ LO (aj 2) (aS D1 Bf ak ak) (aV _)) (aw (vW (bK (ae (aS qL mY (aj 2) (aS D1 Bf ak ak)) (ae rC ah))))) bt)
 (aw (vW (bK (ae (aS kn jd (aj 2) ak) (ae rC ah)))))))
theorem xc (T:lR mg)  (gW:Df K mg "_law_take" jG):Fn P w K mg base "_law_take" 1 ["state","many"] (A8 K 2 ba):=by
 refine Df.fnI (N:=["state","many","found","mixed"]) (ps:=["state","many"]) (st:=jG) (k:=0) yN ji gW iz wV rfl rfl (by decide) ?_;intro f cP A outer s0 H E hr;have hu:=hr.units;have kg:=bV hr;exact (ao (dk (vS (aL aD aE (g9 0) ak (λ_ _=>rfl))) (ao (bq (i:=2) iz.nd (aS kn jd (aL aD aE (g9 0) ak (λ_ _=>rfl)) (aj 1)))
 (ao (jT (i:=0) (aS gg iI (aL aD aE (g9 0) ak (λ_ _=>rfl)) (aj 1)) ak)
 (aw (aW (aj 2))))) bt)
 (ao (jT (i:=0) (aS kn jd (aS bw bx (aS dv cg (aL aD aE (g9 0) ak (λ_ _=>rfl)) ak) ak) ak) ak)
 (ao (bq (i:=3) iz.nd (aS kn jd (aS bw bx (aS bw bx (aS dv cg (aL aD aE (g9 0) ak (λ_ _=>rfl)) (aL aD aE (g9 0) ak (λ_ _=>rfl))) (aS dv cg ak (aL aD aE (g9 0) ak (λ_ _=>rfl)))) ak) ak))
 (ao (bq (i:=3) iz.nd (aS kn jd (aS bw bx (aS dv cg (aj 3) (aj 3)) (aS dv cg ak (aj 3))) ak))
 (aw (aW (aS kn jd (aS gg iI (aj 3) ak) (aj 1))))))))
theorem qm (T:lR mg)  (eB:Df K mg "_law_divisor" fq):Fn P w K mg base "_law_divisor" 1 ["one","other"] (fb K 2 iT .S):=by
 refine Df.fnD (N:=["one","other"]) (ps:=["one","other"]) (st:=fq) (k:=0) tJ .S kP eB ff qg rfl (by decide) ?_;intro f cP A outer s0 H E hr;have hu:=hr.units;have kg:=bV hr;exact (ao (bq (i:=0) ff.nd (a7 xv Bj (by rfl) T.zhq Et (ae (aj 0) ah)))
 (ao (bq (i:=1) ff.nd (a7 xv Bj (by rfl) T.zhq Et (ae (aj 1) ah)))
 (ao (EK Xu (aZ D4 zW (aj 1) ak (aV _))
 (aw (LC (i:=0) (j:=1) rfl ff.nd (ae (aj 1) (ae (aS kn jd (aj 0) (aj 1)) ah)))))
 (aw (aW (aj 0))))))
theorem uz (T:lR mg)(i6:Fn P w K mg base "_law_divisor" 1 ["one","other"] (fb K 2 iT .S))(fX:Df K mg "_law_ratio" iG):Fn P w K mg base "_law_ratio" 2 ["top","bottom"] (fb K 2 bP .S):=by
 refine Df.fnD (N:=["top","bottom","by"]) (ps:=["top","bottom"]) (st:=iG) (k:=1) wN .S nH fX l6 uw rfl (by decide) ?_;intro f cP A outer s0 H E hr;have hu:=hr.units;have kg:=bV hr;exact (ao (bq (i:=2) l6.nd (aH i6 (rm hr) (ae (aj 0) (ae (aj 1) ah))))
 (aw (aW (aT (ae (aS gg iI (aj 0) (aj 2)) (ae (aS gg iI (aj 1) (aj 2)) ah))))))
theorem xf (T:lR mg)  (gX:Df K mg "_law_laid" iY):Fn P w K mg base "_law_laid" 1 ["row","order"] (fb K 2 fo .S):=by
 refine Df.fnD (N:=["row","order"]) (ps:=["row","order"]) (st:=iY) (k:=0) yO .S pW gX wW wX rfl (by decide) ?_;intro f cP A outer s0 H E hr;have hu:=hr.units;have kg:=bV hr;exact (aw (aW (eG bN eI (by rfl) T.zcq fE (ae (dP (aq iY) ["row","order"] ["place","row"] [none,some 0] rfl (bh (aj 1)) (λY=>⟨(aB (i:=0) (show (["place","row"]:List Str).Nodup by decide+kernel)),bB,(aL aD aE (aj 1) (aj 0) (λ_ _=>rfl))⟩)) ah))))
theorem uA (T:lR mg)(ft:Fn P w K mg base "_law_laid" 1 ["row","order"] (fb K 2 fo .S))(eM:Df K mg "_law_paths" gz):∀n,Fn P w K mg base "_law_paths" (n+2) ["plan","row","start","bottom","trace"] (fb K 5 (ai n) .S):=by
 intro n
 induction n with
 |zero=>
  refine Df.fnD (N:=["plan","row","start","bottom","trace","found","order","seen","some","part"]) (ps:=["plan","row","start","bottom","trace"]) (st:=gz) (k:=1) nI .S (iw 0) eM cV l7 rfl (by decide) ?_;intro f cP A outer s0 H E hr;have hu:=hr.units;have kg:=bV hr;exact v7
 |succ n dF=>
  refine Df.fnD (N:=["plan","row","start","bottom","trace","found","order","seen","some","part"]) (ps:=["plan","row","start","bottom","trace"]) (st:=gz) (k:=n+2) nI .S (iw (n+1)) eM cV l7 rfl (by decide) ?_;intro f cP A outer s0 H E hr;have hu:=hr.units;have kg:=bV hr;exact (ao (dk (aZ (cz hu) (bp (f:=id)) (aL aD aE (aj 0) ak (λ_ _=>rfl)) dA (aV _)) (aw (aW (bK (ae (aT (ae (aj 4) (ae gj (ae (aj 3) ah)))) ah)))) bt)
 (ao (dk (aZ (cz hu) (bp (f:=id)) (aL aD aE (aj 0) ak (λ_ _=>rfl)) dA (aV _)) (aw (aW (bK (ae (aT (ae (aj 4) (ae (aH ft (rm hr) (ae (aj 1) (ae (aL aD aE (aj 0) ak (λ_ _=>rfl)) ah))) (ae (aj 3) ah)))) ah)))) bt)
 (ao (dk (aZ (cz hu) (bp (f:=id)) (aL aD aE (aj 0) ak (λ_ _=>rfl)) dA (aV _)) (aw (aW (aH dF (rm hr) (Ot (bb (aL aD aE (aj 0) ak (λ_ _=>rfl)) (bb (aH ft (rm hr) (ae (aj 1) (ae (aL aD aE (aj 0) ak (λ_ _=>rfl)) ah))) (bb (aj 2) (bb (aj 3) (bb (aj 4) m_))))))))) bt)
 (ao (dk (aZ (cz hu) (bp (f:=id)) (aL aD aE (aj 0) ak (λ_ _=>rfl)) dA (aV _)) (ao (fH (i:=5) cV.nd (bK ah))
 (ao (fI Xu rfl (bh (aL aD aE (aj 0) ak (λ_ _=>rfl))) (aB (i:=6) cV.nd)
 (aw (k_ (md (i:=5) XN Zn Zo qA jU (ae (aH dF (rm hr) (Ot (bb (aL aD aE (aj 0) ak (λ_ _=>rfl)) (bb (aH ft (rm hr) (ae (aj 1) (ae (aj 6) ah))) (bb (aj 2) (bb (aS dv cg (aj 3) (a7 bI cy (by rfl) T.zjq dw (ae (aL aD aE (aj 0) ak (λ_ _=>rfl)) ah))) (bb (aj 4) m_))))))) ah)))))
 (aw (A_ (i:=5) (hi:=by decide))))) bt)
 (ao (bq (i:=7) cV.nd (aH ft (rm hr) (ae (aj 1) (ae (aL aD aE (aj 0) ak (λ_ _=>rfl)) ah))))
 (ao (fI Xu rfl (bh (aL aD aE (aj 0) ak (λ_ _=>rfl))) (fi rfl (aP (aB (i:=8) cV.nd) (aP (aB (i:=9) cV.nd) dB)))
 (aw (dk (aZ (cz hu) (bp (f:=id)) (aj 8) (aj 7) (aV _)) (aw (aW (aH dF (rm hr) (Ot (bb (aj 9) (bb (aj 1) (bb (aj 2) (bb (aj 3) (bb (aS bw bx (aj 4) (aT (ae (aj 7) ah))) m_))))))))) bt)))
 (aw (aW (bK (ae (aT (ae (aj 4) (ae (aT (ae dA (ae (aj 7) ah))) (ae (aj 3) ah)))) ah))))))))))
theorem uB (T:lR mg)(cQ:Fn P w K mg base "_law_ratio" 2 ["top","bottom"] (fb K 2 bP .S))(fY:Df K mg "_law_total" iH):Fn P w K mg base "_law_total" 3 ["some"] (fb K 1 bz .S):=by
 refine Df.fnD (N:=["some","found","top","bottom"]) (ps:=["some"]) (st:=iH) (k:=2) wO .S nJ fY eX ux rfl (by decide) ?_;intro f cP A outer s0 H E hr;have hu:=hr.units;have kg:=bV hr;exact (ao (bq (i:=1) eX.nd (aT (ae ak (ae ak ah))))
 (ao (fI Xu rfl (bh (aj 0)) (fi rfl (aP (aB (i:=2) eX.nd) (aP (aB (i:=3) eX.nd) dB)))
 (aw (bq (i:=1) eX.nd (aH cQ (rm hr) (ae (aS bw bx (aS dv cg (aL aD aE (aj 1) ak (λ_ _=>rfl)) (aj 3)) (aS dv cg (aj 2) (aL aD aE (aj 1) ak (λ_ _=>rfl)))) (ae (aS dv cg (aL aD aE (aj 1) ak (λ_ _=>rfl)) (aj 3)) ah))))))
 (aw (aW (aj 1)))))
theorem tO (T:lR mg)(cQ:Fn P w K mg base "_law_ratio" 2 ["top","bottom"] (fb K 2 bP .S))(fZ:Fn P w K mg base "_law_total" 3 ["some"] (fb K 1 bz .S))(eY:Df K mg "_law_walked" cT):Fn P w K mg base "_law_walked" 4 ["paths"] (fb K 1 bQ .S):=by
 refine Df.fnD (N:=["paths","again","ends","trace","result","bottom","ending","found","shares","whole","results"]) (ps:=["paths"]) (st:=cT) (k:=3) uq .S jt eY a_ tL rfl (by decide) ?_;intro f cP A outer s0 H E hr;have hu:=hr.units;have kg:=bV hr;exact (ao (bq (i:=1) a_.nd (aH fZ (rm hr) (ae (dP (aq cT) ["paths","again","ends","trace","result","bottom","ending","found","shares","whole","results"] ["trace","result","bottom"] [none,none,none] rfl (bh (aj 0)) (λY=>⟨(fi rfl (aP (aB (i:=0) (show (["trace","result","bottom"]:List Str).Nodup by decide+kernel)) (aP (aB (i:=1) (show (["trace","result","bottom"]:List Str).Nodup by decide+kernel)) (aP (aB (i:=2) (show (["trace","result","bottom"]:List Str).Nodup by decide+kernel)) dB)))),(fK (aZ D5 Bh (aj 1) gj (aV _))),(aT (ae ak (ae (aj 2) ah)))⟩)) ah)))
 (ao (fH (i:=2) a_.nd EV)
 (ao (II (Mv Xu rfl (bh (aj 0)) (fi rfl (aP (aB (i:=3) a_.nd) (aP (aB (i:=4) a_.nd) (aP (aB (i:=5) a_.nd) dB)))) (B4
 (Pa (aZ vN rP (aj 4) gj (aV _)) (B4 (My (B7 hu (B7 hu (IL 2) (aj 3) IJ) (aj 4) IK) (aT (ae ak (ae (aj 5) ah))))) IH))))
 (qD 2 (ao (bq (i:=6) a_.nd (aH cQ (rm hr) (ae (aS qL mY (aL aD aE (aj 1) ak (λ_ _=>rfl)) (aL aD aE (aj 1) ak (λ_ _=>rfl))) (ae (aL aD aE (aj 1) ak (λ_ _=>rfl)) ah))))
 (ao (dk (aZ (cz hu) (bp (f:=id)) (aL aD aE (aj 6) ak (λ_ _=>rfl)) ak (aV _)) (aw (aW (aT (ae (aj 1) (ae gj ah))))) bt)
 (ao (fH (i:=7) a_.nd (bK ah))
 (ao (fI Xu rfl (bh (a7 (Az rfl hu) Dq (by rfl) T.zbq jB (ae (aj 2) ah))) (aB (i:=3) a_.nd)
 (ao (eH (i:=8) (aq cT) ["paths","again","ends","trace","result","bottom","ending","found","shares","whole","results"] ["result","ends","trace"] [none,some 2,some 3] a_.nd rfl (bh (a7 (oK rfl hu) sX (by rfl) T.zbq jB (ae (z_ hu (aj 2) (aj 3)) ah))) (λY=>⟨(aB (i:=0) (show (["result","ends","trace"]:List Str).Nodup by decide+kernel)),bB,(aT (ae (aj 0) (ae (aH fZ (rm hr) (ae (z_ hu (z_ hu (aj 1) (aj 2)) (aj 0)) ah)) ah)))⟩))
 (ao (bq (i:=9) a_.nd (aH fZ (rm hr) (ae (dP (aq cT) ["paths","again","ends","trace","result","bottom","ending","found","shares","whole","results"] ["result","share"] [none,none] rfl (bh (aj 8)) (λY=>⟨(fi rfl (aP (aB (i:=0) (show (["result","share"]:List Str).Nodup by decide+kernel)) (aP (aB (i:=1) (show (["result","share"]:List Str).Nodup by decide+kernel)) dB))),bB,(aj 1)⟩)) ah)))
 (ao (eH (i:=10) (aq cT) ["paths","again","ends","trace","result","bottom","ending","found","shares","whole","results"] ["result","share","whole"] [none,none,some 9] a_.nd rfl (bh (aj 8)) (λY=>⟨(fi rfl (aP (aB (i:=0) (show (["result","share","whole"]:List Str).Nodup by decide+kernel)) (aP (aB (i:=1) (show (["result","share","whole"]:List Str).Nodup by decide+kernel)) dB))),bB,(aT (ae (aj 0) (ae (aH cQ (rm hr) (ae (aS dv cg (aL aD aE (aj 1) ak (λ_ _=>rfl)) (aL aD aE (aj 2) ak (λ_ _=>rfl))) (ae (aS dv cg (aL aD aE (aj 1) ak (λ_ _=>rfl)) (aL aD aE (aj 2) ak (λ_ _=>rfl))) ah))) ah)))⟩))
 (aw (k_ (md (i:=7) XN aah aai oh rR (ae (aT (ae (aj 3) (ae (aH cQ (rm hr) (ae (aS dv cg (aL aD aE (aj 9) ak (λ_ _=>rfl)) (aL aD aE (aj 6) ak (λ_ _=>rfl))) (ae (aS dv cg (aL aD aE (aj 9) ak (λ_ _=>rfl)) (aL aD aE (aj 6) ak (λ_ _=>rfl))) ah))) (ae (aj 10) ah)))) ah))))))))
 (qD 7 (aw (aW (aT (ae (aj 1) (ae (aj 7) ah))))))))))))))
theorem xg (T:lR mg)(dF:∀n,Fn P w K mg base "_law_paths" (n+2) ["plan","row","start","bottom","trace"] (fb K 5 (ai n) .S))(jx:Fn P w K mg base "_law_walked" 4 ["paths"] (fb K 1 bQ .S))(gY:Df K mg "_law_gone" iZ):Fn P w K mg base "_law_gone" 9 ["plan","row"] (fb K 2 aG .S):=by
 refine Df.fnD (N:=["plan","row","paths","lost","found"]) (ps:=["plan","row"]) (st:=iZ) (k:=8) yP .S kQ gY iA wY rfl (by decide) ?_;intro f cP A outer s0 H E hr;have hu:=hr.units;have kg:=bV hr;exact (ao (bq (i:=2) iA.nd (aH (dF 6) (rm hr) (Ot (bb (aj 0) (bb (aj 1) (bb (aj 1) (bb ak (bb (aT ah) m_))))))))
 (ao (eH (i:=3) (aq iZ) ["plan","row","paths","lost","found"] ["trace","result","bottom"] [none,none,none] iA.nd rfl (bh (aj 2)) (λY=>⟨(fi rfl (aP (aB (i:=0) (show (["trace","result","bottom"]:List Str).Nodup by decide+kernel)) (aP (aB (i:=1) (show (["trace","result","bottom"]:List Str).Nodup by decide+kernel)) (aP (aB (i:=2) (show (["trace","result","bottom"]:List Str).Nodup by decide+kernel)) dB)))),(fK (DW.dt (jR (aZ vN rP (aj 1) gj (aV _)) (jQ (aZ (cz hu) (bp (f:=id)) (rF rQ zQ (aj 1) vU (vV ak)) (aT (ae dA ah)) (aV _)))))),(aL aD aE (aj 1) ak (λ_ _=>rfl))⟩))
 (ao (dk (aZ (g7 hu) (bp (f:=not)) (aj 3) (bK ah) (aV _)) (aw (aW (aT (ae dA (ae (aj 3) ah))))) bt)
 (ao (bq (i:=4) iA.nd (aL aD aE (aH jx (rm hr) (ae (aj 2) ah)) ak (λ_ _=>rfl)))
 (ao (dk (aZ D5 Bh (aj 4) gj (aV _)) (aw (aW (aT (ae dA (ae (bK ah) ah))))) bt)
 (aw (aW (aT (ae dA (ae (aj 4) ah))))))))))
theorem uC (T:lR mg)  (eN:Df K mg "_law_sound" bM):∀n,Fn P w K mg base "_law_sound" (n+1) ["plan","many","full"] (fb K 3 (j0 n) .S):=by
 intro n
 induction n with
 |zero=>
  refine Df.fnD (N:=["plan","many","full","odd","parts","seen","found"]) (ps:=["plan","many","full"]) (st:=bM) (k:=0) nK .S (iy 0) eN bS l8 rfl (by decide) ?_;intro f cP A outer s0 H E hr;have hu:=hr.units;have kg:=bV hr;exact v7
 |succ n f6=>
  refine Df.fnD (N:=["plan","many","full","odd","parts","seen","found"]) (ps:=["plan","many","full"]) (st:=bM) (k:=n+1) nK .S (iy (n+1)) eN bS l8 rfl (by decide) ?_;intro f cP A outer s0 H E hr;have hu:=hr.units;have kg:=bV hr;exact (ao (dk (DW.dt (jR (aZ (cz hu) (bp (f:=id)) (aL aD aE (aj 0) ak (λ_ _=>rfl)) dA (aV _)) (jQ (aZ (cz hu) (bp (f:=id)) (a7 bI cy (by rfl) T.zjq dw (ae (aj 0) ah)) ak (aV _))))) (ao (eH (i:=3) (aq bM) ["plan","many","full","odd","parts","seen","found"] ["place","many"] [none,some 1] bS.nd rfl (bh (aL aD aE (aj 0) ak (λ_ _=>rfl))) (λY=>⟨(aB (i:=0) (show (["place","many"]:List Str).Nodup by decide+kernel)),(fK (zF (xJ xu rS D3 zV ak (aj 0) (aj 1)))),(aj 0)⟩))
 (ao (dk (DW.dt (xI (aZ (g7 hu) (bp (f:=not)) (aj 3) (bK ah) (aV _)) (xI (aZ (g7 hu) (bp (f:=not)) (CU rfl (ae (aL aD aE (aj 0) ak (λ_ _=>rfl)) ah) (by rfl) T.zjq (by rfl) T.zlq) (a7 bI cy (by rfl) T.zjq dw (ae (aL aD aE (aj 0) ak (λ_ _=>rfl)) ah)) (aV _)) (vT (DW.dt (jR (vS (aj 2)) (jQ (aZ D3 zV (a7 bI cy (by rfl) T.zjq dw (ae (aL aD aE (aj 0) ak (λ_ _=>rfl)) ah)) (aj 1) (aV _))))))))) (aw (aW gj)) bt)
 (aw (aW (EF (hc:=(aZ D4 zW (a7 bI cy (by rfl) T.zjq dw (ae (aL aD aE (aj 0) ak (λ_ _=>rfl)) ah)) ak (aV _))) (ha:=(aT (ae ak (ae ak ah)))) (hb:=gj)))))) bt)
 (ao (bq (i:=4) bS.nd (bK ah))
 (ao (dk (DW.dt (jR (aZ (cz hu) (bp (f:=id)) (aL aD aE (aj 0) ak (λ_ _=>rfl)) dA (aV _)) (jQ (aZ (cz hu) (bp (f:=id)) (a7 bI cy (by rfl) T.zjq dw (ae (aj 0) ah)) ak (aV _))))) (ao (eH (i:=5) (aq bM) ["plan","many","full","odd","parts","seen","found"] ["way"] [none] bS.nd rfl (bh (aL aD aE (aj 0) ak (λ_ _=>rfl))) (λY=>⟨(aB (i:=0) (show (["way"]:List Str).Nodup by decide+kernel)),bB,(aL aD aE (aj 0) ak (λ_ _=>rfl))⟩))
 (aw (dk (DW.dt (jR (aZ (cz hu) (bp (f:=id)) (aj 5) (sY rfl hu (ae (aj 5) ah) T.zbq T.zlq) (aV _)) (jQ (aZ (cz hu) (bp (f:=id)) (dP (aq bM) ["plan","many","full","odd","parts","seen","found"] ["one","plan"] [none,some 0] rfl (bh (aj 5)) (λY=>⟨(aB (i:=0) (show (["one","plan"]:List Str).Nodup by decide+kernel)),(fK (aZ (g7 hu) (bp (f:=not)) (a7 bI cy (by rfl) T.zjq dw (ae (aj 0) ah)) (a7 bI cy (by rfl) T.zjq dw (ae (aL aD aE (aj 1) ak (λ_ _=>rfl)) ah)) (aV _))),(aj 0)⟩)) (bK ah) (aV _))))) (aw (eH (i:=4) (aq bM) ["plan","many","full","odd","parts","seen","found"] ["way"] [none] bS.nd rfl (bh (aL aD aE (aj 0) ak (λ_ _=>rfl))) (λY=>⟨(aB (i:=0) (show (["way"]:List Str).Nodup by decide+kernel)),bB,(aL aD aE (aj 0) ak (λ_ _=>rfl))⟩))) bt))) bt)
 (ao (dk (DW.dt (jR (aZ (cz hu) (bp (f:=id)) (aL aD aE (aj 0) ak (λ_ _=>rfl)) dA (aV _)) (jR (aZ (cz hu) (bp (f:=id)) (a7 bI cy (by rfl) T.zjq dw (ae (aj 0) ah)) ak (aV _)) (jQ (aZ (cz hu) (bp (f:=id)) (a7 (oK rfl hu) sX (by rfl) T.zbq jB (ae (aL aD aE (aj 0) ak (λ_ _=>rfl)) ah)) (lr rfl (ae (aj 1) ah) T.zeq T.zdq) (aV _)))))) (aw (bq (i:=4) bS.nd (bK (ae (aL aD aE (aj 0) ak (λ_ _=>rfl)) ah)))) bt)
 (ao (dk (DW.dt (jR (aZ (cz hu) (bp (f:=id)) (aL aD aE (aj 0) ak (λ_ _=>rfl)) dA (aV _)) (jR (aZ (cz hu) (bp (f:=id)) (a7 bI cy (by rfl) T.zjq dw (ae (aj 0) ah)) ak (aV _)) (jQ (xJ xu rS xu rS ak (a7 bI cy (by rfl) T.zjq dw (ae (aL aD aE (aj 0) ak (λ_ _=>rfl)) ah)) ak))))) (aw (dk (aZ (cz hu) (bp (f:=id)) (dP (aq bM) ["plan","many","full","odd","parts","seen","found"] ["order","many"] [none,some 1] rfl (bh (aL aD aE (aj 0) ak (λ_ _=>rfl))) (λY=>⟨(aB (i:=0) (show (["order","many"]:List Str).Nodup by decide+kernel)),(fK (aZ (g7 hu) (bp (f:=not)) (a7 (oK rfl hu) sX (by rfl) T.zbq jB (ae (aj 0) ah)) (lr rfl (ae (aj 1) ah) T.zeq T.zdq) (aV _))),(aj 0)⟩)) (bK ah) (aV _)) (aw (bq (i:=4) bS.nd (bK (ae (aL aD aE (aj 0) ak (λ_ _=>rfl)) ah)))) bt)) bt)
 (ao (eH (i:=6) (aq bM) ["plan","many","full","odd","parts","seen","found"] ["part","many","full"] [none,some 1,some 2] bS.nd rfl (bh (aj 4)) (λY=>⟨(aB (i:=0) (show (["part","many","full"]:List Str).Nodup by decide+kernel)),bB,(aH f6 (rm hr) (ae (aj 0) (ae (aj 1) (ae (aj 2) ah))))⟩))
 (ao (dk (DW.dt (xI (aZ (cz hu) (bp (f:=id)) (aj 6) (bK ah) (aV _)) (vT (aZ (Mr hu) Av gj (aj 6) (by with_unfolding_all rfl))))) (aw (aW gj)) bt)
 (aw (aW (aT (ae (aS bw bx ak (a7 (Dg rfl) Gp (by rfl) T.zkq Lv (ae (dP (aq bM) ["plan","many","full","odd","parts","seen","found"] ["one"] [none] rfl (bh (aj 6)) (λY=>⟨(aB (i:=0) (show (["one"]:List Str).Nodup by decide+kernel)),bB,(aL aD aE (aj 0) ak (λ_ _=>rfl))⟩)) ah))) (ae (aS bw bx ak (a7 (Dh rfl) Gs (by rfl) T.zfq Es (ae (dP (aq bM) ["plan","many","full","odd","parts","seen","found"] ["one"] [none] rfl (bh (aj 6)) (λY=>⟨(aB (i:=0) (show (["one"]:List Str).Nodup by decide+kernel)),bB,(aL aD aE (aj 0) ak (λ_ _=>rfl))⟩)) ah))) ah))))))))))))
theorem xh (T:lR mg)  (gZ:Df K mg "_law_pair" jH):Fn P w K mg base "_law_pair" 1 ["bit"] (fb K 1 jj .S):=by
 refine Df.fnD (N:=["bit"]) (ps:=["bit"]) (st:=jH) (k:=0) yQ .S pX gZ wZ w6 rfl (by decide) ?_;intro f cP A outer s0 H E hr;have hu:=hr.units;have kg:=bV hr;exact (aw (aW (aT (ae (aj 0) (ae (aS qL mY ak (aj 0)) ah)))))
theorem mG (T:lR mg)(bY:Fn P w K mg base "_law_take" 1 ["state","many"] (A8 K 2 ba))(cR:Df K mg "_law_with_pairs" cU):Fn P w K mg base "_law_with_pairs" 2 ["state","many","numbers","bits"] (A8 K 4 bf):=by
 refine Df.fnI (N:=["state","many","numbers","bits","row","number","bit"]) (ps:=["state","many","numbers","bits"]) (st:=cU) (k:=1) cK fQ cR dE mE rfl rfl (by decide) ?_;intro f cP A outer s0 H E hr;have hu:=hr.units;have kg:=bV hr;exact (ao (zM (i:=4) (aq cU) ["state","many","numbers","bits","row","number","bit"] ["place","state"] [none,some 0] dE.nd rfl (iD (ae (aj 1) ah) T.zdq) (λY=>⟨(aB (i:=0) (show (["place","state"]:List Str).Nodup by decide+kernel)),bB,(eU (i:=1) bY (rm hr) (ae ak ah))⟩))
 (ao (fI Xu rfl (Af (ae (aj 2) (ae (aj 3) ah)) T.ziq) (fi rfl (aP (aB (i:=5) dE.nd) (aP (aB (i:=6) dE.nd) dB)))
 (ao (jT (i:=4) (aj 6) (aS dv cg ak (aj 5)))
 (aw (jT (i:=4) (aS qL mY ak (aj 6)) (aS bw bx (aS dv cg ak (aj 5)) ak)))))
 (aw (aW (eG bN eI (by rfl) T.zcq fE (ae (g9 4) ah))))))
theorem tP (T:lR mg)  (eZ:Df K mg "_law_others" d8):Fn P w K mg base "_law_others" 1 ["row","numbers"] (fb K 2 gJ .S):=by
 refine Df.fnD (N:=["row","numbers","left"]) (ps:=["row","numbers"]) (st:=d8) (k:=0) ur .S l0 eZ kR tM rfl (by decide) ?_;intro f cP A outer s0 H E hr;have hu:=hr.units;have kg:=bV hr;exact (ao (eH (i:=2) (aq d8) ["row","numbers","left"] ["place","numbers"] [none,some 1] kR.nd rfl (iD (ae (a7 bI cy (by rfl) T.zjq dw (ae (aj 0) ah)) ah) T.zdq) (λY=>⟨(aB (i:=0) (show (["place","numbers"]:List Str).Nodup by decide+kernel)),(fK (aZ (vv hu) Av (aS gg iI (aj 0) ak) (aj 1) (by with_unfolding_all rfl))),(aj 0)⟩))
 (aw (aW (eG bN eI (by rfl) T.zcq fE (ae (dP (aq d8) ["row","numbers","left"] ["place","row"] [none,some 0] rfl (bh (aj 2)) (λY=>⟨(aB (i:=0) (show (["place","row"]:List Str).Nodup by decide+kernel)),bB,(aL aD aE (aj 1) (aj 0) (λ_ _=>rfl))⟩)) ah)))))
theorem qo (T:lR mg)(bY:Fn P w K mg base "_law_take" 1 ["state","many"] (A8 K 2 ba))(eC:Df K mg "_law_numbers" d9):Fn P w K mg base "_law_numbers" 2 ["state","many","count"] (A8 K 3 cv):=by
 refine Df.fnI (N:=["state","many","count","left"]) (ps:=["state","many","count"]) (st:=d9) (k:=1) iV iW eC j8 qh rfl rfl (by decide) ?_;intro f cP A outer s0 H E hr;have hu:=hr.units;have kg:=bV hr;exact (ao (fH (i:=3) j8.nd (lr rfl (ae (aS gg iI (aj 1) ak) ah) T.zeq T.zdq))
 (aw (aW (LJ (aq d9) ["state","many","count","left"] ["k","left","state"] [none,some 3,some 0] rfl (iD (ae (aj 2) ah) T.zdq) (λY=>⟨(aB (i:=0) (show (["k","left","state"]:List Str).Nodup by decide+kernel)),bB,(md (i:=1) XN PySem.F.slot_list_pop PySem.F.type_list_pop Ef CL (ae (eU (i:=2) bY (rm hr) (ae (a7 bI cy (by rfl) T.zjq dw (ae (g9 1) ah)) ah)) ah))⟩)))))
theorem oR (T:lR mg)  (dJ:Df K mg "_law_all_bits" dq):Fn P w K mg base "_law_all_bits" 1 ["count"] (fb K 1 fc .S):=by
 refine Df.fnD (N:=["count","found","k"]) (ps:=["count"]) (st:=dq) (k:=0) qd .S j6 dJ eK oQ rfl (by decide) ?_;intro f cP A outer s0 H E hr;have hu:=hr.units;have kg:=bV hr;exact (ao (bq (i:=1) eK.nd (bK (ae (aT ah) ah)))
 (ao (fI Xu rfl (iD (ae (aj 0) ah) T.zdq) (aB (i:=2) eK.nd)
 (aw (bq (i:=1) eK.nd (aS bw bx (dP (aq dq) ["count","found","k"] ["row"] [none] rfl (bh (aj 1)) (λY=>⟨(aB (i:=0) (show (["row"]:List Str).Nodup by decide+kernel)),bB,(aS bw bx (aj 0) (aT (ae ak ah)))⟩)) (dP (aq dq) ["count","found","k"] ["row"] [none] rfl (bh (aj 1)) (λY=>⟨(aB (i:=0) (show (["row"]:List Str).Nodup by decide+kernel)),bB,(aS bw bx (aj 0) (aT (ae ak ah)))⟩))))))
 (aw (aW (aj 1)))))
theorem kT (T:lR mg)(fu:Fn P w K mg base "_law_gone" 9 ["plan","row"] (fb K 2 aG .S))(cf:Df K mg "_law_seen_chances" b_):Fn P w K mg base "_law_seen_chances" 10 ["plan","row"] (fb K 2 aM .S):=by
 refine Df.fnD (N:=["plan","row","word","found"]) (ps:=["plan","row"]) (st:=b_) (k:=9) lQ .S c7 cf eh kS rfl (by decide) ?_;intro f cP A outer s0 H E hr;have hu:=hr.units;have kg:=bV hr;exact (ao (EJ (aH fu (rm hr) (ae (aj 0) (ae (aj 1) ah))) (fi rfl (aP (aB (i:=2) eh.nd) (aP (aB (i:=3) eh.nd) dB))))
 (ao (dk (aZ (g7 hu) (bp (f:=not)) (aj 2) dA (aV _)) (aw (aW gj)) bt)
 (aw (aW (dP (aq b_) ["plan","row","word","found"] ["trace","chance","results"] [none,none,none] rfl (bh (aj 3)) (λY=>⟨(fi rfl (aP (aB (i:=0) (show (["trace","chance","results"]:List Str).Nodup by decide+kernel)) (aP (aB (i:=1) (show (["trace","chance","results"]:List Str).Nodup by decide+kernel)) (aP (aB (i:=2) (show (["trace","chance","results"]:List Str).Nodup by decide+kernel)) dB)))),bB,(aT (ae (aj 0) (ae (aj 1) ah)))⟩))))))
theorem qp (T:lR mg)(fu:Fn P w K mg base "_law_gone" 9 ["plan","row"] (fb K 2 aG .S))(eD:Df K mg "_law_results" d_):Fn P w K mg base "_law_results" 10 ["plan","row"] (fb K 2 bj .S):=by
 refine Df.fnD (N:=["plan","row","word","found","told","trace","chance","results"]) (ps:=["plan","row"]) (st:=d_) (k:=9) tK .S fR eD cb qi rfl (by decide) ?_;intro f cP A outer s0 H E hr;have hu:=hr.units;have kg:=bV hr;exact (ao (EJ (aH fu (rm hr) (ae (aj 0) (ae (aj 1) ah))) (fi rfl (aP (aB (i:=2) cb.nd) (aP (aB (i:=3) cb.nd) dB))))
 (ao (dk (aZ (g7 hu) (bp (f:=not)) (aj 2) dA (aV _)) (aw (aW gj)) bt)
 (ao (fH (i:=4) cb.nd (bK ah))
 (ao (fI Xu rfl (bh (aj 3)) (fi rfl (aP (aB (i:=5) cb.nd) (aP (aB (i:=6) cb.nd) (aP (aB (i:=7) cb.nd) dB))))
 (aw (k_ (md (i:=4) XN Zn Zo qA jU (ae (dP (aq d_) ["plan","row","word","found","told","trace","chance","results"] ["result","share"] [none,none] rfl (bh (aj 7)) (λY=>⟨(fi rfl (aP (aB (i:=0) (show (["result","share"]:List Str).Nodup by decide+kernel)) (aP (aB (i:=1) (show (["result","share"]:List Str).Nodup by decide+kernel)) dB))),bB,(aj 0)⟩)) ah)))))
 (aw (aW (sY rfl hu (ae (g9 4) ah) T.zbq T.zlq)))))))
theorem xi (T:lR mg)(f6:∀n,Fn P w K mg base "_law_sound" (n+1) ["plan","many","full"] (fb K 3 (j0 n) .S))(g6:Df K mg "_law_good" jI):Fn P w K mg base "_law_good" 8 ["plan","many"] (fb K 2 aX .S):=by
 refine Df.fnD (N:=["plan","many","size"]) (ps:=["plan","many"]) (st:=jI) (k:=7) yR .S pY g6 nQ w9 rfl (by decide) ?_;intro f cP A outer s0 H E hr;have hu:=hr.units;have kg:=bV hr;exact (ao (bq (i:=2) nQ.nd (aH (f6 6) (rm hr) (ae (aj 0) (ae (aj 1) (ae rC ah)))))
 (aw (aW (zG (ha:=(vR vN rP (aj 2) gj (aV _))) (hb:=(zG (ha:=(vR xu rS (aL aD aE (aj 2) ak (λ_ _=>rfl)) ak (aV _))) (hb:=(EE (vR xu rS (aL aD aE (aj 2) ak (λ_ _=>rfl)) ak (aV _))))))))))
theorem tQ (T:lR mg)(oY:Fn P w K mg base "negated" 2 ["many","at"] (fb K 2 cF .S))(bY:Fn P w K mg base "_law_take" 1 ["state","many"] (A8 K 2 ba))(b6:Fn P w K mg base "_law_with_pairs" 2 ["state","many","numbers","bits"] (A8 K 4 bf))(br:Fn P w K mg base "_law_seen_chances" 10 ["plan","row"] (fb K 2 aM .S))(di:Fn P w K mg base "_law_results" 10 ["plan","row"] (fb K 2 bj .S))(fw:Fn P w K mg base "_law_good" 8 ["plan","many"] (fb K 2 aX .S))(e_:Df K mg "_law_turned" gA):Fn P w K mg base "_law_turned" 11 ["state","many"] (A8 K 2 eW):=by
 refine Df.fnI (N:=["state","many","at","plan","bit","row","due"]) (ps:=["state","many"]) (st:=gA) (k:=10) uu ju e_ de tN rfl rfl (by decide) ?_;intro f cP A outer s0 H E hr;have hu:=hr.units;have kg:=bV hr;exact (ao (bq (i:=2) de.nd (eU (i:=0) bY (rm hr) (ae (aS gg iI (aj 1) ak) ah)))
 (ao (bq (i:=3) de.nd (aH oY (rm hr) (ae (aj 1) (ae (aj 2) ah))))
 (ao (fI Xu rfl (bh (bK (Ot (bb ak (bb ak (bb ak (bb ak m_))))))) (aB (i:=4) de.nd)
 (ao (bq (i:=5) de.nd (eU (i:=0) b6 (rm hr) (ae (aj 1) (ae (bK (ae (aj 2) ah)) (ae (aT (ae (aj 4) ah)) ah)))))
 (ao (bq (i:=6) de.nd (aS bw bx (aS bw bx (rF rQ zQ (aj 5) vU (vV (aS dv cg ak (aj 2)))) (aT (ae (aS qL mY ak (aj 4)) (ae (aj 4) ah)))) (rF rQ zQ (aj 5) (vV (aS bw bx (aS dv cg ak (aj 2)) ak)) vU)))
 (aw (dk (DW.dt (xI (aZ (g7 hu) (bp (f:=not)) (aH di (rm hr) (ae (aj 3) (ae (aj 5) ah))) (bK (ae (aj 6) ah)) (aV _)) (vT (aZ (g7 hu) (bp (f:=not)) (aH br (rm hr) (ae (aj 3) (ae (aj 5) ah))) (aH br (rm hr) (ae (aj 3) (ae (aj 6) ah))) (aV _))))) (aw (aW rC)) bt)))))
 (aw (aW (aH fw (rm hr) (ae (aj 3) (ae (aj 1) ah))))))))
theorem mH (T:lR mg)(AS:Fn P w K mg base "oned" 10 ["many","one","other"] (fb K 3 iS .S))(k8:Fn P w K mg base "_law_pair" 1 ["bit"] (fb K 1 jj .S))(b6:Fn P w K mg base "_law_with_pairs" 2 ["state","many","numbers","bits"] (A8 K 4 bf))(jy:Fn P w K mg base "_law_others" 1 ["row","numbers"] (fb K 2 gJ .S))(i7:Fn P w K mg base "_law_numbers" 2 ["state","many","count"] (A8 K 3 cv))(ig:Fn P w K mg base "_law_all_bits" 1 ["count"] (fb K 1 fc .S))(br:Fn P w K mg base "_law_seen_chances" 10 ["plan","row"] (fb K 2 aM .S))(di:Fn P w K mg base "_law_results" 10 ["plan","row"] (fb K 2 bj .S))(fw:Fn P w K mg base "_law_good" 8 ["plan","many"] (fb K 2 aX .S))(cS:Df K mg "_law_one_of_two" dD):Fn P w K mg base "_law_one_of_two" 11 ["state","many"] (A8 K 2 cN):=by
 refine Df.fnI (N:=["state","many","numbers","plan","seen","bits","row","due"]) (ps:=["state","many"]) (st:=dD) (k:=10) nN fT cS bA mF rfl rfl (by decide) ?_;intro f cP A outer s0 H E hr;have hu:=hr.units;have kg:=bV hr;exact (ao (bq (i:=2) bA.nd (eU (i:=0) i7 (rm hr) (ae (aj 1) (ae ak ah))))
 (ao (bq (i:=3) bA.nd (aH AS (rm hr) (ae (aj 1) (ae (aL aD aE (aj 2) ak (λ_ _=>rfl)) (ae (aL aD aE (aj 2) ak (λ_ _=>rfl)) ah)))))
 (ao (fH (i:=4) bA.nd (bK ah))
 (ao (fI Xu rfl (bh (aS IE Gk (aH ig (rm hr) (ae ak ah)) ak)) (aB (i:=5) bA.nd)
 (ao (bq (i:=6) bA.nd (eU (i:=0) b6 (rm hr) (ae (aj 1) (ae (aj 2) (ae (aj 5) ah)))))
 (ao (bq (i:=7) bA.nd (aS bw bx (aS bw bx (aH k8 (rm hr) (ae (aS kn jd (aS bw bx (aL aD aE (aj 5) ak (λ_ _=>rfl)) (aL aD aE (aj 5) ak (λ_ _=>rfl))) ak) ah)) (aT (ae ak (ae ak ah)))) (aH jy (rm hr) (ae (aj 6) (ae (aj 2) ah)))))
 (ao (dk (aZ (g7 hu) (bp (f:=not)) (aH di (rm hr) (ae (aj 3) (ae (aj 6) ah))) (bK (ae (aj 7) ah)) (aV _)) (aw (aW rC)) bt)
 (aw (k_ (md (i:=4) XN aah aai oh rR (ae (aH br (rm hr) (ae (aj 3) (ae (aj 6) ah))) ah))))))))
 (qD 4 (aw (aW (zG (ha:=(aH fw (rm hr) (ae (aj 3) (ae (aj 1) ah)))) (hb:=(EE (vR (cz hu) (bp (f:=id)) (dP (aq dD) ["state","many","numbers","plan","seen","bits","row","due"] ["one","seen"] [none,some 4] rfl (bh (aj 4)) (λY=>⟨(aB (i:=0) (show (["one","seen"]:List Str).Nodup by decide+kernel)),(fK (aZ (g7 hu) (bp (f:=not)) (aj 0) (aL aD aE (aj 1) ak (λ_ _=>rfl)) (aV _))),(aj 0)⟩)) (bK ah) (aV _))))))))))))
theorem MB (T:lR mg)(FL:G3 K "law" "law" yT f fd)(gT:Df K mg "exchanged" gw)(dg:Df K mg "arrangements" bR)(i4:Df K mg "pile_mix" iX)(jK:Df K mg "pair_at" lC)(k7:Df K mg "turned" lD)(gU:Df K mg "whole_end" gx)(dh:Df K mg "mixed_and_seen" dM)(jL:Df K mg "turning" gP)(jM:Df K mg "negated" jF)(t6:Df K mg "oned" vE)(eA:Df K mg "_law_cell_at" gy)(fW:Df K mg "_law_state" iF)(gW:Df K mg "_law_take" jG)(eB:Df K mg "_law_divisor" fq)(fX:Df K mg "_law_ratio" iG)(gX:Df K mg "_law_laid" iY)(eM:Df K mg "_law_paths" gz)(eY:Df K mg "_law_walked" cT)(fY:Df K mg "_law_total" iH)(gY:Df K mg "_law_gone" iZ)(eN:Df K mg "_law_sound" bM)(gZ:Df K mg "_law_pair" jH)(cR:Df K mg "_law_with_pairs" cU)(eZ:Df K mg "_law_others" d8)(eC:Df K mg "_law_numbers" d9)(dJ:Df K mg "_law_all_bits" dq)(cf:Df K mg "_law_seen_chances" b_)(eD:Df K mg "_law_results" d_)(g6:Df K mg "_law_good" jI)(e_:Df K mg "_law_turned" gA)(cS:Df K mg "_law_one_of_two" dD)(hp:∀ns:List Int,ns.length<=63->yS [.scr (ns.map .int)]=.ok (.bl true)):lJ P w K mg base xx 12 f fd ["script"] (xQ K):=by
 have kZ:=w_ (P:=P) (w:=w) (base:=base) T  gT;have ez:=qj (P:=P) (w:=w) (base:=base) T  dg;have mJ:=yW (P:=P) (w:=w) (base:=base) T kZ ez i4;have gE:=AI (P:=P) (w:=w) (base:=base) T  jK;have nX:=Dx (P:=P) (w:=w) (base:=base) T  k7;have jn:=xb (P:=P) (w:=w) (base:=base) T  gU;have gF:=nR (P:=P) (w:=w) (base:=base) T mJ dh;have oX:=AJ (P:=P) (w:=w) (base:=base) T  jL;have oY:=AK (P:=P) (w:=w) (base:=base) T gE jM;have AS:=IV (P:=P) (w:=w) (base:=base) T gE nX jn gF oX t6;have i5:=qk (P:=P) (w:=w) (base:=base) T  eA;have xn:=uy (P:=P) (w:=w) (base:=base) T i5 fW;have bY:=xc (P:=P) (w:=w) (base:=base) T  gW;have i6:=qm (P:=P) (w:=w) (base:=base) T  eB;have cQ:=uz (P:=P) (w:=w) (base:=base) T i6 fX;have ft:=xf (P:=P) (w:=w) (base:=base) T  gX;have dF:=uA (P:=P) (w:=w) (base:=base) T ft eM;have fZ:=uB (P:=P) (w:=w) (base:=base) T cQ fY;have jx:=tO (P:=P) (w:=w) (base:=base) T cQ fZ eY;have fu:=xg (P:=P) (w:=w) (base:=base) T dF jx gY;have f6:=uC (P:=P) (w:=w) (base:=base) T  eN;have k8:=xh (P:=P) (w:=w) (base:=base) T  gZ;have b6:=mG (P:=P) (w:=w) (base:=base) T bY cR;have jy:=tP (P:=P) (w:=w) (base:=base) T  eZ;have i7:=qo (P:=P) (w:=w) (base:=base) T bY eC;have ig:=oR (P:=P) (w:=w) (base:=base) T  dJ;have br:=kT (P:=P) (w:=w) (base:=base) T fu cf;have di:=qp (P:=P) (w:=w) (base:=base) T fu eD;have fw:=xi (P:=P) (w:=w) (base:=base) T f6 g6;have uF:=tQ (P:=P) (w:=w) (base:=base) T oY bY b6 br di fw e_;have nY:=mH (P:=P) (w:=w) (base:=base) T AS k8 b6 jy i7 ig br di fw cS;refine LL (f:=yS) ?_ hp;refine G3.okD (N:=["script","k","state"]) (ps:=["script"]) (st:=yT) (k:=11) Pd .S GA FL AH rfl (by decide) ?_;intro f cP A outer s0 H E hr;have hu:=hr.units;have kg:=bV hr;exact (ao (fI Xu rfl (iD (ae (a7 (Cu rfl) ER (by rfl) T.zfq Es (ae ak (ae (a7 (Cv rfl) ES (by rfl) T.zgq Lu (ae (a7 bI cy (by rfl) T.zjq dw (ae (aj 0) ah)) (ae ak ah))) ah))) ah) T.zdq) (aB (i:=1) AH.nd)
 (ao (fH (i:=2) AH.nd (aH xn (rm hr) (ae (aj 0) (ae (aj 1) ah))))
 (aw (dk (DW.dt (xI (zF (vS (eU (i:=2) uF (rm hr) (ae (aS bw bx ak (eU (i:=2) bY (rm hr) (ae ak ah))) ah)))) (vT (zF (vS (eU (i:=2) nY (rm hr) (ae (aS bw bx ak (eU (i:=2) bY (rm hr) (ae ak ah))) ah))))))) (aw (aW rC)) bt))))
 (aw (aW rC)))
end
inductive lE (K:Wv)(x:Str)(st:aak):Prop
 |mk {f:WT} {od an:Option WT} {sl:Array (Option WB)} {oc kV dc pm cd ct:WB}:Yt K Xn x=some (some (.ref f))->K.lookup f=some ⟨oc,od,.func (Yp x x (fD st) (cx st) (aq st) .none kV dc pm an cd ct),sl⟩->abE K cd x=true->Zw K (.ref f)=true->lE K x st
theorem cw (q:lE K x st)(X:K.In h)(G:h.Ns Xn mg):Df K mg x st:=by
 obtain⟨a,l,c,k⟩:=q;exact⟨_,_,PySem.W.mg_of X G a,Eh (st:=st) l c k⟩
theorem all_mk {fa:WT}(X:K.In h)(G:h.Ns Xn mg)(VH:mg "law"=some (.ref fa))(q0:lE K "exchanged" gw)(q1:lE K "arrangements" bR)(q2:lE K "pile_mix" iX)(q3:lE K "pair_at" lC)(q4:lE K "turned" lD)(q5:lE K "whole_end" gx)(q6:lE K "mixed_and_seen" dM)(q7:lE K "turning" gP)(q8:lE K "negated" jF)(q9:lE K "oned" vE)(VI:lE K "_law_cell_at" gy)(VJ:lE K "_law_state" iF)(VL:lE K "_law_take" jG)(VM:lE K "_law_divisor" fq)(VN:lE K "_law_ratio" iG)(VO:lE K "_law_laid" iY)(VP:lE K "_law_paths" gz)(VQ:lE K "_law_walked" cT)(VR:lE K "_law_total" iH)(VS:lE K "_law_gone" iZ)(VT:lE K "_law_sound" bM)(VU:lE K "_law_pair" jH)(VX:lE K "_law_with_pairs" cU)(VY:lE K "_law_others" d8)(VZ:lE K "_law_numbers" d9)(V0:lE K "_law_all_bits" dq)(V1:lE K "_law_seen_chances" b_)(V2:lE K "_law_results" d_)(V3:lE K "_law_good" jI)(V4:lE K "_law_turned" gA)(V5:lE K "_law_one_of_two" dD)(V6:lE K "law" yT)(zhq:Yt K Xn "abs"=some none)(zjq:Yt K Xn "len"=some none)(zeq:Yt K Xn "list"=some none)(zfq:Yt K Xn "max"=some none)(zgq:Yt K Xn "min"=some none)(zdq:Yt K Xn "range"=some none)(zlq:Yt K Xn "set"=some none)(zbq:Yt K Xn "sorted"=some none)(zkq:Yt K Xn "sum"=some none)(zcq:Yt K Xn "tuple"=some none)(ziq:Yt K Xn "zip"=some none){ik:Tok}(zaq:Yt K Xn "MOST_PILES_MIXED"=some (some (.int 4 ik)))(hp:∀ns:List Int,ns.length<=63->yS [.scr (ns.map .int)]=.ok (.bl true))
  : ∃fd:aaX,(∀(s:WN) (v:WB),BindsTo s fd ⟨[v],[]⟩ [("script",v)])/\∀base:Y8,K.In base->base.Ns Xn mg->lJ PySem.Challenge.pw_hushcards_k52_turned_and_one_of_two w K mg base xx 12 fa fd ["script"] (xQ K):=by
 obtain @⟨f_,od_,an31,sl_,oc_,kV31,dc31,pm31,cd31,ct31,a31,l31,c31,k31⟩:=V6;have e:=VH.symm.trans (PySem.W.mg_of X G a31);cases e;have T:lR mg:=⟨XD X G zhq,XD X G zjq,XD X G zeq,XD X G zfq,XD X G zgq,XD X G zdq,XD X G zlq,XD X G zbq,XD X G zkq,XD X G zcq,XD X G ziq,⟨_,PySem.W.mg_of X G zaq⟩⟩;have gT:=cw q0 X G;have dg:=cw q1 X G;have i4:=cw q2 X G;have jK:=cw q3 X G;have k7:=cw q4 X G;have gU:=cw q5 X G;have dh:=cw q6 X G;have jL:=cw q7 X G;have jM:=cw q8 X G;have t6:=cw q9 X G;have eA:=cw VI X G;have fW:=cw VJ X G;have gW:=cw VL X G;have eB:=cw VM X G;have fX:=cw VN X G;have gX:=cw VO X G;have eM:=cw VP X G;have eY:=cw VQ X G;have fY:=cw VR X G;have gY:=cw VS X G;have eN:=cw VT X G;have gZ:=cw VU X G;have cR:=cw VX X G;have eZ:=cw VY X G;have eC:=cw VZ X G;have dJ:=cw V0 X G;have cf:=cw V1 X G;have eD:=cw V2 X G;have g6:=cw V3 X G;have e_:=cw V4 X G;have cS:=cw V5 X G;have FL:=Eh (st:=yT) l31 c31 k31;refine⟨Yp "law" "law" (fD yT) (cx yT) (aq yT) .none kV31 dc31 pm31 an31 cd31 ct31,λs v=>.of_eq rfl,λbase _ _=>?_⟩;exact MB (P:=PySem.Challenge.pw_hushcards_k52_turned_and_one_of_two) (w:=w) (base:=base) T  FL gT dg i4 jK k7 gU dh jL jM t6 eA fW gW eB fX gX eM eY fY gY eN gZ cR eZ eC dJ cf eD g6 e_ cS hp
end Hc
namespace Hc
open L2
noncomputable abbrev hS (s:String)(n:Nat):WB:=.str (YE s) n
noncomputable abbrev hE (P:Params)(s:String)(n:Nat)(v:WB):DictEntry:=⟨PyData.keyHash P (YE s),hS s n,v⟩
noncomputable abbrev hD (c:WB)(l:List DictEntry)(n:Nat):Obj:=⟨c,none,.dict l.toArray n,#[]⟩
noncomputable abbrev hX (c:WB)(l:List WB):Obj:=⟨c,none,.fields l.toArray,#[]⟩
noncomputable abbrev hC (n q:String)(a:Nat)(l k:Int)(r r1:Nat)(v1 v2:WB)(r2:Nat)(m:Int)(m':Nat):Obj:=hX (.type "code") [hS n a,hS q (a+1),hS "/claim/cut.py" (a+2),.int l 0,.int k 0,.int 0 0,.int 0 0,.int 3 0,.ref r,.bool true,.int 181 0,.ref r1,.none,v1,v2,.ref r2,.int m 0,.int l 0,hS "/claim/cut.py" m']
noncomputable abbrev hF (n q:String)(s:aak)(kV n9 pm:WB)(an:Option WT)(cd ct:WB):Obj:=⟨.type "function",none,.func (Yp n q (fD s) (cx s) (aq s) .none kV n9 pm an cd ct),#[]⟩
noncomputable def Kf (P:Params):Wv:=
 (nat_lit 2,hD .none [] 0) ::
 (nat_lit 3,hD (.type "dict") [hE P "__name__" 165 (hS "law_hushcards_k52_turned_and_one_of_two" 312),hE P "__doc__" 166 .none,hE P "__package__" 167 .none,hE P "__loader__" 168 (.builtin "__main__.__loader__#opaque"),hE P "__spec__" 169 .none,hE P "__annotations__" 170 (.ref 6),hE P "__builtins__" 171 (.ref 4),hE P "__file__" 173 (hS "/claim/cut.py" 172),hE P "__cached__" 174 .none,hE P "CardError" 206 (.ref 24),hE P "TooMany" 222 (.ref 37),hE P "MOST_PILES_MIXED" 226 (.int 4 225),hE P "exchanged" 240 (.ref 46),hE P "arrangements" 246 (.ref 51),hE P "pile_mix" 252 (.ref 56),hE P "pair_at" 261 (.ref 63),hE P "turned" 268 (.ref 70),hE P "whole_end" 274 (.ref 75),hE P "mixed_and_seen" 283 (.ref 82),hE P "turning" 289 (.ref 87),hE P "negated" 299 (.ref 94),hE P "oned" 311 (.ref 101),hE P "_law_cell_at" 321 (.ref 108),hE P "_law_state" 330 (.ref 115),hE P "_law_take" 340 (.ref 122),hE P "_law_divisor" 348 (.ref 129),hE P "_law_ratio" 357 (.ref 136),hE P "_law_laid" 363 (.ref 141),hE P "_law_paths" 379 (.ref 148),hE P "_law_walked" 385 (.ref 153),hE P "_law_total" 395 (.ref 160),hE P "_law_gone" 401 (.ref 165),hE P "_law_sound" 407 (.ref 170),hE P "_law_pair" 414 (.ref 177),hE P "_law_with_pairs" 420 (.ref 182),hE P "_law_others" 426 (.ref 187),hE P "_law_numbers" 432 (.ref 192),hE P "_law_all_bits" 438 (.ref 197),hE P "_law_seen_chances" 444 (.ref 202),hE P "_law_results" 450 (.ref 207),hE P "_law_good" 459 (.ref 214),hE P "_law_turned" 472 (.ref 221),hE P "_law_one_of_two" 478 (.ref 226),hE P "law" 487 (.ref 233)] 44) ::
 (nat_lit 23,hD (.type "dict") [hE P "__module__" 196 (hS "hushcards.errors" 187),hE P "__firstlineno__" 200 (.int 2 199),hE P "__static_attributes__" 201 (.ref 22),hE P "__weakref__" 203 (.ref 25),hE P "__doc__" 204 .none] 3) ::
 (nat_lit 24,⟨.type "type",none,.cls {name:="CardError",bases:=[.type "ValueError"],mro:=[.ref 24,.type "ValueError",.type "Exception",.type "BaseException",.type "object"],ns:=23,qualname:="CardError",subclasses:=[.ref 37]},#[some (.ref 15),none,some (hS "CardError" 189),some (hS "CardError" 197),some (.builtin "ValueError.__new__"),some (.bool true)]⟩) ::
 (nat_lit 36,hD (.type "dict") [hE P "__module__" 214 (hS "hushcards.errors" 187),hE P "__firstlineno__" 218 (.int 4 217),hE P "__static_attributes__" 219 (.ref 35),hE P "__doc__" 220 .none] 2) ::
 (nat_lit 37,⟨.type "type",none,.cls {name:="TooMany",bases:=[.ref 24],mro:=[.ref 37,.ref 24,.type "ValueError",.type "Exception",.type "BaseException",.type "object"],ns:=36,qualname:="TooMany"},#[some (.ref 28),none,some (hS "TooMany" 207),some (hS "TooMany" 215),some (.builtin "ValueError.__new__"),some (.bool true)]⟩) ::
 (nat_lit 45,hC "exchanged" "exchanged" 227 8 3 40 41 (.ref 42) (.ref 43) 44 238 239) ::
 (nat_lit 46,hF "exchanged" "exchanged" (top 5) .none .none (hS "hushcards.shuffles" 223) none (.ref 45) .none) ::
 (nat_lit 50,hC "arrangements" "arrangements" 241 14 1 47 48 .none .none 49 244 245) ::
 (nat_lit 51,hF "arrangements" "arrangements" (top 6) .none .none (hS "hushcards.shuffles" 223) none (.ref 50) .none) ::
 (nat_lit 55,hC "pile_mix" "pile_mix" 247 22 2 52 53 .none .none 54 250 251) ::
 (nat_lit 56,hF "pile_mix" "pile_mix" (top 7) .none .none (hS "hushcards.shuffles" 223) none (.ref 55) .none) ::
 (nat_lit 62,hC "pair_at" "pair_at" 255 27 1 57 58 (.ref 59) (.ref 60) 61 259 260) ::
 (nat_lit 63,hF "pair_at" "pair_at" (top 9) .none .none (hS "hushcards.gates" 253) none (.ref 62) .none) ::
 (nat_lit 69,hC "turned" "turned" 262 29 1 64 65 (.ref 66) (.ref 67) 68 266 267) ::
 (nat_lit 70,hF "turned" "turned" (top 10) .none .none (hS "hushcards.gates" 253) none (.ref 69) .none) ::
 (nat_lit 74,hC "whole_end" "whole_end" 269 31 2 71 72 .none .none 73 272 273) ::
 (nat_lit 75,hF "whole_end" "whole_end" (top 11) .none .none (hS "hushcards.gates" 253) none (.ref 74) .none) ::
 (nat_lit 81,hC "mixed_and_seen" "mixed_and_seen" 275 36 3 76 77 (.ref 78) (.ref 79) 80 281 282) ::
 (nat_lit 82,hF "mixed_and_seen" "mixed_and_seen" (top 12) .none .none (hS "hushcards.gates" 253) none (.ref 81) .none) ::
 (nat_lit 86,hC "turning" "turning" 284 38 2 83 84 .none .none 85 287 288) ::
 (nat_lit 87,hF "turning" "turning" (top 13) .none .none (hS "hushcards.gates" 253) none (.ref 86) .none) ::
 (nat_lit 93,hC "negated" "negated" 290 40 2 88 89 (.ref 90) (.ref 91) 92 297 298) ::
 (nat_lit 94,hF "negated" "negated" (top 14) .none .none (hS "hushcards.gates" 253) none (.ref 93) .none) ::
 (nat_lit 100,hC "oned" "oned" 300 46 3 95 96 (.ref 97) (.ref 98) 99 309 310) ::
 (nat_lit 101,hF "oned" "oned" (top 15) .none .none (hS "hushcards.gates" 253) none (.ref 100) .none) ::
 (nat_lit 107,hC "_law_cell_at" "_law_cell_at" 314 52 2 102 103 (.ref 104) (.ref 105) 106 319 320) ::
 (nat_lit 108,hF "_law_cell_at" "_law_cell_at" (top 17) .none .none (hS "law_hushcards_k52_turned_and_one_of_two" 312) none (.ref 107) .none) ::
 (nat_lit 114,hC "_law_state" "_law_state" 322 56 2 109 110 (.ref 111) (.ref 112) 113 328 329) ::
 (nat_lit 115,hF "_law_state" "_law_state" (top 18) .none .none (hS "law_hushcards_k52_turned_and_one_of_two" 312) none (.ref 114) .none) ::
 (nat_lit 121,hC "_law_take" "_law_take" 331 61 2 116 117 (.ref 118) (.ref 119) 120 338 339) ::
 (nat_lit 122,hF "_law_take" "_law_take" (top 19) .none .none (hS "law_hushcards_k52_turned_and_one_of_two" 312) none (.ref 121) .none) ::
 (nat_lit 128,hC "_law_divisor" "_law_divisor" 341 70 2 123 124 (.ref 125) (.ref 126) 127 346 347) ::
 (nat_lit 129,hF "_law_divisor" "_law_divisor" (top 20) .none .none (hS "law_hushcards_k52_turned_and_one_of_two" 312) none (.ref 128) .none) ::
 (nat_lit 135,hC "_law_ratio" "_law_ratio" 349 76 2 130 131 (.ref 132) (.ref 133) 134 355 356) ::
 (nat_lit 136,hF "_law_ratio" "_law_ratio" (top 21) .none .none (hS "law_hushcards_k52_turned_and_one_of_two" 312) none (.ref 135) .none) ::
 (nat_lit 140,hC "_law_laid" "_law_laid" 358 79 2 137 138 .none .none 139 361 362) ::
 (nat_lit 141,hF "_law_laid" "_law_laid" (top 22) .none .none (hS "law_hushcards_k52_turned_and_one_of_two" 312) none (.ref 140) .none) ::
 (nat_lit 147,hC "_law_paths" "_law_paths" 364 81 5 142 143 (.ref 144) (.ref 145) 146 377 378) ::
 (nat_lit 148,hF "_law_paths" "_law_paths" (top 23) .none .none (hS "law_hushcards_k52_turned_and_one_of_two" 312) none (.ref 147) .none) ::
 (nat_lit 152,hC "_law_walked" "_law_walked" 380 98 1 149 150 .none .none 151 383 384) ::
 (nat_lit 153,hF "_law_walked" "_law_walked" (top 24) .none .none (hS "law_hushcards_k52_turned_and_one_of_two" 312) none (.ref 152) .none) ::
 (nat_lit 159,hC "_law_total" "_law_total" 386 114 1 154 155 (.ref 156) (.ref 157) 158 393 394) ::
 (nat_lit 160,hF "_law_total" "_law_total" (top 25) .none .none (hS "law_hushcards_k52_turned_and_one_of_two" 312) none (.ref 159) .none) ::
 (nat_lit 164,hC "_law_gone" "_law_gone" 396 119 2 161 162 .none .none 163 399 400) ::
 (nat_lit 165,hF "_law_gone" "_law_gone" (top 26) .none .none (hS "law_hushcards_k52_turned_and_one_of_two" 312) none (.ref 164) .none) ::
 (nat_lit 169,hC "_law_sound" "_law_sound" 402 128 3 166 167 .none .none 168 405 406) ::
 (nat_lit 170,hF "_law_sound" "_law_sound" (top 27) .none .none (hS "law_hushcards_k52_turned_and_one_of_two" 312) none (.ref 169) .none) ::
 (nat_lit 176,hC "_law_pair" "_law_pair" 408 148 1 171 172 (.ref 173) (.ref 174) 175 412 413) ::
 (nat_lit 177,hF "_law_pair" "_law_pair" (top 28) .none .none (hS "law_hushcards_k52_turned_and_one_of_two" 312) none (.ref 176) .none) ::
 (nat_lit 181,hC "_law_with_pairs" "_law_with_pairs" 415 150 4 178 179 .none .none 180 418 419) ::
 (nat_lit 182,hF "_law_with_pairs" "_law_with_pairs" (top 29) .none .none (hS "law_hushcards_k52_turned_and_one_of_two" 312) none (.ref 181) .none) ::
 (nat_lit 186,hC "_law_others" "_law_others" 421 156 2 183 184 .none .none 185 424 425) ::
 (nat_lit 187,hF "_law_others" "_law_others" (top 30) .none .none (hS "law_hushcards_k52_turned_and_one_of_two" 312) none (.ref 186) .none) ::
 (nat_lit 191,hC "_law_numbers" "_law_numbers" 427 159 3 188 189 .none .none 190 430 431) ::
 (nat_lit 192,hF "_law_numbers" "_law_numbers" (top 31) .none .none (hS "law_hushcards_k52_turned_and_one_of_two" 312) none (.ref 191) .none) ::
 (nat_lit 196,hC "_law_all_bits" "_law_all_bits" 433 162 1 193 194 .none .none 195 436 437) ::
 (nat_lit 197,hF "_law_all_bits" "_law_all_bits" (top 32) .none .none (hS "law_hushcards_k52_turned_and_one_of_two" 312) none (.ref 196) .none) ::
 (nat_lit 201,hC "_law_seen_chances" "_law_seen_chances" 439 167 2 198 199 .none .none 200 442 443) ::
 (nat_lit 202,hF "_law_seen_chances" "_law_seen_chances" (top 33) .none .none (hS "law_hushcards_k52_turned_and_one_of_two" 312) none (.ref 201) .none) ::
 (nat_lit 206,hC "_law_results" "_law_results" 445 172 2 203 204 .none .none 205 448 449) ::
 (nat_lit 207,hF "_law_results" "_law_results" (top 34) .none .none (hS "law_hushcards_k52_turned_and_one_of_two" 312) none (.ref 206) .none) ::
 (nat_lit 213,hC "_law_good" "_law_good" 451 180 2 208 209 (.ref 210) (.ref 211) 212 457 458) ::
 (nat_lit 214,hF "_law_good" "_law_good" (top 35) .none .none (hS "law_hushcards_k52_turned_and_one_of_two" 312) none (.ref 213) .none) ::
 (nat_lit 220,hC "_law_turned" "_law_turned" 460 183 2 215 216 (.ref 217) (.ref 218) 219 470 471) ::
 (nat_lit 221,hF "_law_turned" "_law_turned" (top 36) .none .none (hS "law_hushcards_k52_turned_and_one_of_two" 312) none (.ref 220) .none) ::
 (nat_lit 225,hC "_law_one_of_two" "_law_one_of_two" 473 192 2 222 223 .none .none 224 476 477) ::
 (nat_lit 226,hF "_law_one_of_two" "_law_one_of_two" (top 37) .none .none (hS "law_hushcards_k52_turned_and_one_of_two" 312) none (.ref 225) .none) ::
 (nat_lit 232,hC "law" "law" 479 203 1 227 228 (.ref 229) (.ref 230) 231 485 486) ::
 (nat_lit 233,hF "law" "law" (top 38) .none .none (hS "law_hushcards_k52_turned_and_one_of_two" 312) none (.ref 232) .none)::[]
noncomputable def vw:XF:={PySem.Challenge.pw_hushcards_k52_turned_and_one_of_two with main:={PySem.Challenge.pw_hushcards_k52_turned_and_one_of_two.main with body:=([1,2,4,5,6,7,9,10,11,12,13,14,15,17,18,19,20,21,22,23,24,25,26,27,28,29,30,31,32,33,34,35,36,37,38]:List Nat).map top}}
noncomputable def hk:PySem.W.Hook:=PySem.W.kHook Kf [2,3,23,24,36,37,45,46,50,51,55,56,62,63,69,70,74,75,81,82,86,87,93,94,100,101,107,108,114,115,121,122,128,129,135,136,140,141,147,148,152,153,159,160,164,165,169,170,176,177,181,182,186,187,191,192,196,197,201,202,206,207,213,214,220,221,225,226,232,233] (λ_=>by kernel_rfl)
noncomputable abbrev Ub:=PySem.Challenge.rw_hushcards_k52_turned_and_one_of_two.row
theorem left:PySem.W.LeftO Ub.prog vw [] (λs=>PySem.W.xlAt vw [] s&&PySem.W.recOk (PySem.W.RowW.records Ub.toRowW) s) hk.obs hk.val 2876:=λw=>by kernel_rfl
end Hc
namespace Hc
open L2
theorem Kr {f:Bool->Bool}{u w:U}:R0 f u w=(O7 u w).bind λb=>.ok (.bl (f b)):=nr rfl
theorem B_ {a b:Int}:O7 (.int a) (.int b)=.ok (a==b):=nr rfl
theorem GB {a b:Bool}:O7 (.bl a) (.bl b)=.ok (a==b):=nr rfl
theorem Ca {a b:Str}:O7 (.str a) (.str b)=.ok (a==b):=nr rfl
theorem nU:type_of% @WQ.{0,0}/\type_of% @Yg.{0,0}/\type_of% @Ww.{0}/\type_of% @Yi.{0}/\type_of% @Yr.{0}/\type_of% @XX.{0}/\type_of% @XM.{0}/\type_of% @YW.{0}/\type_of% @List.getElem?_cons_zero.{0}/\type_of% @XI.{0}/\type_of% @Yn.{0}/\type_of% @Y7.{0}/\type_of% @Zv.{0}/\type_of% @Z5.{0}/\type_of% @if_true.{1}/\type_of% @if_false.{1}/\type_of% @W9/\type_of% @JE/\type_of% @ZU/\type_of% @abG/\type_of% @Kr/\type_of% @B_/\type_of% @GB/\type_of% @Ca:=
 ⟨@WQ.{0,0},@Yg.{0,0},@Ww.{0},@Yi.{0},@Yr.{0},@XX.{0},@XM.{0},@YW.{0},@List.getElem?_cons_zero.{0},@XI.{0},@Yn.{0},@Y7.{0},@Zv.{0},@Z5.{0},@if_true.{1},@if_false.{1},@W9,@JE,@ZU,@abG,@Kr,@B_,@GB,@Ca⟩
end Hc
namespace Hc
open L2
theorem NS:(0:Nat)<=WE/\(1:Nat)<=WE/\(2:Nat)<=WE/\(3:Nat)<=WE/\(4:Nat)<=WE/\(5:Nat)<=WE/\(6:Nat)<=WE/\(10:Nat)<=WE/\(16:Nat)<=WE/\(18:Nat)<=WE/\(22:Nat)<=WE:=by decide
theorem Pzz:type_of% @cJ∧type_of% @nU∧type_of% @NS:=⟨@cJ,@nU,@NS⟩
def tR (s:U):Prop:=∃v b,s=.lst [.int v,.bl b]/\0<=v/\(b=false->v<2147483647)
theorem nV {s:U}{m:Int}(h:tR s)(h0:0<m)(h1:m<18446744073709551616):∃r s',ba [s,.int m]=.ok (.int r,s')/\0<=r/\r<m/\tR s':=by
 obtain⟨v,b,rfl,hv,hb⟩:=h;cases b with
 |true=>
  refine⟨v % m,.lst [.int (v / m),.bl true],?_,ZI _ (by lia),Y4 _ h0,v / m,true,rfl,Int.ediv_nonneg hv (by lia),λh=>nomatch h⟩;simp only[Pzz,i9,Nat.reduceAdd,Nat.reduceSub,ba,ji,hG h0,qC h0 h1,BM]
 |false=>
  have g1:0<=(v*48271+29) % 2147483647:=ZI _ (by decide);have g2:(v*48271+29) % 2147483647<2147483647:=Y4 _ (by decide);have c1:qb v 48271=true:=L8 (by decide) (by decide);have d1:decide ((0:Int)<2147483647)=true:=by decide
  have d2:decide ((0:Int)<2147483629)=true:=by decide
  have d3:decide ((0:Int)<2147483587)=true:=by decide
  have e8:xS (((((v*48271+29) % 2147483647)*((v*48271+29) % 2147483647)+39373*((v*48271+29) % 2147483647)+7) % 2147483629*((((v*48271+29) % 2147483647)*((v*48271+29) % 2147483647)+39373*((v*48271+29) % 2147483647)+7) % 2147483629)+16807*((((v*48271+29) % 2147483647)*((v*48271+29) % 2147483647)+39373*((v*48271+29) % 2147483647)+7) % 2147483629)) % 2147483587) 8=true:=qC (by decide) (by decide);have c2:qb ((v*48271+29) % 2147483647) ((v*48271+29) % 2147483647)=true:=v_ g1 (by lia);have c3:qb 39373 ((v*48271+29) % 2147483647)=true:=v_ (by decide) (by decide);generalize hs:(v*48271+29) % 2147483647=s1 at *;have g3:0<=(s1*s1+39373*s1+7) % 2147483629:=ZI _ (by decide);have g4:(s1*s1+39373*s1+7) % 2147483629<2147483629:=Y4 _ (by decide);have c4:qb ((s1*s1+39373*s1+7) % 2147483629) ((s1*s1+39373*s1+7) % 2147483629)=true:=v_ g3 (by lia);have c5:qb 16807 ((s1*s1+39373*s1+7) % 2147483629)=true:=v_ (by decide) (by decide);refine⟨((s1*s1+39373*s1+7) % 2147483629*((s1*s1+39373*s1+7) % 2147483629)+16807*((s1*s1+39373*s1+7) % 2147483629)) % 2147483587 / 8 % m,.lst [.int s1,.bl false],?_,ZI _ (by lia),Y4 _ h0,s1,false,rfl,g1,λ_=>g2⟩
  ·simp only[Pzz,i9,Nat.reduceAdd,Nat.reduceSub,ba,ji,hG h0,c1,d1,d2,d3,hs,c2,c3,c4,c5,e8,BM]
theorem GC {us:List U}{k:Int}(hu:u=.scr (ns.map .int)\/u=.lst (ns.map .int))(h0:0<=k):∃s,fP [u,.int k]=.ok s/\tR s:=by
 obtain⟨k,rfl⟩:∃n:Nat,k=n:=⟨k.toNat,by lia⟩;have vI:∃c:Int,c_ [u,.int k]=.ok (.int c):=by
  by_cases hk:k<ns.length
  ·refine⟨ns[k],?_⟩;have d:decide ((k:Int)<((ns.map U.int).length:Nat))=true:=by rw[WC];exact hG (by lia)
   have e:og (ns.map U.int) (k:Int)=some (.int ns[k]):=by rw[BL,Xc,Wr hk];rfl
   rcases hu with rfl|rfl<;>simp only[Pzz,i9,Nat.reduceAdd,Nat.reduceSub,c_,fO,d,e]
  ·refine⟨0,?_⟩;have d:decide ((k:Int)<((ns.map U.int).length:Nat))=false:=by rw[WC];exact hJ (by lia)
   rcases hu with rfl|rfl<;>simp only[Pzz,i9,Nat.reduceAdd,Nat.reduceSub,c_,fO,d]
 obtain⟨c,hc⟩:=vI;have UH:HV 10 18=true:=by decide
 have UI:(10:Int) ^ (18:Int).toNat=1000000000000000000:=by decide
 have l2:(2:Nat)<=WE:=by decide
 have dm:decide ((0:Int)<2147483647)=true:=by decide
 by_cases h:1000000000000000000<=c
 ·refine⟨.lst [.int (c-1000000000000000000),.bl true],?_,_,true,rfl,by lia,λh=>nomatch h⟩;simp only[Pzz,i9,Nat.reduceAdd,Nat.reduceSub,fP,iu,hc,UH,UI,hG h,l2,hV]
 ·refine⟨.lst [.int (c % 2147483647),.bl false],?_,_,false,rfl,ZI _ (by decide),λ_=>Y4 _ (by decide)⟩;simp only[Pzz,i9,Nat.reduceAdd,Nat.reduceSub,fP,iu,hc,UH,UI,hJ h,l2,dm,hV]
open Hc.Ts
noncomputable def jJ:R U->Bool
 | .ok _=>true
 |_=>false
noncomputable def R4:R U->U
 | .ok u=>u
 |_=>.non
theorem j9 {r:R U}(h:jJ r=true):r=.ok (R4 r):=by
 cases r<;>first|rfl|cases h
noncomputable def oT (r:R U)(u:U):Bool:=match r with
 | .ok x=>uQ x u
 |_=>false
theorem fg {r:R U}(h:oT r u=true):r=.ok u:=by
 cases r with
 |ok x=>rw[zA h]
 |exc=>cases h
 |stk=>cases h
theorem az {α β:Type}{f g:α->β}:∀{l:List α},l.map f=l.map g->∀x∈l,f x=g x
 | [],_,x,h=>by cases h
 |y::l,e,x,h=>by
  rw[WQ,WQ] at e;injection e with e1 e2
  rcases WK.mp h with rfl|h
  ·exact e1
  ·exact az e2 x h
theorem tT (h:d≠[]):Gg (au d)=some d:=by
 unfold Gg au;dsimp only;rw[EU];cases d with
 |nil=>exact absurd rfl h
 |cons=>rfl
theorem Dy (h:d≠[]):dZ [.lst [au d,au d]]=.ok (.lst [au d]):=by
 have e:iO [au d,au d]=some [d,d]:=by
  unfold iO iO iO;rw[tT h]
 have o:jD [d,d]=[d]:=by
  have a1:wD [] d=[d]:=hU Y1;have a2:wD [d] d=[d]:=hV Wz;show wD (wD [] d) d=[d];rw[a1,a2]
 unfold dZ;dsimp only;rw[e];dsimp only;rw[o];rfl
theorem GD (h:d≠[]):dZ [.lst [au d]]=.ok (.lst [au d]):=by
 have e:iO [au d]=some [d]:=by
  unfold iO iO;rw[tT h]
 have o:jD [d]=[d]:=rfl;unfold dZ;dsimp only;rw[e];dsimp only;rw[o];rfl
theorem GF {d:D}(h:rO u=some d)(hd:eQ d<=30):zO u u=.ok true:=by
 unfold zO;rw[h];dsimp only;rw[hV hd,rg]
theorem IW (r:List Int):rO (au r)=some (.tup (r.map .int)):=by unfold au rO;rw[C5];rfl
theorem Cb (d:List Int):zO (.lst [au d]) (.lst [au d])=.ok true:=by
 refine GF (d:=.lst [.tup (d.map .int)]) ?_ ?_
 ·unfold rO lL lL;rw[IW];rfl
 ·have:=Ah d;unfold eQ j4 j4 eQ;rw[this];decide
theorem tU {α:Type}:∀(l:List α) (i:Nat) (h:i<l.length),(l[i]::l.eraseIdx i).Perm l
 |x::l,0,_=>X3 _
 |x::l,i+1,h=>by
  have h':i<l.length:=by simpa using h
  show (l[i]::x::l.eraseIdx i).Perm (x::l);exact (List.Perm.swap _ _ _).trans (List.Perm.cons x (tU l i h'))
theorem nW {α β:Type}(f:α->β):∀(l:List α) (i:Nat),(l.map f).eraseIdx i=(l.eraseIdx i).map f
 | [],_=>rfl
 |_::_,0=>rfl
 |x::l,i+1=>by
  show f x::(l.map f).eraseIdx i=f x::(l.eraseIdx i).map f;rw[nW f l i]
theorem MC {k:Int}{y:U}(h1:abN k us.length=some j)(h2:us[j]? = some y)(h3:0<=k)(h4:k<1000000000):oB (.lst us) [.int k]=.ok (y,.lst (us.eraseIdx j)):=by
 unfold oB;dsimp only;rw[hV (by lia),h1];dsimp only;rw[h2]
open Hc.Ts
theorem IX {s:U}{c:Nat}(h:tR s)(hn:(m:Int) / 2=n)(h1:n<=1000)(hc:c<=n)(hm:m<=100):∃(os:List Int) (s':U),cv [s,.int m,.int c]=.ok (.lst (os.map .int),s')/\os.length=c/\os.Nodup/\(∀x∈os,0<=x/\x<n)/\tR s':=by
 obtain⟨ys,⟨left,s'⟩,e,l,os,hr,hp,hs'⟩:=rY (G:=iV) (js:=[none,some 3,some 0]) (sg:=bD 0) (ge:=gM "list" 1 oB (af (uS 2 2 ba (af (gG iq (af (ag 1) ar)) ar)) ar))
  (λx:List Int×U=>[some x.2,some (.int m),some (.int c),some (.lst (x.1.map .int))]) c (λys x=>∃os:List Int,ys=os.map .int/\(os++x.1).Perm (iL n)/\tR x.2)
  (λdone u x hd h00=>by
   obtain⟨os,hr,hp,hs⟩:=h00;obtain⟨left,s⟩:=x;have hl:0<left.length:=by
    have:=hp.length_eq;rw[WG,rZ] at this;have h2:done.length=os.length:=by rw[hr,WC]
    dsimp only at this;lia
   have MW:left.length<=n:=by
    have:=hp.length_eq;rw[WG,rZ] at this;dsimp only at this;lia
   obtain⟨r,s',b1,b2,b3,b4⟩:=nV (m:=left.length) hs (by lia) (by lia);obtain⟨k,rfl⟩:∃n:Nat,r=n:=⟨r.toNat,by lia⟩;have hk:k<left.length:=by lia
   refine⟨[some u,some (.lst (left.map .int)),some s],.int left[k],[some u,some (.lst ((left.eraseIdx k).map .int)),some s'],(left.eraseIdx k,s'),rfl,?_,rfl,os++[left[k]],by rw[hr,Ya];rfl,?_,b4⟩
   ·have hx:abN (k:Int) (left.map U.int).length=some k:=by
     unfold abN;rw[WC];simp;lia
    have hy:(left.map U.int)[k]? = some (.int left[k]):=by rw[Xc,Wr hk];rfl
    have pp:=MC hx hy (by lia) (by lia);rw[nW] at pp;simp only[Pzz,i9,Nat.reduceAdd,Nat.reduceSub,WC,b1,pp]
   ·rw[W4];refine List.Perm.trans (XY os ?_) hp;exact tU left k hk) (cu 0 c) [] (iL n,s) (by rw[gm];simp) ⟨[],rfl,X3 _,h⟩
 rw[gm] at l;have ln:os.length=c:=by
  have:=congrArg List.length hr;rw[XX,WC] at this;lia
 rw[XX] at hr;dsimp only at e;have nd:(iL n).Nodup:=by
  unfold iL;exact List.Pairwise.map _ (λa b h e=>h (Int.ofNat.inj e)) Z8
 have TH:(os++left).Nodup:=hp.symm.nodup nd;refine⟨os,s',?_,ln,(YB.mp TH).1,λx hx=>?_,hs'⟩
 ·have d2:decide ((0:Int)<2)=true:=by decide
  have c2:xS (m:Int) 2=true:=qC (by decide) (by decide);rw[hr] at e;simp only[Pzz,i9,Nat.reduceAdd,Nat.reduceSub,cv,iW,d2,c2,hn,Ag c (by lia),Ik n (by lia),yb] at e ⊢;simp only[Pzz,i9,Nat.reduceAdd,Nat.reduceSub,e]
 ·have:=hp.mem_iff.mp (W8 _ hx)
  rwa [Ai] at this
theorem GG {s:U}{y2:Option U}(h:tR s)(h1:m<=1000):∃(xs:List Int) (s':U),oy cK [none,some 0] (bD 0) fJ (uS 2 1 ba (af (gC (.int 10)) ar)) (cu 0 m) [some s,some (.int m),y2,y3,none,y5,y6]=.ok (xs.map .int,[some s',some (.int m),y2,y3,none,y5,y6])/\xs.length=m/\tR s':=by
 obtain⟨ys,s',e,l,row,hr,hs'⟩:=rY (G:=cK) (js:=[none,some 0]) (sg:=bD 0) (ge:=uS 2 1 ba (af (gC (.int 10)) ar)) (λs:U=>[some s,some (.int m),y2,y3,none,y5,y6]) m (λys s=>∃row:List Int,ys=row.map .int/\tR s)
  (λdone u s _ h00=>by
   obtain⟨row,hr,hs⟩:=h00;obtain⟨r,s',b1,b2,b3,b4⟩:=nV (m:=10) hs (by decide) (by decide);refine⟨[some u,some s],.int r,[some u,some s'],s',rfl,?_,rfl,row++[r],by rw[hr,Ya];rfl,b4⟩;simp only[Pzz,i9,Nat.reduceAdd,Nat.reduceSub,b1]) (cu 0 m) [] s (by rw[gm];simp) ⟨[],rfl,h⟩
 rw[gm] at l;refine⟨row,s',by rw[e,←hr];rfl,?_,hs'⟩;have:=congrArg List.length hr;simp at this;lia
noncomputable def nZ:Ev->SR:=aK (g_ (C3 (af (ag 2) (af (ag 3) ar))) (cq 2 (aI (bD 5) (aI (bD 6) cn))) iU) (bg (gG fL (af (ag 4) ar)))
theorem Pe:fQ=aK (a8 4 (zL cK (lV (af (ag 1) ar)) [none,some 0] (bD 0) fJ (uS 2 1 ba (af (gC (.int 10)) ar)))) nZ:=rfl
theorem yX {s nu bi:U}(h:tR s)(h1:m<=1000){R:List Int->U}(hw:∀xs:List Int,xs.length=m->∀s,fy (nZ [some s,some (.int m),some nu,some bi,some (.lst (xs.map .int)),none,none])=.ok (R xs,s)) :
  ∃(xs:List Int) (s':U),bf [s,.int m,nu,bi]=.ok (R xs,s')/\xs.length=m/\tR s':=by
 obtain⟨xs,s',e,l,hs⟩:=GG (y2:=some nu) (y3:=some bi) (y5:=none) (y6:=none) h h1;refine⟨xs,s',?_,l,hs⟩;unfold bf;rw[Pe];simp only[Pzz,i9,Nat.reduceAdd,Nat.reduceSub,Ag m (by lia),e];exact hw xs l s'
theorem vF:∀d:List Int,v8 (d.map .int)=true
 | []=>by unfold v8;rfl
 |x::d=>by rw[WQ];unfold v8 uj;exact vF d
theorem vG:∀d:List Int,rk (d.map .int)=0
 | []=>by unfold rk;rfl
 |x::d=>by rw[WQ];unfold rk xH;rw[vG d];rfl
theorem GH (d:List Int):CN (au d)=true:=by
 show (v8 (d.map .int)&&decide (rk (d.map .int)<=6))=true;rw[vF,vG];rfl
theorem IY {l:U}:jV (.dct [au d] [l]) (au d)=.ok l:=by
 have f:zX [au d] (au d)=true:=by unfold zX;rw[GH];exact Bool.or_true _
 unfold jV;dsimp only;rw[hV f];unfold fx;rw[hV rfl]
theorem GI {l:U}(h:d≠[]):pR [.dct [au d] [l]]=.ok (.lst [au d]):=by
 have e:iO [au d]=some [d]:=by
  unfold iO iO;rw[tT h]
 unfold pR;show sW [.dct [au d] [l]]=_;unfold sW;dsimp only;rw[hV (show OV [au d]=true from rfl)];unfold kI;rw[e];rfl
noncomputable def fU:U:=.tup [.int 1,.int 1]
noncomputable def vH:U:=.tup [.int 1,.int 2]
noncomputable def R5:Ev->R (U×Ev):=(dO (bW (gG pR (af (aJ jV (ag 2) (ag 3)) ar))) [none,some 2,some 3] (bD 0) fJ (aQ (af (ag 0) (af (dQ 1 bz (af (aJ jV (aJ jV (ag 1) (ag 2)) (ag 0)) ar)) ar))))
noncomputable def Pf:Ev->SR:=(aK (a8 9 (dQ 1 bz (af (dO (bW (ag 8)) [none,none] (cq 2 (aI (bD 0) (aI (bD 1) cn))) fJ (ag 1)) ar)))
 (aK (a8 10 (dO (bW (ag 8)) [none,none,some 9] (cq 2 (aI (bD 0) (aI (bD 1) cn))) fJ (aQ (af (ag 0) (af (dQ 2 bP (af (aJ c9 (aJ bZ (ag 1) (gC (.int 0))) (aJ bZ (ag 2) (gC (.int 1)))) (af (aJ c9 (aJ bZ (ag 1) (gC (.int 1))) (aJ bZ (ag 2) (gC (.int 0)))) ar))) ar)))))
 (lU (gM "list" 7 jg (af (aQ (af (ag 3) (af (dQ 2 bP (af (aJ c9 (aJ bZ (ag 9) (gC (.int 0))) (aJ bZ (ag 6) (gC (.int 1)))) (af (aJ c9 (aJ bZ (ag 9) (gC (.int 1))) (aJ bZ (ag 6) (gC (.int 0)))) ar))) (af (ag 10) ar)))) ar)))))
theorem Pg:bX=aK (a8 8 R5) Pf:=rfl
theorem GJ {tr:U}(hd:d≠[]){y1 y7 y8 y9 G0:Option U}{b:Int}(ht:bz [.lst [.tup [.int 1,.int b]]]=.ok (.tup [.int 1,.int b]))(hD:jV (.dct ks us) tr=.ok (.dct [au d] [.lst [.tup [.int 1,.int b]]])) :
  bX [y0,y1,some (.dct ks us),some tr,y4,y5,y6,y7,y8,y9,G0]=Pf [y0,y1,some (.dct ks us),some tr,y4,y5,y6,y7,some (.lst [.tup [au d,.tup [.int 1,.int b]]]),y9,G0]:=by
 rw[Pg];have e:R5 [y0,y1,some (.dct ks us),some tr,y4,y5,y6,y7,y8,y9,G0]=.ok (.lst [.tup [au d,.tup [.int 1,.int b]]],[y0,y1,some (.dct ks us),some tr,y4,y5,y6,y7,y8,y9,G0]):=by
  unfold R5;simp only[Pzz,i9,Nat.reduceAdd,Nat.reduceSub,hD,GI hd];have q:Ng [none,some 2,some 3] (bD 0) fJ (aQ (af (ag 0) (af (dQ 1 bz (af (aJ jV (aJ jV (ag 1) (ag 2)) (ag 0)) ar)) ar))) [y0,y1,some (.dct ks us),some tr,y4,y5,y6,y7,y8,y9,G0] (au d)=.ok (some (.tup [au d,.tup [.int 1,.int b]])):=by
   simp only[Pzz,i9,Nat.reduceAdd,Nat.reduceSub,hD,IY,ht]
  unfold Nf;rw[q];rfl
 simp only[ng,Fy,e,rX,jW,Y7,Yn]
noncomputable def Ph (X:Ev->SR):Ev->SR:=(aK (a8 1 (dQ 1 bz (af (dO (bW (ag 0)) [none,none,none] (cq 3 (aI (bD 0) (aI (bD 1) (aI (bD 2) cn)))) (gB (aJ (m4 id) (ag 1) (gC .non))) (aQ (af (gC (.int 1)) (af (ag 2) ar)))) ar)))
 (aK (a8 2 QI)
 (aK (B5 2 (Gw 2 (bW (ag 0)) (cq 3 (aI (bD 3) (aI (bD 4) (aI (bD 5) cn))))
 (Mt 2 (gB (aJ (m4 not) (ag 4) (gC .non))) (Mx 2 (vy 2 (Aw 0) (vy 2 (Aw 1) (B6 2) (ag 3)) (ag 4)) (aQ (af (gC (.int 1)) (af (ag 5) ar)))) bF))) X)))
noncomputable def R6 (X:Ev->SR):Ev->SR:=(aK (a8 6 (dQ 2 bP (af (aJ ui (aJ bZ (ag 1) (gC (.int 1))) (aJ bZ (ag 1) (gC (.int 0)))) (af (aJ bZ (ag 1) (gC (.int 1))) ar))))
 (aK (ku (gB (aJ (iJ id) (aJ bZ (ag 6) (gC (.int 0))) (gC (.int 0)))) (bg (aQ (af (ag 1) (af (gC .non) ar)))) bF)
 (aK (a8 7 (bE ar)) X)))
noncomputable def Pj:Ev->SR:=lM 7 (bg (aQ (af (ag 1) (af (ag 7) ar))))
theorem Ks:jt=Ph (lM 2 (R6 (aK (g_ (bW (gG kM (af (ag 2) ar))) (bD 3) bX) Pj))):=rfl
noncomputable def lF:U:=.tup [.tup [.int 0]]
noncomputable def kW:U:=.tup [.tup [.int 1]]
noncomputable def gQ (tr:U)(d:List Int):U:=.tup [tr,vH,.lst [.tup [au d,fU]]]
noncomputable def eL (d:List Int):U:=.dct [au d] [.lst [vH]]
theorem MD {A B C D:U}{e c f:List Int}(hc:c≠[])(hf:f≠[])(h1:jV (.dct [A,B] [eL d,eL e]) C=.ok (eL c))(h2:jV (.dct [A,B] [eL d,eL e]) D=.ok (eL f)) :
  ∃ρ,gb (bD 3) bX [C,D] [y0,some (.tup [.int 0,.int 1]),some (.dct [A,B] [eL d,eL e]),y3,y4,y5,some fU,some (.lst []),none,none,none]=.nx ρ/\ρ[1]? = some (some (.tup [.int 0,.int 1]))/\ρ[7]? = some (some (.lst [gQ C c,gQ D f])):=by
 have t:bz [.lst [.tup [.int 1,.int 2]]]=.ok (.tup [.int 1,.int 2]):=by kernel_rfl
 have q1:∀y9 G0,Pf [y0,some (.tup [.int 0,.int 1]),some (.dct [A,B] [eL d,eL e]),some C,y4,y5,some fU,some (.lst []),some (.lst [.tup [au c,.tup [.int 1,.int 2]]]),y9,G0]=.nx [y0,some (.tup [.int 0,.int 1]),some (.dct [A,B] [eL d,eL e]),some C,y4,y5,some fU,some (.lst [gQ C c]),some (.lst [.tup [au c,.tup [.int 1,.int 2]]]),some vH,some (.lst [.tup [au c,fU]])]:=by intros;kernel_rfl
 have q2:∀y9 G0,Pf [y0,some (.tup [.int 0,.int 1]),some (.dct [A,B] [eL d,eL e]),some D,y4,y5,some fU,some (.lst [gQ C c]),some (.lst [.tup [au f,.tup [.int 1,.int 2]]]),y9,G0]=.nx [y0,some (.tup [.int 0,.int 1]),some (.dct [A,B] [eL d,eL e]),some D,y4,y5,some fU,some (.lst [gQ C c,gQ D f]),some (.lst [.tup [au f,.tup [.int 1,.int 2]]]),some vH,some (.lst [.tup [au f,fU]])]:=by intros;kernel_rfl
 refine⟨[y0,some (.tup [.int 0,.int 1]),some (.dct [A,B] [eL d,eL e]),some D,y4,y5,some fU,some (.lst [gQ C c,gQ D f]),some (.lst [.tup [au f,.tup [.int 1,.int 2]]]),some vH,some (.lst [.tup [au f,fU]])],?_,rfl,rfl⟩;unfold gb;show SR.of (R.ok _) _=_;simp only[rX,Y7,Yn];rw[GJ hc t h1,q1];dsimp only;unfold gb;show SR.of (R.ok _) _=_;simp only[rX,Y7,Yn];rw[GJ hf t h2,q2];rfl
theorem dN {A B C D:U}{e c f:List Int}(hc:c≠[])(hf:f≠[])(h1:jV (.dct [A,B] [eL d,eL e]) C=.ok (eL c))(h2:jV (.dct [A,B] [eL d,eL e]) D=.ok (eL f))(hA:∀X,Ph X [some P,none,none,none,none,none,none,none,none,none,none]=X [some P,some (.tup [.int 0,.int 1]),some (.dct [A,B] [eL d,eL e]),y3,y4,y5,none,none,none,none,none])(hs:kM [.dct [A,B] [eL d,eL e]]=.ok (.lst [C,D])):bQ [P]=.ok (.tup [.tup [.int 0,.int 1],.lst [gQ C c,gQ D f]]):=by
 obtain⟨ρ,e1,e2,e3⟩:=MD (y0:=some P) (y3:=y3) (y4:=y4) (y5:=y5) hc hf h1 h2;have hB:∀X,R6 X [some P,some (.tup [.int 0,.int 1]),some (.dct [A,B] [eL d,eL e]),y3,y4,y5,none,none,none,none,none]=X [some P,some (.tup [.int 0,.int 1]),some (.dct [A,B] [eL d,eL e]),y3,y4,y5,some fU,some (.lst []),none,none,none]:=by intros;kernel_rfl
 have hE:∃ρ',Pj ρ=.rt (.tup [.tup [.int 0,.int 1],.lst [gQ C c,gQ D f]]) ρ':=by
  refine⟨ρ.set 7 none,?_⟩;unfold Pj lM bg aQ af ar ag;rw[e2];dsimp only[R.bind];rw[e3];rfl
 obtain⟨ρ',hE⟩:=hE;have hF:g_ (bW (gG kM (af (ag 2) ar))) (bD 3) bX [some P,some (.tup [.int 0,.int 1]),some (.dct [A,B] [eL d,eL e]),y3,y4,y5,some fU,some (.lst []),none,none,none]=.nx ρ:=by
  simp only[Pzz,i9,Nat.reduceAdd,Nat.reduceSub,hs];exact e1
 unfold bQ;rw[Ks];unfold dC;show (match Ph _ [some P,none,none,none,none,none,none,none,none,none,none] with|.rt u _=>_|.nx _=>_|.exc c u=>_|_=>_)=_;rw[hA];unfold lM;rw[hB];unfold aK;rw[hF];dsimp only;rw[hE]
noncomputable def R7:Ev->SR:=(aK (a8 4 (aJ bZ (dQ 1 bQ (af (ag 2) ar)) (gC (.int 1))))
 (aK (ku (gB (aJ (m4 id) (ag 4) (gC .non))) (bg (aQ (af (gC (.str "end")) (af (bE ar) ar)))) bF)
 (bg (aQ (af (gC (.str "walked")) (af (ag 4) ar))))))
noncomputable def Uc:Ev->SR:=(aK (a8 3 (dO (bW (ag 2)) [none,none,none] (cq 3 (aI (bD 0) (aI (bD 1) (aI (bD 2) cn)))) (ox (gB (aJ (m4 not) (ag 1) (gC .non))) (gB (aJ (iJ id) (Jo EO (ag 1) o7 (mR (gC (.int 1)))) (aQ (af (gC (.str "no way")) ar))))) (aJ bZ (ag 1) (gC (.int 1)))))
 (aK (ku (gB (aJ (iJ not) (ag 3) (bE ar))) (bg (aQ (af (gC (.str "way")) (af (ag 3) ar)))) bF) R7))
theorem Pl:kQ=aK (a8 2 (dQ 5 (ai 6) (af (ag 0) (af (ag 1) (af (ag 1) (af (gC (.int 1)) (af (aQ ar) ar))))))) Uc:=rfl
theorem cO {Q w:U}{l:List U}(hp:ai 6 [P,row,row,.int 1,.tup []]=.ok Q)(hM:∀y0 y1,Uc [y0,y1,some Q,none,none]=R7 [y0,y1,some Q,some (.lst []),none])(hw:bQ [Q]=.ok (.tup [w,.lst l])):aG [P,row]=.ok (.tup [.str "walked",.lst l]):=by
 unfold aG;rw[Pl];simp only[Pzz,i9,Nat.reduceAdd,Nat.reduceSub,hp];rw[hM];unfold R7;simp only[Pzz,i9,Nat.reduceAdd,Nat.reduceSub,hw];rfl
noncomputable def pth (s:Bool)(d e:List Int):U:=.lst [.tup [if s then kW else lF,au d,.int 2],.tup [if s then lF else kW,au e,.int 2]]
noncomputable def jk (d e:List Int):U:=.tup [.str "walked",.lst [gQ lF d,gQ kW e]]
theorem R8 (hp:ai 6 [P,row,row,.int 1,.tup []]=.ok (pth false [d0,d1,d2,d3] [e0,e1,e2,e3])):aG [P,row]=.ok (jk [d0,d1,d2,d3] [e0,e1,e2,e3]):=
 cO hp (by intros;kernel_rfl) (dN (A:=lF) (B:=kW) (C:=lF) (D:=kW) (d:=[d0,d1,d2,d3]) (e:=[e0,e1,e2,e3]) (c:=[d0,d1,d2,d3]) (f:=[e0,e1,e2,e3]) (by simp) (by simp) (by kernel_rfl) (by kernel_rfl) (y3:=some kW) (y4:=some (au [e0,e1,e2,e3])) (y5:=some (.int 2)) (by intros;kernel_rfl) (by kernel_rfl))
theorem R9 (hp:ai 6 [P,row,row,.int 1,.tup []]=.ok (pth true [d0,d1,d2,d3] [e0,e1,e2,e3])):aG [P,row]=.ok (jk [e0,e1,e2,e3] [d0,d1,d2,d3]):=
 cO hp (by intros;kernel_rfl) (dN (A:=kW) (B:=lF) (C:=lF) (D:=kW) (d:=[d0,d1,d2,d3]) (e:=[e0,e1,e2,e3]) (c:=[e0,e1,e2,e3]) (f:=[d0,d1,d2,d3]) (by simp) (by simp) (by kernel_rfl) (by kernel_rfl) (y3:=some lF) (y4:=some (au [e0,e1,e2,e3])) (y5:=some (.int 2)) (by intros;kernel_rfl) (by kernel_rfl))
theorem R_ (hp:ai 6 [P,row,row,.int 1,.tup []]=.ok (pth false [d0,d1,d2,d3,d4] [e0,e1,e2,e3,e4])):aG [P,row]=.ok (jk [d0,d1,d2,d3,d4] [e0,e1,e2,e3,e4]):=
 cO hp (by intros;kernel_rfl) (dN (A:=lF) (B:=kW) (C:=lF) (D:=kW) (d:=[d0,d1,d2,d3,d4]) (e:=[e0,e1,e2,e3,e4]) (c:=[d0,d1,d2,d3,d4]) (f:=[e0,e1,e2,e3,e4]) (by simp) (by simp) (by kernel_rfl) (by kernel_rfl) (y3:=some kW) (y4:=some (au [e0,e1,e2,e3,e4])) (y5:=some (.int 2)) (by intros;kernel_rfl) (by kernel_rfl))
theorem Sa (hp:ai 6 [P,row,row,.int 1,.tup []]=.ok (pth true [d0,d1,d2,d3,d4] [e0,e1,e2,e3,e4])):aG [P,row]=.ok (jk [e0,e1,e2,e3,e4] [d0,d1,d2,d3,d4]):=
 cO hp (by intros;kernel_rfl) (dN (A:=kW) (B:=lF) (C:=lF) (D:=kW) (d:=[d0,d1,d2,d3,d4]) (e:=[e0,e1,e2,e3,e4]) (c:=[e0,e1,e2,e3,e4]) (f:=[d0,d1,d2,d3,d4]) (by simp) (by simp) (by kernel_rfl) (by kernel_rfl) (y3:=some lF) (y4:=some (au [e0,e1,e2,e3,e4])) (y5:=some (.int 2)) (by intros;kernel_rfl) (by kernel_rfl))
theorem Sb (hp:ai 6 [P,row,row,.int 1,.tup []]=.ok (pth false [d0,d1,d2,d3,d4,d5] [e0,e1,e2,e3,e4,e5])):aG [P,row]=.ok (jk [d0,d1,d2,d3,d4,d5] [e0,e1,e2,e3,e4,e5]):=
 cO hp (by intros;kernel_rfl) (dN (A:=lF) (B:=kW) (C:=lF) (D:=kW) (d:=[d0,d1,d2,d3,d4,d5]) (e:=[e0,e1,e2,e3,e4,e5]) (c:=[d0,d1,d2,d3,d4,d5]) (f:=[e0,e1,e2,e3,e4,e5]) (by simp) (by simp) (by kernel_rfl) (by kernel_rfl) (y3:=some kW) (y4:=some (au [e0,e1,e2,e3,e4,e5])) (y5:=some (.int 2)) (by intros;kernel_rfl) (by kernel_rfl))
theorem Sd (hp:ai 6 [P,row,row,.int 1,.tup []]=.ok (pth true [d0,d1,d2,d3,d4,d5] [e0,e1,e2,e3,e4,e5])):aG [P,row]=.ok (jk [e0,e1,e2,e3,e4,e5] [d0,d1,d2,d3,d4,d5]):=
 cO hp (by intros;kernel_rfl) (dN (A:=kW) (B:=lF) (C:=lF) (D:=kW) (d:=[d0,d1,d2,d3,d4,d5]) (e:=[e0,e1,e2,e3,e4,e5]) (c:=[e0,e1,e2,e3,e4,e5]) (f:=[d0,d1,d2,d3,d4,d5]) (by simp) (by simp) (by kernel_rfl) (by kernel_rfl) (y3:=some lF) (y4:=some (au [e0,e1,e2,e3,e4,e5])) (y5:=some (.int 2)) (by intros;kernel_rfl) (by kernel_rfl))
theorem Se (hp:ai 6 [P,row,row,.int 1,.tup []]=.ok (pth false [d0,d1,d2,d3,d4,d5,d6] [e0,e1,e2,e3,e4,e5,e6])):aG [P,row]=.ok (jk [d0,d1,d2,d3,d4,d5,d6] [e0,e1,e2,e3,e4,e5,e6]):=
 cO hp (by intros;kernel_rfl) (dN (A:=lF) (B:=kW) (C:=lF) (D:=kW) (d:=[d0,d1,d2,d3,d4,d5,d6]) (e:=[e0,e1,e2,e3,e4,e5,e6]) (c:=[d0,d1,d2,d3,d4,d5,d6]) (f:=[e0,e1,e2,e3,e4,e5,e6]) (by simp) (by simp) (by kernel_rfl) (by kernel_rfl) (y3:=some kW) (y4:=some (au [e0,e1,e2,e3,e4,e5,e6])) (y5:=some (.int 2)) (by intros;kernel_rfl) (by kernel_rfl))
theorem Sf (hp:ai 6 [P,row,row,.int 1,.tup []]=.ok (pth true [d0,d1,d2,d3,d4,d5,d6] [e0,e1,e2,e3,e4,e5,e6])):aG [P,row]=.ok (jk [e0,e1,e2,e3,e4,e5,e6] [d0,d1,d2,d3,d4,d5,d6]):=
 cO hp (by intros;kernel_rfl) (dN (A:=kW) (B:=lF) (C:=lF) (D:=kW) (d:=[d0,d1,d2,d3,d4,d5,d6]) (e:=[e0,e1,e2,e3,e4,e5,e6]) (c:=[e0,e1,e2,e3,e4,e5,e6]) (f:=[d0,d1,d2,d3,d4,d5,d6]) (by simp) (by simp) (by kernel_rfl) (by kernel_rfl) (y3:=some lF) (y4:=some (au [e0,e1,e2,e3,e4,e5,e6])) (y5:=some (.int 2)) (by intros;kernel_rfl) (by kernel_rfl))
theorem Sg {d7 e7:Int}(hp:ai 6 [P,row,row,.int 1,.tup []]=.ok (pth false [d0,d1,d2,d3,d4,d5,d6,d7] [e0,e1,e2,e3,e4,e5,e6,e7])):aG [P,row]=.ok (jk [d0,d1,d2,d3,d4,d5,d6,d7] [e0,e1,e2,e3,e4,e5,e6,e7]):=
 cO hp (by intros;kernel_rfl) (dN (A:=lF) (B:=kW) (C:=lF) (D:=kW) (d:=[d0,d1,d2,d3,d4,d5,d6,d7]) (e:=[e0,e1,e2,e3,e4,e5,e6,e7]) (c:=[d0,d1,d2,d3,d4,d5,d6,d7]) (f:=[e0,e1,e2,e3,e4,e5,e6,e7]) (by simp) (by simp) (by kernel_rfl) (by kernel_rfl) (y3:=some kW) (y4:=some (au [e0,e1,e2,e3,e4,e5,e6,e7])) (y5:=some (.int 2)) (by intros;kernel_rfl) (by kernel_rfl))
theorem Sh {d7 e7:Int}(hp:ai 6 [P,row,row,.int 1,.tup []]=.ok (pth true [d0,d1,d2,d3,d4,d5,d6,d7] [e0,e1,e2,e3,e4,e5,e6,e7])):aG [P,row]=.ok (jk [e0,e1,e2,e3,e4,e5,e6,e7] [d0,d1,d2,d3,d4,d5,d6,d7]):=
 cO hp (by intros;kernel_rfl) (dN (A:=kW) (B:=lF) (C:=lF) (D:=kW) (d:=[d0,d1,d2,d3,d4,d5,d6,d7]) (e:=[e0,e1,e2,e3,e4,e5,e6,e7]) (c:=[e0,e1,e2,e3,e4,e5,e6,e7]) (f:=[d0,d1,d2,d3,d4,d5,d6,d7]) (by simp) (by simp) (by kernel_rfl) (by kernel_rfl) (y3:=some lF) (y4:=some (au [e0,e1,e2,e3,e4,e5,e6,e7])) (y5:=some (.int 2)) (by intros;kernel_rfl) (by kernel_rfl))
noncomputable def n8:U:=.tup []
noncomputable def qr (d:List Int):U:=.tup [n8,fU,.lst [.tup [au d,fU]]]
noncomputable def uD (d:List Int):U:=.dct [au d] [.lst [fU]]
theorem Pm:jV (.dct [n8] [u]) n8=.ok u:=by kernel_rfl
theorem ME (hd:d≠[]) :
  ∃ρ,gb (bD 3) bX [n8] [y0,some (.tup [.int 0,.int 1]),some (.dct [n8] [uD d]),y3,y4,y5,some fU,some (.lst []),none,none,none]=.nx ρ/\ρ[1]? = some (some (.tup [.int 0,.int 1]))/\ρ[7]? = some (some (.lst [qr d])):=by
 have t:bz [.lst [.tup [.int 1,.int 1]]]=.ok (.tup [.int 1,.int 1]):=by kernel_rfl
 have q1:∀y9 G0,Pf [y0,some (.tup [.int 0,.int 1]),some (.dct [n8] [uD d]),some n8,y4,y5,some fU,some (.lst []),some (.lst [.tup [au d,.tup [.int 1,.int 1]]]),y9,G0]=.nx [y0,some (.tup [.int 0,.int 1]),some (.dct [n8] [uD d]),some n8,y4,y5,some fU,some (.lst [qr d]),some (.lst [.tup [au d,.tup [.int 1,.int 1]]]),some fU,some (.lst [.tup [au d,fU]])]:=by intros;kernel_rfl
 refine⟨[y0,some (.tup [.int 0,.int 1]),some (.dct [n8] [uD d]),some n8,y4,y5,some fU,some (.lst [qr d]),some (.lst [.tup [au d,.tup [.int 1,.int 1]]]),some fU,some (.lst [.tup [au d,fU]])],?_,rfl,rfl⟩;unfold gb;show SR.of (R.ok _) _=_;simp only[rX,Y7,Yn];rw[GJ (ks:=[n8]) (us:=[uD d]) hd t Pm,q1];rfl
theorem fm (hd:d≠[])(hA:∀X,Ph X [some P,none,none,none,none,none,none,none,none,none,none]=X [some P,some (.tup [.int 0,.int 1]),some (.dct [n8] [uD d]),y3,y4,y5,none,none,none,none,none]):bQ [P]=.ok (.tup [.tup [.int 0,.int 1],.lst [qr d]]):=by
 obtain⟨ρ,e1,e2,e3⟩:=ME (y0:=some P) (y3:=y3) (y4:=y4) (y5:=y5) hd;have hs:kM [.dct [n8] [uD d]]=.ok (.lst [n8]):=by kernel_rfl
 have hB:∀X,R6 X [some P,some (.tup [.int 0,.int 1]),some (.dct [n8] [uD d]),y3,y4,y5,none,none,none,none,none]=X [some P,some (.tup [.int 0,.int 1]),some (.dct [n8] [uD d]),y3,y4,y5,some fU,some (.lst []),none,none,none]:=by intros;kernel_rfl
 have hE:∃ρ',Pj ρ=.rt (.tup [.tup [.int 0,.int 1],.lst [qr d]]) ρ':=by
  refine⟨ρ.set 7 none,?_⟩;unfold Pj lM bg aQ af ar ag;rw[e2];dsimp only[R.bind];rw[e3];rfl
 obtain⟨ρ',hE⟩:=hE;have hF:g_ (bW (gG kM (af (ag 2) ar))) (bD 3) bX [some P,some (.tup [.int 0,.int 1]),some (.dct [n8] [uD d]),y3,y4,y5,some fU,some (.lst []),none,none,none]=.nx ρ:=by
  simp only[Pzz,i9,Nat.reduceAdd,Nat.reduceSub,hs];exact e1
 unfold bQ;rw[Ks];unfold dC;show (match Ph _ [some P,none,none,none,none,none,none,none,none,none,none] with|.rt u _=>_|.nx _=>_|.exc c u=>_|_=>_)=_;rw[hA];unfold lM;rw[hB];unfold aK;rw[hF];dsimp only;rw[hE]
noncomputable def j_ (d:List Int):U:=.lst [.tup [n8,au d,.int 1]]
noncomputable def l9 (d:List Int):U:=.tup [.str "walked",.lst [qr d]]
theorem U1 (hp:ai 6 [P,row,row,.int 1,.tup []]=.ok (j_ [d0,d1])):aG [P,row]=.ok (l9 [d0,d1]):=
 cO hp (by intros;kernel_rfl) (fm (d:=[d0,d1]) (by simp) (y3:=some n8) (y4:=some (au [d0,d1])) (y5:=some (.int 1)) (by intros;kernel_rfl))
theorem U2 (hp:ai 6 [P,row,row,.int 1,.tup []]=.ok (j_ [d0,d1,d2])):aG [P,row]=.ok (l9 [d0,d1,d2]):=
 cO hp (by intros;kernel_rfl) (fm (d:=[d0,d1,d2]) (by simp) (y3:=some n8) (y4:=some (au [d0,d1,d2])) (y5:=some (.int 1)) (by intros;kernel_rfl))
theorem U3 (hp:ai 6 [P,row,row,.int 1,.tup []]=.ok (j_ [d0,d1,d2,d3])):aG [P,row]=.ok (l9 [d0,d1,d2,d3]):=
 cO hp (by intros;kernel_rfl) (fm (d:=[d0,d1,d2,d3]) (by simp) (y3:=some n8) (y4:=some (au [d0,d1,d2,d3])) (y5:=some (.int 1)) (by intros;kernel_rfl))
theorem U4 (hp:ai 6 [P,row,row,.int 1,.tup []]=.ok (j_ [d0,d1,d2,d3,d4])):aG [P,row]=.ok (l9 [d0,d1,d2,d3,d4]):=
 cO hp (by intros;kernel_rfl) (fm (d:=[d0,d1,d2,d3,d4]) (by simp) (y3:=some n8) (y4:=some (au [d0,d1,d2,d3,d4])) (y5:=some (.int 1)) (by intros;kernel_rfl))
theorem U5 (hp:ai 6 [P,row,row,.int 1,.tup []]=.ok (j_ [d0,d1,d2,d3,d4,d5])):aG [P,row]=.ok (l9 [d0,d1,d2,d3,d4,d5]):=
 cO hp (by intros;kernel_rfl) (fm (d:=[d0,d1,d2,d3,d4,d5]) (by simp) (y3:=some n8) (y4:=some (au [d0,d1,d2,d3,d4,d5])) (y5:=some (.int 1)) (by intros;kernel_rfl))
theorem U6 (hp:ai 6 [P,row,row,.int 1,.tup []]=.ok (j_ [d0,d1,d2,d3,d4,d5,d6])):aG [P,row]=.ok (l9 [d0,d1,d2,d3,d4,d5,d6]):=
 cO hp (by intros;kernel_rfl) (fm (d:=[d0,d1,d2,d3,d4,d5,d6]) (by simp) (y3:=some n8) (y4:=some (au [d0,d1,d2,d3,d4,d5,d6])) (y5:=some (.int 1)) (by intros;kernel_rfl))
theorem U7 {d7:Int}(hp:ai 6 [P,row,row,.int 1,.tup []]=.ok (j_ [d0,d1,d2,d3,d4,d5,d6,d7])):aG [P,row]=.ok (l9 [d0,d1,d2,d3,d4,d5,d6,d7]):=
 cO hp (by intros;kernel_rfl) (fm (d:=[d0,d1,d2,d3,d4,d5,d6,d7]) (by simp) (y3:=some n8) (y4:=some (au [d0,d1,d2,d3,d4,d5,d6,d7])) (y5:=some (.int 1)) (by intros;kernel_rfl))
noncomputable def aF (xs:List Int)(k:Nat)(b:Int):List Int:=(xs.set (2*k) b).set (2*k+1) (1-b)
theorem yY {xs:List Int}{b:Int}:(aF xs k b).length=xs.length:=by unfold aF;rw[XA,XA]
noncomputable def NL (m a:Nat):U:=R4 (cF [.int m,.int a])
noncomputable def lS:Ev->R (U×Ev):=(aJ dR (aJ dR (Jo EO (ag 5) o7 (mR (aJ c9 (gC (.int 2)) (ag 2)))) (aQ (af (aJ ui (gC (.int 1)) (ag 4)) (af (ag 4) ar)))) (Jo EO (ag 5) (mR (aJ dR (aJ c9 (gC (.int 2)) (ag 2)) (gC (.int 2)))) o7))
noncomputable def MF:U:=.lst [.tup [n8,fU]]
structure xj (m n:Nat):Prop where
 neg:∀a∈Wu n,cF [.int m,.int a]=.ok (NL m a)
 good:∀a∈Wu n,aX [NL m a,.int m]=.ok (.bl true)
 row:∀a∈Wu n,∀b∈([0,1]:List Nat),∀xs:List Int,xs.length=m->∀s,fy (nZ [some s,some (.int m),some (.lst [.int a]),some (.tup [.int (b:Nat)]),some (.lst (xs.map .int)),none,none])=.ok (au (aF xs a b),s)
 due:∀a∈Wu n,∀b∈([0,1]:List Nat),∀xs:List Int,xs.length=m->∀y0 y1 y3 y6,lS [y0,y1,some (.int a),y3,some (.int (b:Nat)),some (au (aF xs a b)),y6]=.ok (au (aF xs a (1-(b:Nat))),[y0,y1,some (.int a),y3,some (.int (b:Nat)),some (au (aF xs a b)),y6])
 p1:∀a∈Wu n,∀b∈([0,1]:List Nat),∀xs:List Int,xs.length=m->ai 6 [NL m a,au (aF xs a b),au (aF xs a b),.int 1,.tup []]=.ok (j_ (aF xs a (1-(b:Nat))))
 p2:∀a∈Wu n,∀b∈([0,1]:List Nat),∀xs:List Int,xs.length=m->ai 6 [NL m a,au (aF xs a (1-(b:Nat))),au (aF xs a (1-(b:Nat))),.int 1,.tup []]=.ok (j_ (aF xs a (1-(1-(b:Nat)))))
 gv:∀(d:List Int) (P row:U),d.length=m->ai 6 [P,row,row,.int 1,.tup []]=.ok (j_ d)->aG [P,row]=.ok (l9 d)
theorem IZ (hd:d≠[])(hg:aG [P,row]=.ok (l9 d)):bj [P,row]=.ok (.lst [au d]):=by
 have q:∀y0 y1,g_ (bW (ag 3)) (cq 3 (aI (bD 5) (aI (bD 6) (aI (bD 7) cn)))) dH [y0,y1,some (.str "walked"),some (.lst [qr d]),some (.lst []),none,none,none]=.nx [y0,y1,some (.str "walked"),some (.lst [qr d]),some (.lst [au d]),some n8,some fU,some (.lst [.tup [au d,fU]])]:=by intros;kernel_rfl
 have a:∀y0 y1 X,aK (ku (gB (aJ (iJ not) (ag 2) (gC (.str "walked")))) (bg (gC .non)) bF) (aK (a8 4 (bE ar)) X) [y0,y1,some (.str "walked"),some (.lst [qr d]),none,none,none,none]=X [y0,y1,some (.str "walked"),some (.lst [qr d]),some (.lst []),none,none,none]:=by intros;kernel_rfl
 have b:xM (cq 2 (aI (bD 2) (aI (bD 3) cn))) (dQ 2 aG (af (ag 0) (af (ag 1) ar))) [some P,some row,none,none,none,none,none,none]=.nx [some P,some row,some (.str "walked"),some (.lst [qr d]),none,none,none,none]:=by
  simp only[Pzz,i9,Nat.reduceAdd,Nat.reduceSub,hg];rfl
 unfold bj fR;rw[oF];simp only[i9,ng,WQ,Yg,Ww,Yi,Nat.reduceAdd,Nat.reduceSub,XM,YW,Yr,XX];rw[b,jW];have a':=a (some P) (some row) (aK (g_ (bW (ag 3)) (cq 3 (aI (bD 5) (aI (bD 6) (aI (bD 7) cn)))) dH) (bg (gG dZ (af (ag 4) ar))));rw[a',ng,q,jW];simp only[Pzz,i9,Nat.reduceAdd,Nat.reduceSub,GD hd]
theorem Cc (hg:aG [P,row]=.ok (l9 d)):aM [P,row]=.ok MF:=by
 have b:xM (cq 2 (aI (bD 2) (aI (bD 3) cn))) (dQ 2 aG (af (ag 0) (af (ag 1) ar))) [some P,some row,none,none]=.nx [some P,some row,some (.str "walked"),some (.lst [qr d])]:=by
  simp only[Pzz,i9,Nat.reduceAdd,Nat.reduceSub,hg];rfl
 unfold aM c7;rw[oF];simp only[i9,ng,WQ,Yg,Ww,Yi,Nat.reduceAdd,Nat.reduceSub,XM,YW,Yr,XX];rw[b,jW]
 kernel_rfl
noncomputable abbrev eo:=Nat×Nat
noncomputable def eF (n:Nat):List eo:=((Wu n).flatMap λa=>(Wu n).map λb=>(a,b)).filter λt=>t.1 != t.2
theorem I0 {a b:Nat}(ha:a<n)(hb:b<n)(h1:a≠b):(a,b)∈eF n:=by
 unfold eF;rw[List.mem_filter];refine⟨List.mem_flatMap.mpr ⟨a,Xb.mpr ha,Xp.mpr ⟨b,Xb.mpr hb,rfl⟩⟩,?_⟩;simp[h1]
noncomputable def jN (t:eo):U:=.lst [.int t.1,.int t.2]
noncomputable def bU (q:eo):U:=.tup [.int q.1,.int q.2]
noncomputable def gc:List eo:=[(0,0),(1,0),(0,1),(1,1)]
noncomputable def OL (m:Nat)(t:eo):U:=R4 (iS [.int m,.int t.1,.int t.2])
noncomputable def bG (t q:eo)(xs:List Int):U:=au (aF (aF xs t.1 q.1) t.2 q.2)
noncomputable def Dz (m:Nat)(t:eo)(xs:List Int):List Int:=((Wu m).filter λp=>p / 2 != t.1&&p / 2 != t.2).map λp=>xs.getD p 0
noncomputable def cX (m:Nat)(t q:eo)(xs:List Int):List Int:=((q.1:Int)+q.2) % 2::(1-((q.1:Int)+q.2) % 2)::0::1::Dz m t xs
noncomputable def qt:Ev->R (U×Ev):=(aJ dR (aJ dR (dQ 1 jj (af (aJ rN (aJ dR (aJ bZ (ag 5) (gC (.int 0))) (aJ bZ (ag 5) (gC (.int 1)))) (gC (.int 2))) ar)) (aQ (af (gC (.int 0)) (af (gC (.int 1)) ar)))) (dQ 2 gJ (af (ag 6) (af (ag 2) ar))))
noncomputable def kX:U:=.lst [.tup [.tup [.tup [.int 0]],.tup [.int 1,.int 2]],.tup [.tup [.tup [.int 1]],.tup [.int 1,.int 2]]]
structure AL (m n:Nat):Prop where
 cop:∀t∈eF n,iS [.int m,.int t.1,.int t.2]=.ok (OL m t)
 good:∀t∈eF n,aX [OL m t,.int m]=.ok (.bl true)
 row:∀t∈eF n,∀b∈gc,∀xs:List Int,xs.length=m->∀s,fy (nZ [some s,some (.int m),some (jN t),some (bU b),some (.lst (xs.map .int)),none,none])=.ok (bG t b xs,s)
 due:∀t∈eF n,∀b∈gc,∀xs:List Int,xs.length=m->∀y0 y1 y3 y4 y7,qt [y0,y1,some (jN t),y3,y4,some (bU b),some (bG t b xs),y7]=.ok (au (cX m t b xs),[y0,y1,some (jN t),y3,y4,some (bU b),some (bG t b xs),y7])
 path:∀t∈eF n,∀b∈gc,∀xs:List Int,xs.length=m->ai 6 [OL m t,bG t b xs,bG t b xs,.int 1,.tup []]=.ok (pth (b.1==1) (cX m t b xs) (cX m t b xs))
 len:∀t∈eF n,∀b xs,(cX m t b xs).length=m
 gn:∀(d e:List Int) (s:Bool) (P row:U),d.length=m->e.length=m->ai 6 [P,row,row,.int 1,.tup []]=.ok (pth s d e)->aG [P,row]=.ok (if s=true then jk e d else jk d e)
open Hc.Ts
theorem MG {e:List Int}(hd:d≠[])(he:d=e)(hg:aG [P,row]=.ok (jk d e)):bj [P,row]=.ok (.lst [au d]):=by
 subst he;have q:∀y0 y1,g_ (bW (ag 3)) (cq 3 (aI (bD 5) (aI (bD 6) (aI (bD 7) cn)))) dH [y0,y1,some (.str "walked"),some (.lst [gQ lF d,gQ kW d]),some (.lst []),none,none,none]=.nx [y0,y1,some (.str "walked"),some (.lst [gQ lF d,gQ kW d]),some (.lst [au d,au d]),some kW,some vH,some (.lst [.tup [au d,fU]])]:=by intros;kernel_rfl
 have a:∀y0 y1 X,aK (ku (gB (aJ (iJ not) (ag 2) (gC (.str "walked")))) (bg (gC .non)) bF) (aK (a8 4 (bE ar)) X) [y0,y1,some (.str "walked"),some (.lst [gQ lF d,gQ kW d]),none,none,none,none]=X [y0,y1,some (.str "walked"),some (.lst [gQ lF d,gQ kW d]),some (.lst []),none,none,none]:=by intros;kernel_rfl
 have b:xM (cq 2 (aI (bD 2) (aI (bD 3) cn))) (dQ 2 aG (af (ag 0) (af (ag 1) ar))) [some P,some row,none,none,none,none,none,none]=.nx [some P,some row,some (.str "walked"),some (.lst [gQ lF d,gQ kW d]),none,none,none,none]:=by
  simp only[Pzz,i9,Nat.reduceAdd,Nat.reduceSub,hg];rfl
 unfold bj fR;rw[oF];simp only[i9,ng,WQ,Yg,Ww,Yi,Nat.reduceAdd,Nat.reduceSub,XM,YW,Yr,XX];rw[b,jW];have a':=a (some P) (some row) (aK (g_ (bW (ag 3)) (cq 3 (aI (bD 5) (aI (bD 6) (aI (bD 7) cn)))) dH) (bg (gG dZ (af (ag 4) ar))));rw[a',ng,q,jW];simp only[Pzz,i9,Nat.reduceAdd,Nat.reduceSub,Dy hd]
theorem MJ {e:List Int}(hg:aG [P,row]=.ok (jk d e)):aM [P,row]=.ok kX:=by
 have b:xM (cq 2 (aI (bD 2) (aI (bD 3) cn))) (dQ 2 aG (af (ag 0) (af (ag 1) ar))) [some P,some row,none,none]=.nx [some P,some row,some (.str "walked"),some (.lst [gQ lF d,gQ kW e])]:=by
  simp only[Pzz,i9,Nat.reduceAdd,Nat.reduceSub,hg];rfl
 unfold aM c7;rw[oF];simp only[i9,ng,WQ,Yg,Ww,Yi,Nat.reduceAdd,Nat.reduceSub,XM,YW,Yr,XX];rw[b,jW]
 kernel_rfl
theorem Pn:∀t∈Wu 1,∀b∈([0,1]:List Nat),∀xs:List Int,xs.length=2->∀s,fy (nZ [some s,some (.int (2:Nat)),some (.lst [.int t]),some (.tup [.int (b:Nat)]),some (.lst (xs.map .int)),none,none])=.ok (au (aF xs t b),s):=by
 have A:∀(x0 x1:Int) (s:U),(Wu 1).map (λ(t:Nat)=>([0,1]:List Nat).map λ(b:Nat)=>fy (nZ [some s,some (.int (2:Nat)),some (.lst [.int t]),some (.tup [.int (b:Nat)]),some (.lst ([x0,x1].map .int)),none,none]))=(Wu 1).map (λ(t:Nat)=>([0,1]:List Nat).map λ(b:Nat)=>.ok (au (aF [x0,x1] t b),s)):=by intros;kernel_rfl
 intro t ht b hb xs hl s
 match xs,hl with
 | [x0,x1],_=>exact az (az (A x0 x1 s) t ht) b hb
theorem Po:∀t∈Wu 1,∀b∈([0,1]:List Nat),∀xs:List Int,xs.length=2->∀y0 y1 y3 y6,lS [y0,y1,some (.int t),y3,some (.int (b:Nat)),some (au (aF xs t b)),y6]=.ok (au (aF xs t (1-(b:Nat))),[y0,y1,some (.int t),y3,some (.int (b:Nat)),some (au (aF xs t b)),y6]):=by
 have A:∀(x0 x1:Int) (y0 y1 y3 y6:Option U),(Wu 1).map (λ(t:Nat)=>([0,1]:List Nat).map λ(b:Nat)=>lS [y0,y1,some (.int t),y3,some (.int (b:Nat)),some (au (aF [x0,x1] t b)),y6])=(Wu 1).map (λ(t:Nat)=>([0,1]:List Nat).map λ(b:Nat)=>.ok (au (aF [x0,x1] t (1-(b:Nat))),[y0,y1,some (.int t),y3,some (.int (b:Nat)),some (au (aF [x0,x1] t b)),y6])):=by intros;kernel_rfl
 intro t ht b hb xs hl y0 y1 y3 y6
 match xs,hl with
 | [x0,x1],_=>exact az (az (A x0 x1 y0 y1 y3 y6) t ht) b hb
theorem Si:∀t∈Wu 1,∀b∈([0,1]:List Nat),∀xs:List Int,xs.length=2->ai 6 [NL 2 t,au (aF xs t b),au (aF xs t b),.int 1,.tup []]=.ok (j_ (aF xs t (1-(b:Nat)))):=by
 have A:∀(x0 x1:Int),(Wu 1).map (λ(t:Nat)=>([0,1]:List Nat).map λ(b:Nat)=>ai 6 [NL 2 t,au (aF [x0,x1] t b),au (aF [x0,x1] t b),.int 1,.tup []])=(Wu 1).map (λ(t:Nat)=>([0,1]:List Nat).map λ(b:Nat)=>.ok (j_ (aF [x0,x1] t (1-(b:Nat))))):=by intros;kernel_rfl
 intro t ht b hb xs hl
 match xs,hl with
 | [x0,x1],_=>exact az (az (A x0 x1) t ht) b hb
theorem Sj:∀t∈Wu 1,∀b∈([0,1]:List Nat),∀xs:List Int,xs.length=2->ai 6 [NL 2 t,au (aF xs t (1-(b:Nat))),au (aF xs t (1-(b:Nat))),.int 1,.tup []]=.ok (j_ (aF xs t (1-(1-(b:Nat))))):=by
 have A:∀(x0 x1:Int),(Wu 1).map (λ(t:Nat)=>([0,1]:List Nat).map λ(b:Nat)=>ai 6 [NL 2 t,au (aF [x0,x1] t (1-(b:Nat))),au (aF [x0,x1] t (1-(b:Nat))),.int 1,.tup []])=(Wu 1).map (λ(t:Nat)=>([0,1]:List Nat).map λ(b:Nat)=>.ok (j_ (aF [x0,x1] t (1-(1-(b:Nat)))))):=by intros;kernel_rfl
 intro t ht b hb xs hl
 match xs,hl with
 | [x0,x1],_=>exact az (az (A x0 x1) t ht) b hb
theorem Pp:xj 2 1:=by
 have a1:(Wu 1).all (λa=>jJ (cF [.int (2:Nat),.int a]))=true:=by kernel_rfl
 have a2:(Wu 1).all (λa=>oT (aX [NL 2 a,.int (2:Nat)]) (.bl true))=true:=by kernel_rfl
 refine⟨λt ht=>j9 (WR.mp a1 t ht),λt ht=>fg (WR.mp a2 t ht),Pn,Po,Si,Sj,λd P row hd hp=>?_⟩
 match d,hd with
 | [d0,d1],_=>exact U1 hp
theorem Pq:∀t∈Wu 1,∀b∈([0,1]:List Nat),∀xs:List Int,xs.length=3->∀s,fy (nZ [some s,some (.int (3:Nat)),some (.lst [.int t]),some (.tup [.int (b:Nat)]),some (.lst (xs.map .int)),none,none])=.ok (au (aF xs t b),s):=by
 have A:∀(x0 x1 x2:Int) (s:U),(Wu 1).map (λ(t:Nat)=>([0,1]:List Nat).map λ(b:Nat)=>fy (nZ [some s,some (.int (3:Nat)),some (.lst [.int t]),some (.tup [.int (b:Nat)]),some (.lst ([x0,x1,x2].map .int)),none,none]))=(Wu 1).map (λ(t:Nat)=>([0,1]:List Nat).map λ(b:Nat)=>.ok (au (aF [x0,x1,x2] t b),s)):=by intros;kernel_rfl
 intro t ht b hb xs hl s
 match xs,hl with
 | [x0,x1,x2],_=>exact az (az (A x0 x1 x2 s) t ht) b hb
theorem Pr:∀t∈Wu 1,∀b∈([0,1]:List Nat),∀xs:List Int,xs.length=3->∀y0 y1 y3 y6,lS [y0,y1,some (.int t),y3,some (.int (b:Nat)),some (au (aF xs t b)),y6]=.ok (au (aF xs t (1-(b:Nat))),[y0,y1,some (.int t),y3,some (.int (b:Nat)),some (au (aF xs t b)),y6]):=by
 have A:∀(x0 x1 x2:Int) (y0 y1 y3 y6:Option U),(Wu 1).map (λ(t:Nat)=>([0,1]:List Nat).map λ(b:Nat)=>lS [y0,y1,some (.int t),y3,some (.int (b:Nat)),some (au (aF [x0,x1,x2] t b)),y6])=(Wu 1).map (λ(t:Nat)=>([0,1]:List Nat).map λ(b:Nat)=>.ok (au (aF [x0,x1,x2] t (1-(b:Nat))),[y0,y1,some (.int t),y3,some (.int (b:Nat)),some (au (aF [x0,x1,x2] t b)),y6])):=by intros;kernel_rfl
 intro t ht b hb xs hl y0 y1 y3 y6
 match xs,hl with
 | [x0,x1,x2],_=>exact az (az (A x0 x1 x2 y0 y1 y3 y6) t ht) b hb
theorem Sk:∀t∈Wu 1,∀b∈([0,1]:List Nat),∀xs:List Int,xs.length=3->ai 6 [NL 3 t,au (aF xs t b),au (aF xs t b),.int 1,.tup []]=.ok (j_ (aF xs t (1-(b:Nat)))):=by
 have A:∀(x0 x1 x2:Int),(Wu 1).map (λ(t:Nat)=>([0,1]:List Nat).map λ(b:Nat)=>ai 6 [NL 3 t,au (aF [x0,x1,x2] t b),au (aF [x0,x1,x2] t b),.int 1,.tup []])=(Wu 1).map (λ(t:Nat)=>([0,1]:List Nat).map λ(b:Nat)=>.ok (j_ (aF [x0,x1,x2] t (1-(b:Nat))))):=by intros;kernel_rfl
 intro t ht b hb xs hl
 match xs,hl with
 | [x0,x1,x2],_=>exact az (az (A x0 x1 x2) t ht) b hb
theorem Sl:∀t∈Wu 1,∀b∈([0,1]:List Nat),∀xs:List Int,xs.length=3->ai 6 [NL 3 t,au (aF xs t (1-(b:Nat))),au (aF xs t (1-(b:Nat))),.int 1,.tup []]=.ok (j_ (aF xs t (1-(1-(b:Nat))))):=by
 have A:∀(x0 x1 x2:Int),(Wu 1).map (λ(t:Nat)=>([0,1]:List Nat).map λ(b:Nat)=>ai 6 [NL 3 t,au (aF [x0,x1,x2] t (1-(b:Nat))),au (aF [x0,x1,x2] t (1-(b:Nat))),.int 1,.tup []])=(Wu 1).map (λ(t:Nat)=>([0,1]:List Nat).map λ(b:Nat)=>.ok (j_ (aF [x0,x1,x2] t (1-(1-(b:Nat)))))):=by intros;kernel_rfl
 intro t ht b hb xs hl
 match xs,hl with
 | [x0,x1,x2],_=>exact az (az (A x0 x1 x2) t ht) b hb
theorem Pt:xj 3 1:=by
 have a1:(Wu 1).all (λa=>jJ (cF [.int (3:Nat),.int a]))=true:=by kernel_rfl
 have a2:(Wu 1).all (λa=>oT (aX [NL 3 a,.int (3:Nat)]) (.bl true))=true:=by kernel_rfl
 refine⟨λt ht=>j9 (WR.mp a1 t ht),λt ht=>fg (WR.mp a2 t ht),Pq,Pr,Sk,Sl,λd P row hd hp=>?_⟩
 match d,hd with
 | [d0,d1,d2],_=>exact U2 hp
theorem Pu:∀t∈Wu 2,∀b∈([0,1]:List Nat),∀xs:List Int,xs.length=4->∀s,fy (nZ [some s,some (.int (4:Nat)),some (.lst [.int t]),some (.tup [.int (b:Nat)]),some (.lst (xs.map .int)),none,none])=.ok (au (aF xs t b),s):=by
 have A:∀(x0 x1 x2 x3:Int) (s:U),(Wu 2).map (λ(t:Nat)=>([0,1]:List Nat).map λ(b:Nat)=>fy (nZ [some s,some (.int (4:Nat)),some (.lst [.int t]),some (.tup [.int (b:Nat)]),some (.lst ([x0,x1,x2,x3].map .int)),none,none]))=(Wu 2).map (λ(t:Nat)=>([0,1]:List Nat).map λ(b:Nat)=>.ok (au (aF [x0,x1,x2,x3] t b),s)):=by intros;kernel_rfl
 intro t ht b hb xs hl s
 match xs,hl with
 | [x0,x1,x2,x3],_=>exact az (az (A x0 x1 x2 x3 s) t ht) b hb
theorem Pw:∀t∈Wu 2,∀b∈([0,1]:List Nat),∀xs:List Int,xs.length=4->∀y0 y1 y3 y6,lS [y0,y1,some (.int t),y3,some (.int (b:Nat)),some (au (aF xs t b)),y6]=.ok (au (aF xs t (1-(b:Nat))),[y0,y1,some (.int t),y3,some (.int (b:Nat)),some (au (aF xs t b)),y6]):=by
 have A:∀(x0 x1 x2 x3:Int) (y0 y1 y3 y6:Option U),(Wu 2).map (λ(t:Nat)=>([0,1]:List Nat).map λ(b:Nat)=>lS [y0,y1,some (.int t),y3,some (.int (b:Nat)),some (au (aF [x0,x1,x2,x3] t b)),y6])=(Wu 2).map (λ(t:Nat)=>([0,1]:List Nat).map λ(b:Nat)=>.ok (au (aF [x0,x1,x2,x3] t (1-(b:Nat))),[y0,y1,some (.int t),y3,some (.int (b:Nat)),some (au (aF [x0,x1,x2,x3] t b)),y6])):=by intros;kernel_rfl
 intro t ht b hb xs hl y0 y1 y3 y6
 match xs,hl with
 | [x0,x1,x2,x3],_=>exact az (az (A x0 x1 x2 x3 y0 y1 y3 y6) t ht) b hb
theorem Sm:∀t∈Wu 2,∀b∈([0,1]:List Nat),∀xs:List Int,xs.length=4->ai 6 [NL 4 t,au (aF xs t b),au (aF xs t b),.int 1,.tup []]=.ok (j_ (aF xs t (1-(b:Nat)))):=by
 have A:∀(x0 x1 x2 x3:Int),(Wu 2).map (λ(t:Nat)=>([0,1]:List Nat).map λ(b:Nat)=>ai 6 [NL 4 t,au (aF [x0,x1,x2,x3] t b),au (aF [x0,x1,x2,x3] t b),.int 1,.tup []])=(Wu 2).map (λ(t:Nat)=>([0,1]:List Nat).map λ(b:Nat)=>.ok (j_ (aF [x0,x1,x2,x3] t (1-(b:Nat))))):=by intros;kernel_rfl
 intro t ht b hb xs hl
 match xs,hl with
 | [x0,x1,x2,x3],_=>exact az (az (A x0 x1 x2 x3) t ht) b hb
theorem Sn:∀t∈Wu 2,∀b∈([0,1]:List Nat),∀xs:List Int,xs.length=4->ai 6 [NL 4 t,au (aF xs t (1-(b:Nat))),au (aF xs t (1-(b:Nat))),.int 1,.tup []]=.ok (j_ (aF xs t (1-(1-(b:Nat))))):=by
 have A:∀(x0 x1 x2 x3:Int),(Wu 2).map (λ(t:Nat)=>([0,1]:List Nat).map λ(b:Nat)=>ai 6 [NL 4 t,au (aF [x0,x1,x2,x3] t (1-(b:Nat))),au (aF [x0,x1,x2,x3] t (1-(b:Nat))),.int 1,.tup []])=(Wu 2).map (λ(t:Nat)=>([0,1]:List Nat).map λ(b:Nat)=>.ok (j_ (aF [x0,x1,x2,x3] t (1-(1-(b:Nat)))))):=by intros;kernel_rfl
 intro t ht b hb xs hl
 match xs,hl with
 | [x0,x1,x2,x3],_=>exact az (az (A x0 x1 x2 x3) t ht) b hb
theorem Px:xj 4 2:=by
 have a1:(Wu 2).all (λa=>jJ (cF [.int (4:Nat),.int a]))=true:=by kernel_rfl
 have a2:(Wu 2).all (λa=>oT (aX [NL 4 a,.int (4:Nat)]) (.bl true))=true:=by kernel_rfl
 refine⟨λt ht=>j9 (WR.mp a1 t ht),λt ht=>fg (WR.mp a2 t ht),Pu,Pw,Sm,Sn,λd P row hd hp=>?_⟩
 match d,hd with
 | [d0,d1,d2,d3],_=>exact U3 hp
theorem Py:∀t∈Wu 2,∀b∈([0,1]:List Nat),∀xs:List Int,xs.length=5->∀s,fy (nZ [some s,some (.int (5:Nat)),some (.lst [.int t]),some (.tup [.int (b:Nat)]),some (.lst (xs.map .int)),none,none])=.ok (au (aF xs t b),s):=by
 have A:∀(x0 x1 x2 x3 x4:Int) (s:U),(Wu 2).map (λ(t:Nat)=>([0,1]:List Nat).map λ(b:Nat)=>fy (nZ [some s,some (.int (5:Nat)),some (.lst [.int t]),some (.tup [.int (b:Nat)]),some (.lst ([x0,x1,x2,x3,x4].map .int)),none,none]))=(Wu 2).map (λ(t:Nat)=>([0,1]:List Nat).map λ(b:Nat)=>.ok (au (aF [x0,x1,x2,x3,x4] t b),s)):=by intros;kernel_rfl
 intro t ht b hb xs hl s
 match xs,hl with
 | [x0,x1,x2,x3,x4],_=>exact az (az (A x0 x1 x2 x3 x4 s) t ht) b hb
theorem Pz:∀t∈Wu 2,∀b∈([0,1]:List Nat),∀xs:List Int,xs.length=5->∀y0 y1 y3 y6,lS [y0,y1,some (.int t),y3,some (.int (b:Nat)),some (au (aF xs t b)),y6]=.ok (au (aF xs t (1-(b:Nat))),[y0,y1,some (.int t),y3,some (.int (b:Nat)),some (au (aF xs t b)),y6]):=by
 have A:∀(x0 x1 x2 x3 x4:Int) (y0 y1 y3 y6:Option U),(Wu 2).map (λ(t:Nat)=>([0,1]:List Nat).map λ(b:Nat)=>lS [y0,y1,some (.int t),y3,some (.int (b:Nat)),some (au (aF [x0,x1,x2,x3,x4] t b)),y6])=(Wu 2).map (λ(t:Nat)=>([0,1]:List Nat).map λ(b:Nat)=>.ok (au (aF [x0,x1,x2,x3,x4] t (1-(b:Nat))),[y0,y1,some (.int t),y3,some (.int (b:Nat)),some (au (aF [x0,x1,x2,x3,x4] t b)),y6])):=by intros;kernel_rfl
 intro t ht b hb xs hl y0 y1 y3 y6
 match xs,hl with
 | [x0,x1,x2,x3,x4],_=>exact az (az (A x0 x1 x2 x3 x4 y0 y1 y3 y6) t ht) b hb
theorem So:∀t∈Wu 2,∀b∈([0,1]:List Nat),∀xs:List Int,xs.length=5->ai 6 [NL 5 t,au (aF xs t b),au (aF xs t b),.int 1,.tup []]=.ok (j_ (aF xs t (1-(b:Nat)))):=by
 have A:∀(x0 x1 x2 x3 x4:Int),(Wu 2).map (λ(t:Nat)=>([0,1]:List Nat).map λ(b:Nat)=>ai 6 [NL 5 t,au (aF [x0,x1,x2,x3,x4] t b),au (aF [x0,x1,x2,x3,x4] t b),.int 1,.tup []])=(Wu 2).map (λ(t:Nat)=>([0,1]:List Nat).map λ(b:Nat)=>.ok (j_ (aF [x0,x1,x2,x3,x4] t (1-(b:Nat))))):=by intros;kernel_rfl
 intro t ht b hb xs hl
 match xs,hl with
 | [x0,x1,x2,x3,x4],_=>exact az (az (A x0 x1 x2 x3 x4) t ht) b hb
theorem Sq:∀t∈Wu 2,∀b∈([0,1]:List Nat),∀xs:List Int,xs.length=5->ai 6 [NL 5 t,au (aF xs t (1-(b:Nat))),au (aF xs t (1-(b:Nat))),.int 1,.tup []]=.ok (j_ (aF xs t (1-(1-(b:Nat))))):=by
 have A:∀(x0 x1 x2 x3 x4:Int),(Wu 2).map (λ(t:Nat)=>([0,1]:List Nat).map λ(b:Nat)=>ai 6 [NL 5 t,au (aF [x0,x1,x2,x3,x4] t (1-(b:Nat))),au (aF [x0,x1,x2,x3,x4] t (1-(b:Nat))),.int 1,.tup []])=(Wu 2).map (λ(t:Nat)=>([0,1]:List Nat).map λ(b:Nat)=>.ok (j_ (aF [x0,x1,x2,x3,x4] t (1-(1-(b:Nat)))))):=by intros;kernel_rfl
 intro t ht b hb xs hl
 match xs,hl with
 | [x0,x1,x2,x3,x4],_=>exact az (az (A x0 x1 x2 x3 x4) t ht) b hb
theorem PB:xj 5 2:=by
 have a1:(Wu 2).all (λa=>jJ (cF [.int (5:Nat),.int a]))=true:=by kernel_rfl
 have a2:(Wu 2).all (λa=>oT (aX [NL 5 a,.int (5:Nat)]) (.bl true))=true:=by kernel_rfl
 refine⟨λt ht=>j9 (WR.mp a1 t ht),λt ht=>fg (WR.mp a2 t ht),Py,Pz,So,Sq,λd P row hd hp=>?_⟩
 match d,hd with
 | [d0,d1,d2,d3,d4],_=>exact U4 hp
theorem PD:∀t∈Wu 3,∀b∈([0,1]:List Nat),∀xs:List Int,xs.length=6->∀s,fy (nZ [some s,some (.int (6:Nat)),some (.lst [.int t]),some (.tup [.int (b:Nat)]),some (.lst (xs.map .int)),none,none])=.ok (au (aF xs t b),s):=by
 have A:∀(x0 x1 x2 x3 x4 x5:Int) (s:U),(Wu 3).map (λ(t:Nat)=>([0,1]:List Nat).map λ(b:Nat)=>fy (nZ [some s,some (.int (6:Nat)),some (.lst [.int t]),some (.tup [.int (b:Nat)]),some (.lst ([x0,x1,x2,x3,x4,x5].map .int)),none,none]))=(Wu 3).map (λ(t:Nat)=>([0,1]:List Nat).map λ(b:Nat)=>.ok (au (aF [x0,x1,x2,x3,x4,x5] t b),s)):=by intros;kernel_rfl
 intro t ht b hb xs hl s
 match xs,hl with
 | [x0,x1,x2,x3,x4,x5],_=>exact az (az (A x0 x1 x2 x3 x4 x5 s) t ht) b hb
theorem PF:∀t∈Wu 3,∀b∈([0,1]:List Nat),∀xs:List Int,xs.length=6->∀y0 y1 y3 y6,lS [y0,y1,some (.int t),y3,some (.int (b:Nat)),some (au (aF xs t b)),y6]=.ok (au (aF xs t (1-(b:Nat))),[y0,y1,some (.int t),y3,some (.int (b:Nat)),some (au (aF xs t b)),y6]):=by
 have A:∀(x0 x1 x2 x3 x4 x5:Int) (y0 y1 y3 y6:Option U),(Wu 3).map (λ(t:Nat)=>([0,1]:List Nat).map λ(b:Nat)=>lS [y0,y1,some (.int t),y3,some (.int (b:Nat)),some (au (aF [x0,x1,x2,x3,x4,x5] t b)),y6])=(Wu 3).map (λ(t:Nat)=>([0,1]:List Nat).map λ(b:Nat)=>.ok (au (aF [x0,x1,x2,x3,x4,x5] t (1-(b:Nat))),[y0,y1,some (.int t),y3,some (.int (b:Nat)),some (au (aF [x0,x1,x2,x3,x4,x5] t b)),y6])):=by intros;kernel_rfl
 intro t ht b hb xs hl y0 y1 y3 y6
 match xs,hl with
 | [x0,x1,x2,x3,x4,x5],_=>exact az (az (A x0 x1 x2 x3 x4 x5 y0 y1 y3 y6) t ht) b hb
theorem Sr:∀t∈Wu 3,∀b∈([0,1]:List Nat),∀xs:List Int,xs.length=6->ai 6 [NL 6 t,au (aF xs t b),au (aF xs t b),.int 1,.tup []]=.ok (j_ (aF xs t (1-(b:Nat)))):=by
 have A:∀(x0 x1 x2 x3 x4 x5:Int),(Wu 3).map (λ(t:Nat)=>([0,1]:List Nat).map λ(b:Nat)=>ai 6 [NL 6 t,au (aF [x0,x1,x2,x3,x4,x5] t b),au (aF [x0,x1,x2,x3,x4,x5] t b),.int 1,.tup []])=(Wu 3).map (λ(t:Nat)=>([0,1]:List Nat).map λ(b:Nat)=>.ok (j_ (aF [x0,x1,x2,x3,x4,x5] t (1-(b:Nat))))):=by intros;kernel_rfl
 intro t ht b hb xs hl
 match xs,hl with
 | [x0,x1,x2,x3,x4,x5],_=>exact az (az (A x0 x1 x2 x3 x4 x5) t ht) b hb
theorem Ss:∀t∈Wu 3,∀b∈([0,1]:List Nat),∀xs:List Int,xs.length=6->ai 6 [NL 6 t,au (aF xs t (1-(b:Nat))),au (aF xs t (1-(b:Nat))),.int 1,.tup []]=.ok (j_ (aF xs t (1-(1-(b:Nat))))):=by
 have A:∀(x0 x1 x2 x3 x4 x5:Int),(Wu 3).map (λ(t:Nat)=>([0,1]:List Nat).map λ(b:Nat)=>ai 6 [NL 6 t,au (aF [x0,x1,x2,x3,x4,x5] t (1-(b:Nat))),au (aF [x0,x1,x2,x3,x4,x5] t (1-(b:Nat))),.int 1,.tup []])=(Wu 3).map (λ(t:Nat)=>([0,1]:List Nat).map λ(b:Nat)=>.ok (j_ (aF [x0,x1,x2,x3,x4,x5] t (1-(1-(b:Nat)))))):=by intros;kernel_rfl
 intro t ht b hb xs hl
 match xs,hl with
 | [x0,x1,x2,x3,x4,x5],_=>exact az (az (A x0 x1 x2 x3 x4 x5) t ht) b hb
theorem PH:xj 6 3:=by
 have a1:(Wu 3).all (λa=>jJ (cF [.int (6:Nat),.int a]))=true:=by kernel_rfl
 have a2:(Wu 3).all (λa=>oT (aX [NL 6 a,.int (6:Nat)]) (.bl true))=true:=by kernel_rfl
 refine⟨λt ht=>j9 (WR.mp a1 t ht),λt ht=>fg (WR.mp a2 t ht),PD,PF,Sr,Ss,λd P row hd hp=>?_⟩
 match d,hd with
 | [d0,d1,d2,d3,d4,d5],_=>exact U5 hp
theorem PJ:∀t∈Wu 3,∀b∈([0,1]:List Nat),∀xs:List Int,xs.length=7->∀s,fy (nZ [some s,some (.int (7:Nat)),some (.lst [.int t]),some (.tup [.int (b:Nat)]),some (.lst (xs.map .int)),none,none])=.ok (au (aF xs t b),s):=by
 have A:∀(x0 x1 x2 x3 x4 x5 x6:Int) (s:U),(Wu 3).map (λ(t:Nat)=>([0,1]:List Nat).map λ(b:Nat)=>fy (nZ [some s,some (.int (7:Nat)),some (.lst [.int t]),some (.tup [.int (b:Nat)]),some (.lst ([x0,x1,x2,x3,x4,x5,x6].map .int)),none,none]))=(Wu 3).map (λ(t:Nat)=>([0,1]:List Nat).map λ(b:Nat)=>.ok (au (aF [x0,x1,x2,x3,x4,x5,x6] t b),s)):=by intros;kernel_rfl
 intro t ht b hb xs hl s
 match xs,hl with
 | [x0,x1,x2,x3,x4,x5,x6],_=>exact az (az (A x0 x1 x2 x3 x4 x5 x6 s) t ht) b hb
theorem PL:∀t∈Wu 3,∀b∈([0,1]:List Nat),∀xs:List Int,xs.length=7->∀y0 y1 y3 y6,lS [y0,y1,some (.int t),y3,some (.int (b:Nat)),some (au (aF xs t b)),y6]=.ok (au (aF xs t (1-(b:Nat))),[y0,y1,some (.int t),y3,some (.int (b:Nat)),some (au (aF xs t b)),y6]):=by
 have A:∀(x0 x1 x2 x3 x4 x5 x6:Int) (y0 y1 y3 y6:Option U),(Wu 3).map (λ(t:Nat)=>([0,1]:List Nat).map λ(b:Nat)=>lS [y0,y1,some (.int t),y3,some (.int (b:Nat)),some (au (aF [x0,x1,x2,x3,x4,x5,x6] t b)),y6])=(Wu 3).map (λ(t:Nat)=>([0,1]:List Nat).map λ(b:Nat)=>.ok (au (aF [x0,x1,x2,x3,x4,x5,x6] t (1-(b:Nat))),[y0,y1,some (.int t),y3,some (.int (b:Nat)),some (au (aF [x0,x1,x2,x3,x4,x5,x6] t b)),y6])):=by intros;kernel_rfl
 intro t ht b hb xs hl y0 y1 y3 y6
 match xs,hl with
 | [x0,x1,x2,x3,x4,x5,x6],_=>exact az (az (A x0 x1 x2 x3 x4 x5 x6 y0 y1 y3 y6) t ht) b hb
theorem Su:∀t∈Wu 3,∀b∈([0,1]:List Nat),∀xs:List Int,xs.length=7->ai 6 [NL 7 t,au (aF xs t b),au (aF xs t b),.int 1,.tup []]=.ok (j_ (aF xs t (1-(b:Nat)))):=by
 have A:∀(x0 x1 x2 x3 x4 x5 x6:Int),(Wu 3).map (λ(t:Nat)=>([0,1]:List Nat).map λ(b:Nat)=>ai 6 [NL 7 t,au (aF [x0,x1,x2,x3,x4,x5,x6] t b),au (aF [x0,x1,x2,x3,x4,x5,x6] t b),.int 1,.tup []])=(Wu 3).map (λ(t:Nat)=>([0,1]:List Nat).map λ(b:Nat)=>.ok (j_ (aF [x0,x1,x2,x3,x4,x5,x6] t (1-(b:Nat))))):=by intros;kernel_rfl
 intro t ht b hb xs hl
 match xs,hl with
 | [x0,x1,x2,x3,x4,x5,x6],_=>exact az (az (A x0 x1 x2 x3 x4 x5 x6) t ht) b hb
theorem Sv:∀t∈Wu 3,∀b∈([0,1]:List Nat),∀xs:List Int,xs.length=7->ai 6 [NL 7 t,au (aF xs t (1-(b:Nat))),au (aF xs t (1-(b:Nat))),.int 1,.tup []]=.ok (j_ (aF xs t (1-(1-(b:Nat))))):=by
 have A:∀(x0 x1 x2 x3 x4 x5 x6:Int),(Wu 3).map (λ(t:Nat)=>([0,1]:List Nat).map λ(b:Nat)=>ai 6 [NL 7 t,au (aF [x0,x1,x2,x3,x4,x5,x6] t (1-(b:Nat))),au (aF [x0,x1,x2,x3,x4,x5,x6] t (1-(b:Nat))),.int 1,.tup []])=(Wu 3).map (λ(t:Nat)=>([0,1]:List Nat).map λ(b:Nat)=>.ok (j_ (aF [x0,x1,x2,x3,x4,x5,x6] t (1-(1-(b:Nat)))))):=by intros;kernel_rfl
 intro t ht b hb xs hl
 match xs,hl with
 | [x0,x1,x2,x3,x4,x5,x6],_=>exact az (az (A x0 x1 x2 x3 x4 x5 x6) t ht) b hb
theorem PM:xj 7 3:=by
 have a1:(Wu 3).all (λa=>jJ (cF [.int (7:Nat),.int a]))=true:=by kernel_rfl
 have a2:(Wu 3).all (λa=>oT (aX [NL 7 a,.int (7:Nat)]) (.bl true))=true:=by kernel_rfl
 refine⟨λt ht=>j9 (WR.mp a1 t ht),λt ht=>fg (WR.mp a2 t ht),PJ,PL,Su,Sv,λd P row hd hp=>?_⟩
 match d,hd with
 | [d0,d1,d2,d3,d4,d5,d6],_=>exact U6 hp
theorem PN:∀t∈Wu 4,∀b∈([0,1]:List Nat),∀xs:List Int,xs.length=8->∀s,fy (nZ [some s,some (.int (8:Nat)),some (.lst [.int t]),some (.tup [.int (b:Nat)]),some (.lst (xs.map .int)),none,none])=.ok (au (aF xs t b),s):=by
 have A:∀(x0 x1 x2 x3 x4 x5 x6 x7:Int) (s:U),(Wu 4).map (λ(t:Nat)=>([0,1]:List Nat).map λ(b:Nat)=>fy (nZ [some s,some (.int (8:Nat)),some (.lst [.int t]),some (.tup [.int (b:Nat)]),some (.lst ([x0,x1,x2,x3,x4,x5,x6,x7].map .int)),none,none]))=(Wu 4).map (λ(t:Nat)=>([0,1]:List Nat).map λ(b:Nat)=>.ok (au (aF [x0,x1,x2,x3,x4,x5,x6,x7] t b),s)):=by intros;kernel_rfl
 intro t ht b hb xs hl s
 match xs,hl with
 | [x0,x1,x2,x3,x4,x5,x6,x7],_=>exact az (az (A x0 x1 x2 x3 x4 x5 x6 x7 s) t ht) b hb
theorem PQ:∀t∈Wu 4,∀b∈([0,1]:List Nat),∀xs:List Int,xs.length=8->∀y0 y1 y3 y6,lS [y0,y1,some (.int t),y3,some (.int (b:Nat)),some (au (aF xs t b)),y6]=.ok (au (aF xs t (1-(b:Nat))),[y0,y1,some (.int t),y3,some (.int (b:Nat)),some (au (aF xs t b)),y6]):=by
 have A:∀(x0 x1 x2 x3 x4 x5 x6 x7:Int) (y0 y1 y3 y6:Option U),(Wu 4).map (λ(t:Nat)=>([0,1]:List Nat).map λ(b:Nat)=>lS [y0,y1,some (.int t),y3,some (.int (b:Nat)),some (au (aF [x0,x1,x2,x3,x4,x5,x6,x7] t b)),y6])=(Wu 4).map (λ(t:Nat)=>([0,1]:List Nat).map λ(b:Nat)=>.ok (au (aF [x0,x1,x2,x3,x4,x5,x6,x7] t (1-(b:Nat))),[y0,y1,some (.int t),y3,some (.int (b:Nat)),some (au (aF [x0,x1,x2,x3,x4,x5,x6,x7] t b)),y6])):=by intros;kernel_rfl
 intro t ht b hb xs hl y0 y1 y3 y6
 match xs,hl with
 | [x0,x1,x2,x3,x4,x5,x6,x7],_=>exact az (az (A x0 x1 x2 x3 x4 x5 x6 x7 y0 y1 y3 y6) t ht) b hb
theorem Sw:∀t∈Wu 4,∀b∈([0,1]:List Nat),∀xs:List Int,xs.length=8->ai 6 [NL 8 t,au (aF xs t b),au (aF xs t b),.int 1,.tup []]=.ok (j_ (aF xs t (1-(b:Nat)))):=by
 have A:∀(x0 x1 x2 x3 x4 x5 x6 x7:Int),(Wu 4).map (λ(t:Nat)=>([0,1]:List Nat).map λ(b:Nat)=>ai 6 [NL 8 t,au (aF [x0,x1,x2,x3,x4,x5,x6,x7] t b),au (aF [x0,x1,x2,x3,x4,x5,x6,x7] t b),.int 1,.tup []])=(Wu 4).map (λ(t:Nat)=>([0,1]:List Nat).map λ(b:Nat)=>.ok (j_ (aF [x0,x1,x2,x3,x4,x5,x6,x7] t (1-(b:Nat))))):=by intros;kernel_rfl
 intro t ht b hb xs hl
 match xs,hl with
 | [x0,x1,x2,x3,x4,x5,x6,x7],_=>exact az (az (A x0 x1 x2 x3 x4 x5 x6 x7) t ht) b hb
theorem Sz:∀t∈Wu 4,∀b∈([0,1]:List Nat),∀xs:List Int,xs.length=8->ai 6 [NL 8 t,au (aF xs t (1-(b:Nat))),au (aF xs t (1-(b:Nat))),.int 1,.tup []]=.ok (j_ (aF xs t (1-(1-(b:Nat))))):=by
 have A:∀(x0 x1 x2 x3 x4 x5 x6 x7:Int),(Wu 4).map (λ(t:Nat)=>([0,1]:List Nat).map λ(b:Nat)=>ai 6 [NL 8 t,au (aF [x0,x1,x2,x3,x4,x5,x6,x7] t (1-(b:Nat))),au (aF [x0,x1,x2,x3,x4,x5,x6,x7] t (1-(b:Nat))),.int 1,.tup []])=(Wu 4).map (λ(t:Nat)=>([0,1]:List Nat).map λ(b:Nat)=>.ok (j_ (aF [x0,x1,x2,x3,x4,x5,x6,x7] t (1-(1-(b:Nat)))))):=by intros;kernel_rfl
 intro t ht b hb xs hl
 match xs,hl with
 | [x0,x1,x2,x3,x4,x5,x6,x7],_=>exact az (az (A x0 x1 x2 x3 x4 x5 x6 x7) t ht) b hb
theorem PR:xj 8 4:=by
 have a1:(Wu 4).all (λa=>jJ (cF [.int (8:Nat),.int a]))=true:=by kernel_rfl
 have a2:(Wu 4).all (λa=>oT (aX [NL 8 a,.int (8:Nat)]) (.bl true))=true:=by kernel_rfl
 refine⟨λt ht=>j9 (WR.mp a1 t ht),λt ht=>fg (WR.mp a2 t ht),PN,PQ,Sw,Sz,λd P row hd hp=>?_⟩
 match d,hd with
 | [d0,d1,d2,d3,d4,d5,d6,d7],_=>exact U7 hp
theorem SA:∀t∈eF 2,∀b∈(gc),∀xs:List Int,xs.length=4->∀s,fy (nZ [some s,some (.int (4:Nat)),some (jN t),some (bU b),some (.lst (xs.map .int)),none,none])=.ok (bG t b xs,s):=by
 have A:∀(x0 x1 x2 x3:Int) (s:U),(eF 2).map (λ(t:eo)=>(gc).map λ(b:eo)=>fy (nZ [some s,some (.int (4:Nat)),some (jN t),some (bU b),some (.lst ([x0,x1,x2,x3].map .int)),none,none]))=(eF 2).map (λ(t:eo)=>(gc).map λ(b:eo)=>.ok (bG t b [x0,x1,x2,x3],s)):=by intros;kernel_rfl
 intro t ht b hb xs hl s
 match xs,hl with
 | [x0,x1,x2,x3],_=>exact az (az (A x0 x1 x2 x3 s) t ht) b hb
theorem SD:∀t∈eF 2,∀b∈(gc),∀xs:List Int,xs.length=4->∀y0 y1 y3 y4 y7,qt [y0,y1,some (jN t),y3,y4,some (bU b),some (bG t b xs),y7]=.ok (au (cX 4 t b xs),[y0,y1,some (jN t),y3,y4,some (bU b),some (bG t b xs),y7]):=by
 have A:∀(x0 x1 x2 x3:Int) (y0 y1 y3 y4 y7:Option U),(eF 2).map (λ(t:eo)=>(gc).map λ(b:eo)=>qt [y0,y1,some (jN t),y3,y4,some (bU b),some (bG t b [x0,x1,x2,x3]),y7])=(eF 2).map (λ(t:eo)=>(gc).map λ(b:eo)=>.ok (au (cX 4 t b [x0,x1,x2,x3]),[y0,y1,some (jN t),y3,y4,some (bU b),some (bG t b [x0,x1,x2,x3]),y7])):=by intros;kernel_rfl
 intro t ht b hb xs hl y0 y1 y3 y4 y7
 match xs,hl with
 | [x0,x1,x2,x3],_=>exact az (az (A x0 x1 x2 x3 y0 y1 y3 y4 y7) t ht) b hb
theorem PU:∀t∈eF 2,∀b∈(gc),∀xs:List Int,xs.length=4->ai 6 [OL 4 t,bG t b xs,bG t b xs,.int 1,.tup []]=.ok (pth (b.1==1) (cX 4 t b xs) (cX 4 t b xs)):=by
 have A:∀(x0 x1 x2 x3:Int),(eF 2).map (λ(t:eo)=>(gc).map λ(b:eo)=>ai 6 [OL 4 t,bG t b [x0,x1,x2,x3],bG t b [x0,x1,x2,x3],.int 1,.tup []])=(eF 2).map (λ(t:eo)=>(gc).map λ(b:eo)=>.ok (pth (b.1==1) (cX 4 t b [x0,x1,x2,x3]) (cX 4 t b [x0,x1,x2,x3]))):=by intros;kernel_rfl
 intro t ht b hb xs hl
 match xs,hl with
 | [x0,x1,x2,x3],_=>exact az (az (A x0 x1 x2 x3) t ht) b hb
theorem PV:AL 4 2:=by
 have a1:(eF 2).all (λt=>jJ (iS [.int (4:Nat),.int t.1,.int t.2]))=true:=by kernel_rfl
 have a2:(eF 2).all (λt=>oT (aX [OL 4 t,.int (4:Nat)]) (.bl true))=true:=by kernel_rfl
 have a3:∀t∈eF 2,((Wu 4).filter λp=>p / 2 != t.1&&p / 2 != t.2).length=0:=by decide
 refine⟨λt ht=>j9 (WR.mp a1 t ht),λt ht=>fg (WR.mp a2 t ht),SA,SD,PU,λt ht b xs=>?_,λd e s P row hd he hp=>?_⟩
 ·unfold cX Dz;rw[Ww,Ww,Ww,Ww,WC,a3 t ht]
 ·match d,e,hd,he with
  | [d0,d1,d2,d3],[e0,e1,e2,e3],_,_=>
   cases s with
   |false=>exact R8 hp
   |true=>exact R9 hp
theorem SE:∀t∈eF 2,∀b∈(gc),∀xs:List Int,xs.length=5->∀s,fy (nZ [some s,some (.int (5:Nat)),some (jN t),some (bU b),some (.lst (xs.map .int)),none,none])=.ok (bG t b xs,s):=by
 have A:∀(x0 x1 x2 x3 x4:Int) (s:U),(eF 2).map (λ(t:eo)=>(gc).map λ(b:eo)=>fy (nZ [some s,some (.int (5:Nat)),some (jN t),some (bU b),some (.lst ([x0,x1,x2,x3,x4].map .int)),none,none]))=(eF 2).map (λ(t:eo)=>(gc).map λ(b:eo)=>.ok (bG t b [x0,x1,x2,x3,x4],s)):=by intros;kernel_rfl
 intro t ht b hb xs hl s
 match xs,hl with
 | [x0,x1,x2,x3,x4],_=>exact az (az (A x0 x1 x2 x3 x4 s) t ht) b hb
theorem SF:∀t∈eF 2,∀b∈(gc),∀xs:List Int,xs.length=5->∀y0 y1 y3 y4 y7,qt [y0,y1,some (jN t),y3,y4,some (bU b),some (bG t b xs),y7]=.ok (au (cX 5 t b xs),[y0,y1,some (jN t),y3,y4,some (bU b),some (bG t b xs),y7]):=by
 have A:∀(x0 x1 x2 x3 x4:Int) (y0 y1 y3 y4 y7:Option U),(eF 2).map (λ(t:eo)=>(gc).map λ(b:eo)=>qt [y0,y1,some (jN t),y3,y4,some (bU b),some (bG t b [x0,x1,x2,x3,x4]),y7])=(eF 2).map (λ(t:eo)=>(gc).map λ(b:eo)=>.ok (au (cX 5 t b [x0,x1,x2,x3,x4]),[y0,y1,some (jN t),y3,y4,some (bU b),some (bG t b [x0,x1,x2,x3,x4]),y7])):=by intros;kernel_rfl
 intro t ht b hb xs hl y0 y1 y3 y4 y7
 match xs,hl with
 | [x0,x1,x2,x3,x4],_=>exact az (az (A x0 x1 x2 x3 x4 y0 y1 y3 y4 y7) t ht) b hb
theorem PX:∀t∈eF 2,∀b∈(gc),∀xs:List Int,xs.length=5->ai 6 [OL 5 t,bG t b xs,bG t b xs,.int 1,.tup []]=.ok (pth (b.1==1) (cX 5 t b xs) (cX 5 t b xs)):=by
 have A:∀(x0 x1 x2 x3 x4:Int),(eF 2).map (λ(t:eo)=>(gc).map λ(b:eo)=>ai 6 [OL 5 t,bG t b [x0,x1,x2,x3,x4],bG t b [x0,x1,x2,x3,x4],.int 1,.tup []])=(eF 2).map (λ(t:eo)=>(gc).map λ(b:eo)=>.ok (pth (b.1==1) (cX 5 t b [x0,x1,x2,x3,x4]) (cX 5 t b [x0,x1,x2,x3,x4]))):=by intros;kernel_rfl
 intro t ht b hb xs hl
 match xs,hl with
 | [x0,x1,x2,x3,x4],_=>exact az (az (A x0 x1 x2 x3 x4) t ht) b hb
theorem PY:AL 5 2:=by
 have a1:(eF 2).all (λt=>jJ (iS [.int (5:Nat),.int t.1,.int t.2]))=true:=by kernel_rfl
 have a2:(eF 2).all (λt=>oT (aX [OL 5 t,.int (5:Nat)]) (.bl true))=true:=by kernel_rfl
 have a3:∀t∈eF 2,((Wu 5).filter λp=>p / 2 != t.1&&p / 2 != t.2).length=1:=by decide
 refine⟨λt ht=>j9 (WR.mp a1 t ht),λt ht=>fg (WR.mp a2 t ht),SE,SF,PX,λt ht b xs=>?_,λd e s P row hd he hp=>?_⟩
 ·unfold cX Dz;rw[Ww,Ww,Ww,Ww,WC,a3 t ht]
 ·match d,e,hd,he with
  | [d0,d1,d2,d3,d4],[e0,e1,e2,e3,e4],_,_=>
   cases s with
   |false=>exact R_ hp
   |true=>exact Sa hp
theorem SG:∀t∈eF 3,∀b∈(gc),∀xs:List Int,xs.length=6->∀s,fy (nZ [some s,some (.int (6:Nat)),some (jN t),some (bU b),some (.lst (xs.map .int)),none,none])=.ok (bG t b xs,s):=by
 have A:∀(x0 x1 x2 x3 x4 x5:Int) (s:U),(eF 3).map (λ(t:eo)=>(gc).map λ(b:eo)=>fy (nZ [some s,some (.int (6:Nat)),some (jN t),some (bU b),some (.lst ([x0,x1,x2,x3,x4,x5].map .int)),none,none]))=(eF 3).map (λ(t:eo)=>(gc).map λ(b:eo)=>.ok (bG t b [x0,x1,x2,x3,x4,x5],s)):=by intros;kernel_rfl
 intro t ht b hb xs hl s
 match xs,hl with
 | [x0,x1,x2,x3,x4,x5],_=>exact az (az (A x0 x1 x2 x3 x4 x5 s) t ht) b hb
theorem SH:∀t∈eF 3,∀b∈(gc),∀xs:List Int,xs.length=6->∀y0 y1 y3 y4 y7,qt [y0,y1,some (jN t),y3,y4,some (bU b),some (bG t b xs),y7]=.ok (au (cX 6 t b xs),[y0,y1,some (jN t),y3,y4,some (bU b),some (bG t b xs),y7]):=by
 have A:∀(x0 x1 x2 x3 x4 x5:Int) (y0 y1 y3 y4 y7:Option U),(eF 3).map (λ(t:eo)=>(gc).map λ(b:eo)=>qt [y0,y1,some (jN t),y3,y4,some (bU b),some (bG t b [x0,x1,x2,x3,x4,x5]),y7])=(eF 3).map (λ(t:eo)=>(gc).map λ(b:eo)=>.ok (au (cX 6 t b [x0,x1,x2,x3,x4,x5]),[y0,y1,some (jN t),y3,y4,some (bU b),some (bG t b [x0,x1,x2,x3,x4,x5]),y7])):=by intros;kernel_rfl
 intro t ht b hb xs hl y0 y1 y3 y4 y7
 match xs,hl with
 | [x0,x1,x2,x3,x4,x5],_=>exact az (az (A x0 x1 x2 x3 x4 x5 y0 y1 y3 y4 y7) t ht) b hb
theorem PZ:∀t∈eF 3,∀b∈(gc),∀xs:List Int,xs.length=6->ai 6 [OL 6 t,bG t b xs,bG t b xs,.int 1,.tup []]=.ok (pth (b.1==1) (cX 6 t b xs) (cX 6 t b xs)):=by
 have A:∀(x0 x1 x2 x3 x4 x5:Int),(eF 3).map (λ(t:eo)=>(gc).map λ(b:eo)=>ai 6 [OL 6 t,bG t b [x0,x1,x2,x3,x4,x5],bG t b [x0,x1,x2,x3,x4,x5],.int 1,.tup []])=(eF 3).map (λ(t:eo)=>(gc).map λ(b:eo)=>.ok (pth (b.1==1) (cX 6 t b [x0,x1,x2,x3,x4,x5]) (cX 6 t b [x0,x1,x2,x3,x4,x5]))):=by intros;kernel_rfl
 intro t ht b hb xs hl
 match xs,hl with
 | [x0,x1,x2,x3,x4,x5],_=>exact az (az (A x0 x1 x2 x3 x4 x5) t ht) b hb
theorem P0:AL 6 3:=by
 have a1:(eF 3).all (λt=>jJ (iS [.int (6:Nat),.int t.1,.int t.2]))=true:=by kernel_rfl
 have a2:(eF 3).all (λt=>oT (aX [OL 6 t,.int (6:Nat)]) (.bl true))=true:=by kernel_rfl
 have a3:∀t∈eF 3,((Wu 6).filter λp=>p / 2 != t.1&&p / 2 != t.2).length=2:=by decide
 refine⟨λt ht=>j9 (WR.mp a1 t ht),λt ht=>fg (WR.mp a2 t ht),SG,SH,PZ,λt ht b xs=>?_,λd e s P row hd he hp=>?_⟩
 ·unfold cX Dz;rw[Ww,Ww,Ww,Ww,WC,a3 t ht]
 ·match d,e,hd,he with
  | [d0,d1,d2,d3,d4,d5],[e0,e1,e2,e3,e4,e5],_,_=>
   cases s with
   |false=>exact Sb hp
   |true=>exact Sd hp
theorem SJ:∀t∈eF 3,∀b∈(gc),∀xs:List Int,xs.length=7->∀s,fy (nZ [some s,some (.int (7:Nat)),some (jN t),some (bU b),some (.lst (xs.map .int)),none,none])=.ok (bG t b xs,s):=by
 have A:∀(x0 x1 x2 x3 x4 x5 x6:Int) (s:U),(eF 3).map (λ(t:eo)=>(gc).map λ(b:eo)=>fy (nZ [some s,some (.int (7:Nat)),some (jN t),some (bU b),some (.lst ([x0,x1,x2,x3,x4,x5,x6].map .int)),none,none]))=(eF 3).map (λ(t:eo)=>(gc).map λ(b:eo)=>.ok (bG t b [x0,x1,x2,x3,x4,x5,x6],s)):=by intros;kernel_rfl
 intro t ht b hb xs hl s
 match xs,hl with
 | [x0,x1,x2,x3,x4,x5,x6],_=>exact az (az (A x0 x1 x2 x3 x4 x5 x6 s) t ht) b hb
theorem SK:∀t∈eF 3,∀b∈(gc),∀xs:List Int,xs.length=7->∀y0 y1 y3 y4 y7,qt [y0,y1,some (jN t),y3,y4,some (bU b),some (bG t b xs),y7]=.ok (au (cX 7 t b xs),[y0,y1,some (jN t),y3,y4,some (bU b),some (bG t b xs),y7]):=by
 have A:∀(x0 x1 x2 x3 x4 x5 x6:Int) (y0 y1 y3 y4 y7:Option U),(eF 3).map (λ(t:eo)=>(gc).map λ(b:eo)=>qt [y0,y1,some (jN t),y3,y4,some (bU b),some (bG t b [x0,x1,x2,x3,x4,x5,x6]),y7])=(eF 3).map (λ(t:eo)=>(gc).map λ(b:eo)=>.ok (au (cX 7 t b [x0,x1,x2,x3,x4,x5,x6]),[y0,y1,some (jN t),y3,y4,some (bU b),some (bG t b [x0,x1,x2,x3,x4,x5,x6]),y7])):=by intros;kernel_rfl
 intro t ht b hb xs hl y0 y1 y3 y4 y7
 match xs,hl with
 | [x0,x1,x2,x3,x4,x5,x6],_=>exact az (az (A x0 x1 x2 x3 x4 x5 x6 y0 y1 y3 y4 y7) t ht) b hb
theorem P2:∀t∈eF 3,∀b∈(gc),∀xs:List Int,xs.length=7->ai 6 [OL 7 t,bG t b xs,bG t b xs,.int 1,.tup []]=.ok (pth (b.1==1) (cX 7 t b xs) (cX 7 t b xs)):=by
 have A:∀(x0 x1 x2 x3 x4 x5 x6:Int),(eF 3).map (λ(t:eo)=>(gc).map λ(b:eo)=>ai 6 [OL 7 t,bG t b [x0,x1,x2,x3,x4,x5,x6],bG t b [x0,x1,x2,x3,x4,x5,x6],.int 1,.tup []])=(eF 3).map (λ(t:eo)=>(gc).map λ(b:eo)=>.ok (pth (b.1==1) (cX 7 t b [x0,x1,x2,x3,x4,x5,x6]) (cX 7 t b [x0,x1,x2,x3,x4,x5,x6]))):=by intros;kernel_rfl
 intro t ht b hb xs hl
 match xs,hl with
 | [x0,x1,x2,x3,x4,x5,x6],_=>exact az (az (A x0 x1 x2 x3 x4 x5 x6) t ht) b hb
theorem P4:AL 7 3:=by
 have a1:(eF 3).all (λt=>jJ (iS [.int (7:Nat),.int t.1,.int t.2]))=true:=by kernel_rfl
 have a2:(eF 3).all (λt=>oT (aX [OL 7 t,.int (7:Nat)]) (.bl true))=true:=by kernel_rfl
 have a3:∀t∈eF 3,((Wu 7).filter λp=>p / 2 != t.1&&p / 2 != t.2).length=3:=by decide
 refine⟨λt ht=>j9 (WR.mp a1 t ht),λt ht=>fg (WR.mp a2 t ht),SJ,SK,P2,λt ht b xs=>?_,λd e s P row hd he hp=>?_⟩
 ·unfold cX Dz;rw[Ww,Ww,Ww,Ww,WC,a3 t ht]
 ·match d,e,hd,he with
  | [d0,d1,d2,d3,d4,d5,d6],[e0,e1,e2,e3,e4,e5,e6],_,_=>
   cases s with
   |false=>exact Se hp
   |true=>exact Sf hp
theorem SM:∀t∈eF 4,∀b∈(gc),∀xs:List Int,xs.length=8->∀s,fy (nZ [some s,some (.int (8:Nat)),some (jN t),some (bU b),some (.lst (xs.map .int)),none,none])=.ok (bG t b xs,s):=by
 have A:∀(x0 x1 x2 x3 x4 x5 x6 x7:Int) (s:U),(eF 4).map (λ(t:eo)=>(gc).map λ(b:eo)=>fy (nZ [some s,some (.int (8:Nat)),some (jN t),some (bU b),some (.lst ([x0,x1,x2,x3,x4,x5,x6,x7].map .int)),none,none]))=(eF 4).map (λ(t:eo)=>(gc).map λ(b:eo)=>.ok (bG t b [x0,x1,x2,x3,x4,x5,x6,x7],s)):=by intros;kernel_rfl
 intro t ht b hb xs hl s
 match xs,hl with
 | [x0,x1,x2,x3,x4,x5,x6,x7],_=>exact az (az (A x0 x1 x2 x3 x4 x5 x6 x7 s) t ht) b hb
theorem SN:∀t∈eF 4,∀b∈(gc),∀xs:List Int,xs.length=8->∀y0 y1 y3 y4 y7,qt [y0,y1,some (jN t),y3,y4,some (bU b),some (bG t b xs),y7]=.ok (au (cX 8 t b xs),[y0,y1,some (jN t),y3,y4,some (bU b),some (bG t b xs),y7]):=by
 have A:∀(x0 x1 x2 x3 x4 x5 x6 x7:Int) (y0 y1 y3 y4 y7:Option U),(eF 4).map (λ(t:eo)=>(gc).map λ(b:eo)=>qt [y0,y1,some (jN t),y3,y4,some (bU b),some (bG t b [x0,x1,x2,x3,x4,x5,x6,x7]),y7])=(eF 4).map (λ(t:eo)=>(gc).map λ(b:eo)=>.ok (au (cX 8 t b [x0,x1,x2,x3,x4,x5,x6,x7]),[y0,y1,some (jN t),y3,y4,some (bU b),some (bG t b [x0,x1,x2,x3,x4,x5,x6,x7]),y7])):=by intros;kernel_rfl
 intro t ht b hb xs hl y0 y1 y3 y4 y7
 match xs,hl with
 | [x0,x1,x2,x3,x4,x5,x6,x7],_=>exact az (az (A x0 x1 x2 x3 x4 x5 x6 x7 y0 y1 y3 y4 y7) t ht) b hb
theorem P5:∀t∈eF 4,∀b∈(gc),∀xs:List Int,xs.length=8->ai 6 [OL 8 t,bG t b xs,bG t b xs,.int 1,.tup []]=.ok (pth (b.1==1) (cX 8 t b xs) (cX 8 t b xs)):=by
 have A:∀(x0 x1 x2 x3 x4 x5 x6 x7:Int),(eF 4).map (λ(t:eo)=>(gc).map λ(b:eo)=>ai 6 [OL 8 t,bG t b [x0,x1,x2,x3,x4,x5,x6,x7],bG t b [x0,x1,x2,x3,x4,x5,x6,x7],.int 1,.tup []])=(eF 4).map (λ(t:eo)=>(gc).map λ(b:eo)=>.ok (pth (b.1==1) (cX 8 t b [x0,x1,x2,x3,x4,x5,x6,x7]) (cX 8 t b [x0,x1,x2,x3,x4,x5,x6,x7]))):=by intros;kernel_rfl
 intro t ht b hb xs hl
 match xs,hl with
 | [x0,x1,x2,x3,x4,x5,x6,x7],_=>exact az (az (A x0 x1 x2 x3 x4 x5 x6 x7) t ht) b hb
theorem P6:AL 8 4:=by
 have a1:(eF 4).all (λt=>jJ (iS [.int (8:Nat),.int t.1,.int t.2]))=true:=by kernel_rfl
 have a2:(eF 4).all (λt=>oT (aX [OL 8 t,.int (8:Nat)]) (.bl true))=true:=by kernel_rfl
 have a3:∀t∈eF 4,((Wu 8).filter λp=>p / 2 != t.1&&p / 2 != t.2).length=4:=by decide
 refine⟨λt ht=>j9 (WR.mp a1 t ht),λt ht=>fg (WR.mp a2 t ht),SM,SN,P5,λt ht b xs=>?_,λd e s P row hd he hp=>?_⟩
 ·unfold cX Dz;rw[Ww,Ww,Ww,Ww,WC,a3 t ht]
 ·match d,e,hd,he with
  | [d0,d1,d2,d3,d4,d5,d6,d7],[e0,e1,e2,e3,e4,e5,e6,e7],_,_=>
   cases s with
   |false=>exact Sg hp
   |true=>exact Sh hp
noncomputable def SO (i:Nat):SR->SR
 | .nx ρ'=>.nx (ρ'.set i none)
 | .bk ρ'=>.bk (ρ'.set i none)
 | .ct ρ'=>.ct (ρ'.set i none)
 | .rt u ρ'=>.rt u (ρ'.set i none)
 |r=>r
theorem P7 {g:Ev->SR}:lM i g ρ=SO i (g ρ):=nr (by unfold lM SO;cases g ρ<;>rfl)
theorem SQ:SO i (.rt u ρ)=.rt u (ρ.set i none):=nr rfl
theorem Wa:(2:Nat)<=WE/\(1:Nat)<=WE:=by decide
theorem MK:fS=(aK (a8 5 (uS 4 0 bf (af (ag 1) (af (bE (af (ag 2) ar)) (af (aQ (af (ag 4) ar)) ar)))))
 (aK (a8 6 lS)
 (ku (HL (gB (aJ (iJ not) (dQ 2 bj (af (ag 3) (af (ag 5) ar))) (bE (af (ag 6) ar)))) (gB (aJ (iJ not) (dQ 2 aM (af (ag 3) (af (ag 5) ar))) (dQ 2 aM (af (ag 3) (af (ag 6) ar)))))) (bg (gC (.bl false))) bF))):=rfl
theorem ML (h:d.length=m)(h0:0<m):d≠[]:=λe=>by subst e;simp at h;lia
theorem I_ (T:xj m n)(h0:0<m)(hm:m<=1000){a:Nat}(ha:a∈Wu n){b:Nat}(hb:b∈([0,1]:List Nat)){s:U}(h:tR s) :
  ∃s' z5 z6,fS [some s,some (.int m),some (.int a),some (NL m a),some (.int (b:Nat)),y5,y6]=.nx [some s',some (.int m),some (.int a),some (NL m a),some (.int (b:Nat)),z5,z6]/\tR s':=by
 obtain⟨xs,s',e1,hx,hs⟩:=yX (nu:=.lst [.int a]) (bi:=.tup [.int (b:Nat)]) (R:=λxs=>au (aF xs a b)) h hm λxs hx s=>T.row a ha b hb xs hx s;have e2:=T.due a ha b hb xs hx (some s') (some (.int m)) (some (NL m a)) y6;have l1:(aF xs a (1-(b:Nat))).length=m:=by rw[yY];exact hx
 have l2:(aF xs a (1-(1-(b:Nat)))).length=m:=by rw[yY];exact hx
 have g1:=T.gv _ _ _ l1 (T.p1 a ha b hb xs hx);have g2:=T.gv _ _ _ l2 (T.p2 a ha b hb xs hx);have e3:=IZ (ML l1 h0) g1;have e4:=Cc g1;have e5:=Cc g2;have e6:zO MF MF=.ok true:=by kernel_rfl
 refine⟨s',some (au (aF xs a b)),some (au (aF xs a (1-(b:Nat)))),?_,hs⟩;rw[MK];simp only[Pzz,i9,Nat.reduceAdd,Nat.reduceSub,e1,e2,e3,e4,e5,Cb,e6]
theorem gD (T:xj m n)(hn:(m:Int) / 2=n)(h0:0<n)(V7:0<m)(hm:m<=100){s:U}(h:tR s):∃s',eW [s,.int m]=.ok (.bl true,s')/\tR s':=by
 obtain⟨r,s1,e1,r0,r1,h1⟩:=nV (m:=n) h (by lia) (by lia);obtain⟨a,rfl⟩:∃k:Nat,r=k:=⟨r.toNat,by lia⟩;have ha:a∈Wu n:=Xb.mpr (by lia);have e2:=T.neg a ha;have e3:=T.good a ha;obtain⟨ρ,e4,s2,y4,y5,y6,rfl,cH⟩:=oG (us:=[.int 0,.int 1,.int 0,.int 1]) (sg:=bD 4) (s:=fS) (λi ρ=>∃s y4 y5 y6,ρ=[some s,some (.int m),some (.int a),some (NL m a),y4,y5,y6]/\tR s)
  (λi u ρ hu h00=>by
   obtain⟨s,y4,y5,y6,hr,hs⟩:=h00;subst hr;obtain⟨b',qw,rfl⟩:∃b'∈([0,1]:List Nat),u=.int (b':Nat):=by
    have hm:=Xw hu;simp only[WK,Y1,or_false] at hm;rcases hm with rfl|rfl|rfl|rfl
    all_goals first|exact⟨0,by simp,rfl⟩|exact⟨1,by simp,rfl⟩
   obtain⟨s',z5,z6,q,hs'⟩:=I_ T V7 (by lia) ha qw hs (y5:=y5) (y6:=y6);exact⟨_,_,rfl,.inl q,_,_,_,_,rfl,hs'⟩)
  (ρ:=[some s1,some (.int m),some (.int a),some (NL m a),none,none,none]) ⟨_,_,_,_,rfl,h1⟩
 have d2:decide ((0:Int)<2)=true:=by decide
 have c2:xS (m:Int) 2=true:=qC (by decide) (by decide);refine⟨s2,?_,cH⟩;unfold eW ju;simp only[Pzz,i9,Nat.reduceAdd,Nat.reduceSub,d2,c2,hn,e1,e2,e3,e4]
theorem MM:bL=(aK (a8 6 (uS 4 0 bf (af (ag 1) (af (ag 2) (af (ag 5) ar)))))
 (aK (a8 7 qt)
 (aK (ku (gB (aJ (iJ not) (dQ 2 bj (af (ag 3) (af (ag 6) ar))) (bE (af (ag 7) ar)))) (bg (gC (.bl false))) bF)
 (lU (gM "list" 4 jg (af (dQ 2 aM (af (ag 3) (af (ag 6) ar))) ar)))))):=rfl
theorem MN {t b:eo}{xs:List Int}:cX m t b xs≠[]:=by unfold cX;exact List.cons_ne_nil _ _
theorem MO (T:AL m n)(hm:m<=1000){t:eo}(ht:t∈eF n){b:eo}(hb:b∈gc){s:U}(h:tR s){sn:List U}(hl:sn.length<1000){y7:Option U} :
  ∃s' z6 z7,bL [some s,some (.int m),some (jN t),some (OL m t),some (.lst sn),some (bU b),y6,y7]=.nx [some s',some (.int m),some (jN t),some (OL m t),some (.lst (sn++[kX])),some (bU b),z6,z7]/\tR s':=by
 obtain⟨xs,s',e1,hx,hs⟩:=yX (nu:=jN t) (bi:=bU b) (R:=bG t b) h hm λxs hx s=>T.row t ht b hb xs hx s;have e2:=T.due t ht b hb xs hx (some s') (some (.int m)) (some (OL m t)) (some (.lst sn)) y7;have hg:=T.gn _ _ _ _ _ (T.len t ht b xs) (T.len t ht b xs) (T.path t ht b hb xs hx);rw[ite_self] at hg;have e3:=MG MN rfl hg;have e4:=MJ hg;have ap:jg (.lst sn) [kX]=.ok (.non,.lst (sn++[kX])):=by
  unfold jg;dsimp only;exact hV (by rw[Yx];lia)
 refine⟨s',some (bG t b xs),some (au (cX m t b xs)),?_,hs⟩;rw[MM];simp only[Pzz,i9,Nat.reduceAdd,Nat.reduceSub,e1,e2,e3,e4,Cb,ap]
noncomputable def SS:Ev->R (U×Ev):=(aJ (iJ id) (dO (bW (ag 4)) [none,some 4] (bD 0) (gB (aJ (iJ not) (ag 0) (aJ bZ (ag 1) (gC (.int 0))))) (ag 0)) (bE ar))
noncomputable def Ud:Ev->R (List U×Ev):=(bW (aJ B3 (dQ 1 fc (af (gC (.int 2)) ar)) (gC (.int 2))))
theorem P8:fT=(aK (a8 2 (uS 3 0 cv (af (ag 1) (af (gC (.int 2)) ar))))
 (aK (a8 3 (dQ 3 iS (af (ag 1) (af (aJ bZ (ag 2) (gC (.int 0))) (af (aJ bZ (ag 2) (gC (.int 1))) ar)))))
 (aK (a8 4 (bE ar))
 (aK (g_ Ud (bD 5) bL)
 (lM 4 (bg (CF (dQ 2 aX (af (ag 3) (af (ag 1) ar))) SS))))))):=rfl
theorem SU {os:List Int}(h:os.length=2):∃a b,os=[a,b]:=by
 match os,h with
 | [a,b],_=>exact⟨a,b,rfl⟩
theorem tV (T:AL m n)(hn:(m:Int) / 2=n)(h3:2<=n)(hm:m<=100)(KA:n<=1000){s:U}(h:tR s):∃s',cN [s,.int m]=.ok (.bl true,s')/\tR s':=by
 obtain⟨os,s1,e1,ho,nd,hb,hs1⟩:=IX (c:=2) h hn KA h3 hm;obtain⟨a,b,rfl⟩:=SU ho;obtain⟨a,rfl⟩:∃k:Nat,a=k:=⟨a.toNat,by have:=(hb a (by simp)).1;lia⟩;obtain⟨b,rfl⟩:∃k:Nat,b=k:=⟨b.toNat,by have:=(hb b (by simp)).1;lia⟩;have ht:(a,b)∈eF n:=by
  have:=(hb a (by simp)).2;have:=(hb b (by simp)).2;simp only[XO,WK,Y1,or_false] at nd;exact I0 (by lia) (by lia) (λe=>nd.1 (by rw[e]))
 replace e1:cv [s,.int m,.int 2]=.ok (.lst [.int a,.int b],s1):=e1
 have e2:=T.cop _ ht;have e3:=T.good _ ht;have hB:∀ρ,Ud ρ=.ok ((gc++gc).map bU,ρ):=by intro ρ;kernel_rfl
 obtain⟨ρ,e4,s2,y5,y6,y7,rfl,cH⟩:=oG (us:=(gc++gc).map bU) (sg:=bD 5) (s:=bL) (λi ρ=>∃s y5 y6 y7,ρ=[some s,some (.int m),some (jN (a,b)),some (OL m (a,b)),some (.lst (Xv i kX)),y5,y6,y7]/\tR s)
  (λi u ρ hu h00=>by
   obtain⟨s,y5,y6,y7,hr,hs⟩:=h00;subst hr;have hi:i<8:=(WH.mp hu).1;obtain⟨b',qw,rfl⟩:=Xp.mp (Xw hu);have qw:b'∈gc:=(WW.mp qw).elim id id;obtain⟨s',z6,z7,q,hs'⟩:=MO T (by lia) ht qw hs (sn:=Xv i kX) (by rw[ZC];lia) (y6:=y6) (y7:=y7);rw[←List.replicate_succ'] at q;exact⟨_,_,rfl,.inl q,_,_,_,_,rfl,hs'⟩)
  (ρ:=[some s1,some (.int m),some (jN (a,b)),some (OL m (a,b)),some (.lst []),none,none,none]) ⟨_,_,_,_,rfl,hs1⟩
 have hE:∀y0 y1 y2 y3 y5 y6 y7,SS [y0,y1,y2,y3,some (.lst (Xv 8 kX)),y5,y6,y7]=.ok (.bl true,[y0,y1,y2,y3,some (.lst (Xv 8 kX)),y5,y6,y7]):=by intros;kernel_rfl
 have V8:gb (bD 5) bL ((gc++gc).map bU) [some s1,some (.int m),some (.lst [.int a,.int b]),some (OL m (a,b)),some (.lst []),none,none,none]=.nx [some s2,some (.int m),some (jN (a,b)),some (OL m (a,b)),some (.lst (Xv 8 kX)),y5,y6,y7]:=e4;refine⟨s2,?_,cH⟩;unfold cN;rw[P8];simp only[Pzz,i9,Nat.reduceAdd,Nat.reduceSub,P7,e1,e2,hB,V8,e3];rw[show SS [some s2,some (U.int m),some (jN (a,b)),some (OL m (a,b)),some (U.lst [kX,kX,kX,kX,kX,kX,kX,kX]),y5,y6,y7]=_ from hE _ _ _ _ _ _ _];rfl
theorem P9 {x2:Option U}:∃a:Option U,wQ [some (.scr (ns.map .int)),some (.int i),x2]=.nx [some (.scr (ns.map .int)),some (.int i),a]:=by
 obtain⟨s0,e0,h0⟩:=GC (us:=[]) (u:=.scr (ns.map .int)) (ns:=ns) (k:=i) (.inl rfl) (by lia);obtain⟨r,s1,e1,r0,r1,h1⟩:=nV (m:=7) h0 (by decide) (by decide);have rt:∃s',eW [s1,.int (2+r)]=.ok (.bl true,s')/\tR s':=by
  obtain⟨k,rfl⟩:∃k:Nat,r=k:=⟨r.toNat,by lia⟩
  match k,r1 with
  |0,_=>exact gD Pp (by decide) (by decide) (by decide) (by decide) h1
  |1,_=>exact gD Pt (by decide) (by decide) (by decide) (by decide) h1
  |2,_=>exact gD Px (by decide) (by decide) (by decide) (by decide) h1
  |3,_=>exact gD PB (by decide) (by decide) (by decide) (by decide) h1
  |4,_=>exact gD PH (by decide) (by decide) (by decide) (by decide) h1
  |5,_=>exact gD PM (by decide) (by decide) (by decide) (by decide) h1
  |6,_=>exact gD PR (by decide) (by decide) (by decide) (by decide) h1
  |k+7,h=>lia
 obtain⟨s2,e2,h2⟩:=rt;obtain⟨q,s3,e3,q0,q1,h3⟩:=nV (m:=5) h2 (by decide) (by decide);have ro:∃s',cN [s3,.int (4+q)]=.ok (.bl true,s')/\tR s':=by
  obtain⟨k,rfl⟩:∃k:Nat,q=k:=⟨q.toNat,by lia⟩
  match k,q1 with
  |0,_=>exact tV PV (by decide) (by decide) (by decide) (by decide) h3
  |1,_=>exact tV PY (by decide) (by decide) (by decide) (by decide) h3
  |2,_=>exact tV P0 (by decide) (by decide) (by decide) (by decide) h3
  |3,_=>exact tV P4 (by decide) (by decide) (by decide) (by decide) h3
  |4,_=>exact tV P6 (by decide) (by decide) (by decide) (by decide) h3
  |k+5,h=>lia
 obtain⟨s4,e4,h4⟩:=ro;refine⟨some s4,?_⟩;unfold wQ;simp only[Pzz,i9,Nat.reduceAdd,Nat.reduceSub,e0,e1,e2,e3,e4]
theorem pure_law (ns:List Int)(hl:ns.length<=63):yS [.scr (ns.map .int)]=.ok (.bl true):=by
 obtain⟨z,hz⟩:∃z:Nat,(if (if (3:Int)<(((ns.map U.int).length:Nat):Int) then 3 else (((ns.map U.int).length:Nat):Int))>1 then (if (3:Int)<(((ns.map U.int).length:Nat):Int) then 3 else (((ns.map U.int).length:Nat):Int)) else 1)=z:=⟨(if (if (3:Int)<(((ns.map U.int).length:Nat):Int) then 3 else (((ns.map U.int).length:Nat):Int))>1 then (if (3:Int)<(((ns.map U.int).length:Nat):Int) then 3 else (((ns.map U.int).length:Nat):Int)) else 1).toNat,by split<;>(try split)<;>lia⟩;have zb:z<=1000:=by split at hz<;>(try split at hz)<;>lia
 obtain⟨ρ',e,a,b,rfl⟩:=oG (us:=cu 0 z) (sg:=bD 1) (s:=wQ) (λ_ ρ=>∃a b:Option U,ρ=[some (.scr (ns.map .int)),a,b])
  (λi u ρ hu h00=>by
   obtain⟨a,b,hr⟩:=h00;subst hr;have hi:i<z:=by
    rcases ZH i z with y|y
    ·exact y
    ·rw[X_.mpr (by rw[gm];exact y)] at hu;cases hu
   obtain rfl:u=.int i:=by
    rw[yb] at hu;unfold iL at hu;rw[Ys,Xc,aac hi] at hu;cases hu;rfl
   obtain⟨a1,q⟩:=P9 (ns:=ns) (i:=i) (x2:=b);exact⟨_,_,rfl,.inl q,_,_,rfl⟩)
  (ρ:=[some (.scr (ns.map .int)),none,none]) ⟨_,_,rfl⟩
 unfold yS GA;simp only[Pzz,i9,Nat.reduceAdd,Nat.reduceSub,hz,Ag z (by lia),e]
theorem walk {q:XF}{d:DefRec}{K:Params->Wv}(Qd:d.params.defaults=[])(hY:∀(w:Zu) (h:Y8),YP w h->(K w.params).In h)(F:∀(w:Zu) (mg:Str->Option WB) (fa:WT) (h:Y8),(K w.params).In h->h.Ns Xn mg->mg d.name=some (.ref fa)->
   ∃fd:aaX,(∀(s:WN) (u:WB),BindsTo s fd ⟨[u],[]⟩ [("script",u)])/\∀base:Y8,(K w.params).In base->base.Ns Xn mg->lJ PySem.Challenge.rw_hushcards_k52_turned_and_one_of_two.prog w (K w.params) mg base xx 12 fa fd ["script"] (xQ (K w.params))) :
  PySem.W.WalkO q loose XP YP PySem.Challenge.rw_hushcards_k52_turned_and_one_of_two.row.toRowW d [] (λf vs=>PySem.call f vs):=
 L2.walk_of (l:=PySem.Challenge.rw_hushcards_k52_turned_and_one_of_two) (n:=63) (k:=12) (x:="script") (CX:=λ_=>xx) (sp:=λw=>xQ (K w.params)) rfl (by decide) Qd ⟨rfl,by decide,by decide⟩ hY F (λ_ _ a ns hl hO hS=>⟨a,ns,rfl,LK hO hS,hl,λ_=>rfl⟩) λ_ _ _ _ _ z=>z
end Hc
open PySem PySem.W PyProof.Rows
set_option maxRecDepth 100000 in
set_option maxHeartbeats 0 in
theorem PySem.Challenge.cw_hushcards_k52_turned_and_one_of_two_holds : PySem.Challenge.rw_hushcards_k52_turned_and_one_of_two.Holds := by
 w_on
 refine PySem.W.holds_law (by decide+kernel) λTJ=>?_;refine' PySem.W.holds_open Hc.left (PySem.W.Hook.of _) (PySem.W.Hook.keeps _) (XP:=PySem.W.XL Hc.vw [])
  (λs e=>PySem.W.xl_of s (Bool.and_eq_true_iff.mp e).1) PySem.W.XL.keeps ?d ?t ?k
  (λs e=>PySem.W.recFacts_of (Bool.and_eq_true_iff.mp e).2) ?w TJ ?g ⟨rfl,rfl,rfl,rfl,rfl,by decide+kernel⟩ ?hw ?hc
 case d=>rfl
 case t=>rfl
 case k=>rfl
 case w=>rfl
 case g=>decide+kernel
 case hw=>w_witness2
 show PySem.W.WalkO Hc.vw [] (PySem.W.XL Hc.vw []) (PySem.W.InK Hc.Kf) _ _ _ _
 k_fill
 refine Hc.walk rfl (λw h Y=>Y) ?F
 case F=>
  intro w mg fa h KX G Qe;refine' Hc.all_mk KX G Qe ?_ ?_ ?_ ?_ ?_ ?_ ?_ ?_ ?_ ?_ ?_ ?_ ?_ ?_ ?_ ?_ ?_ ?_ ?_ ?_ ?_ ?_ ?_ ?_ ?_ ?_ ?_ ?_ ?_ ?_ ?_ ?_ ?_ ?_ ?_ ?_ ?_ ?_ ?_ ?_ ?_ ?_ ?_ ?_ Hc.pure_law
  all_goals first|k_is|exact .mk (by k_is) (by k_is) (by k_is) (by k_is)|skip