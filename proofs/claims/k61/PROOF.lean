import PyProof.Rows.All
import Wide.All
import OpenK.AllK
import Wide.FinOn
import Lean
import PyProof.EqAt
import PyProof.EqKinds
import PyProof.TupleCall
import PyProof.NeKinds
import PyProof.TupleKey
import PyProof.DictRoadsH
import PySem.SetTable
import PyProof.SetRoads
import PyProof.DictKeyH
import PyProof.IsRules
import PyProof.Rows.SetFrom
import PyProof.WalksMore
import PyProof.ListMulRoad
import PyProof.FactsAll.subtypes_4
import PyProof.Rows.ListMulArg
import PyProof.ZipIter
import PyProof.DictItems
import PyProof.DictValues
import PyProof.DictWalks
import PyProof.FactsAll.dict_itemiterator
import PyProof.Rows.SortRuns
import PyProof.Rows.SortKey
import PyProof.Rows.SortShell
import PyProof.Rows.SortWalk
import KE.KSortTup
import KE.KDictList
import PySem.Challenge.RW_hushcards_k61_states_laid_and_mixed
abbrev hG:=@decide_eq_true
abbrev hJ:=@decide_eq_false
abbrev hV.{u}:=@if_neg.{u}
abbrev hZ.{u}:=@if_pos.{u}
set_option Elab.async false
set_option linter.all false
set_option maxRecDepth 100000
set_option maxHeartbeats 4000000
open PySem renaming wpAny_bind->Wv,wpAny_pure->Wy,sizeLine->WC,Value->WG,Shared->WT,wpAny->WX,starEach->W7,Addr->W8,model->Xg,wpAny_newObj_type->Xi,wpAny_call_entry->Xn,wpAny_callSpecial?_slot->Xy,Around->XD,mainGlobals->XH,bootBuiltins->XM,wpAny_mono->XQ,wpAny_setField_rec->XW,wpAny_holding->X0,mem_of_lookup->X1,wpAny_setState_of->X7,wpAny_field->X8,sysModules->Yv,sizeLine_eq->YA,cLine->YH,foldedSetIterable->YR,Expr->YV,wpAny_typeNameOfWhole_itemiter->Y0,wpAny_askSetting->Y2,wpAny_typeNameOfWhole_keyiter->Y3,wpAny_seqItems->Y8,compareOp->Zc,codeAny_builtin->Ze,wpAny_attempt->Zl,wpAny_setField->Zr,firstArgMember->Zs,wpAny_typeNameOf_itemiter->Zt,Heap->Zv,Program->Zx,backTo->Zy,wpAny_rule->Zz,wpAny_passesOwn->ZA,wpAny_dictEntries->ZF,wpAny_typeNameOf_keyiter->ZG,wpAny_isInstance->ZP,assignEach->ZQ,IsItemIter->ZS,World->ZU,wpAny_specialOf->ZZ,wpAny_dictEpoch->Z5,behindInMarks->Z9,wpAny_pyIter_slot->aaf,IsPair->aah,eval->aaj,wpAny_fieldsOf->aap,SetTable->aaq,binaryOp->aar,unsupported->aaw,wpAny_of_eq->aax,pyNext->aaB,start->aaH,swapsWith->aaI,tupleKind_room_in1->aaL,HeapKind->aaO,wpAny_isOneOf_itemiter->aa1,wpAny_truthy_bool->aa2,sliceBounds->aa3,rawInt->abh,codeAny_mono->abi,wpAny_typeOf->abk,wpAny_notOrdered_dict->abl,wpAny_updateSeq_pair->abw,Stmt->abx,FuncData->aby,wpAny_standAt->abz,attributeBase->abA,wpAny_execs_nil->abF,letOwnedTupleGo->abG,getItem->abH,wpAny_setEntries_of->abM,wpAny_Call_Name_kw->ab2,Keyword->acb,isSubtype_stop->acg,Scope->acj,Paired->ack,tupleKind->acm,wpAny_pyIter_list->aco,seqIndex?->acq,wpAny_collect_seq->acu,NameKind->acy,DictEntry->acz,PassesOwn->acB,pickOrder->acC
open List renaming length_map->Ww,getElem?_eq_getElem->Wx,map_cons->WB,getElem?_eq_some_iff->WE,length_append->WI,size_toArray->WJ,mem_cons_self->WM,mem_map->WN,mem_cons_of_mem->WO,getElem?_map->WQ,map_append->WR,length_cons->WS,map_map->WW,range->WY,mem_cons->WZ,mem_singleton->W0,map_congr_left->W3,append_assoc->W9,length_take->W_,mem_append->Xa,take_succ_eq_append_getElem->Xd,length_range->Xf,getElem_mem->Xh,mem_append_right->Xl,sum_cons->Xp,getElem?_set_ne->Xq,append_nil->Xr,take_append_drop->Xs,mem_range->Xv,getElem?_eq_none_iff->Xw,length_drop->XA,mem_map_of_mem->XB,getElem?_append_right->XN,take_length->XR,flatten_cons->XS,mem_of_mem_take->XU,map_nil->XX,perm_append_comm->XZ,getElem?_cons_succ->X2,getElem?_append_left->X5,drop_eq_getElem_cons->X6,length_singleton->Ya,getD_eq_getElem?_getD->Yf,mem_of_getElem?->Yg,take_of_length_le->Yi,length_set->Yl,find?_cons->Ym,eq_nil_of_length_eq_zero->Yr,getElem?_range->Yt,flatMap_cons->Yy,pairwise_cons->YB,mem_append_left->YF,lookup_cons->YJ,all_eq_true->YK,zipWith->YL,mem_flatMap->YO,zipWith_cons_cons->YQ,nil_append->YX,foldl_cons->YY,mem_nil_iff->Y1,mem_of_mem_drop->Y5,nodup_nil->Y9,pairwise_map->Za,nodup_cons->Zd,flatten_append->Zg,pairwise_iff_getElem->Zq,extract_eq_take_drop->Zu,ext_getElem?->ZD,pairwise_singleton->ZN,length_zipWith->ZO,drop_eq_nil_of_le->ZV,length_nil->ZY,forIn_cons->Z1,getElem?_eq_none->Z6,nodup_append->aad,mem_iff_getElem->aal,cons_append->aas,drop_length->aat,reverse_append->aaA,all_cons->aaN,getElem?_drop->aaP,getElem?_take->aaS,set_cons_zero->aaT,getElem?_set_self->aaX,getElem_take->aba,foldl_append->abb,drop_zero->abe,length_replicate->abj,nodup_range->abr,not_mem_nil->abt,filterMap_cons->abE,sum_append->abO,range_succ->abQ,flatMap_append->abR,perm_ext_iff_of_nodup->abW,mem_filterMap->ab0,drop_drop->aci,getElem?_take_of_lt->acp,filterMap_cons_some->acv
open PySem.Heap renaming get?_push_of_some->Wz,get?_push_size->WL,lt_size->WU,SameBut->Yh,size_push->YU,get?_update_self->YW
open Bool renaming false_ne_true->WA,and_eq_true->W2,false_eq_true->Xm,eq_iff_iff->Yj,or_eq_true->Z2,not_true->aac,or_eq_false_iff->aak,eq_false_iff->aa5,and_false->abd,not_false->acf
open PySem.W renaming Frag->WD,mg_none_of->XT,kia_one->Yk,fnOf->YI,nsIn->YN,keepIn->ZR,findIn->abc,codeIn->acd,methodObj->acn
open Array renaming length_toList->WH,getElem?_toList->W4,getElem?_eq_getElem->Xc,toList_append->XJ,getElem?_eq_some_iff->XO,getElem?_eq_none->Zh,toList_extract->Zw,toList_push->ZH,toList_reverse->aam,getD->aa7,toList_setIfInBounds->abX,perm_iff_toList_perm->abY,forIn_toList->ab7
open Nat renaming le_refl->WK,ne_of_lt->Xj,lt_of_lt_of_le->Xx,le_trans->XG,mul_comm->Yb,mul_assoc->Ye,min_eq_left->Yo,le_add_right->Yq,zero_le->Ys,add_sub_cancel_left->YE,lt_or_ge->YM,lt_irrefl->YT,gcd->Y7,le_of_lt_succ->Zb,zero_add->Zj,pow_succ->Zk,ne_of_gt->ZK,add_assoc->ZM,lt_of_le_of_lt->ZW,succ_pos->Z3,lt_succ_of_lt->aab,mod_lt->aae,mul_left_comm->aa6,lt_trichotomy->aa8,mul_le_mul->abf,min_self->ab5,sub_self->ab8,add_zero->ab9,gcd_pos_of_pos_right->acx
open PyProof.Rows renaming wpS_bind->WV,wpS_pure->W5,SortSt->Xb,Keyed->Xe,pendingOf->Xt,arrOf->Xz,kindOf->X_,wpS_forRange->Yc,slot_tuple_getitem->YS,wpS_mono->Zm,callWith_type1->ZX,failedOf->aau,wpS_modify->aaE,SortKind->aaR,IntsAre->abp,reverseSlice'->abC,assignInOrder_cons->abZ,envOfC->ab3,seqObj->ab6,gallopOf->aca,elem'->ach,KeyOrd->acA
open Option.some renaming inj->W6
open Int renaming toNat_natCast->Xk,mul_assoc->Xo,emod_lt_of_pos->YC,mul_comm->Y_,emod_nonneg->Zf,mul_nonneg->ZT,mul_pos->Z7,eq_of_mul_eq_mul_right->aai,natCast_ediv->aav,natCast_dvd_natCast->aaU,mul_le_mul->abg,add_zero->abo,le_of_dvd->abD,ediv_nonneg->abP,toNat_of_nonneg->abS,zero_add->ab_
open PyProof.Rows.KeyOrd renaming kle_trans->Xu,kle_of_klt->XI,kle_refl->Yp
open PySem.Builtin.SmallTypes renaming nextOf->XC,ownedTupleIsFree->Yu,ownedTupleHandOut->aao
open PySem.PassesOwn renaming never->XF
open List.Perm renaming append_left->XY,append_right->X9,refl->Yd
open PySem.Heap.SameBut renaming update->X3
open PySem.F renaming plainAttrs_list->X4,slot_dict_itemiterator_next->Y4,slot_dict_keyiterator_next->Y6,slot_tuple_iterator_next->Zi,slot_list_append->ZI,type_list_append->ZJ,slot_dict_get->Z0,args_tuple_add_2->aaC,slot_list_extend->aaF,type_list_extend->aaG,entry_tuple_add->aaK,args_dict_get_3->aaM,slot_tuple_add->aaY,entry_dict_get->aa0,args_dict_itemiterator_next_1->aa_,args_dict_keyiterator_next_1->abm,entry_dict_itemiterator_next->abn,entry_dict_keyiterator_next->abu,slot_dict_itemiterator_iter->abv,args_tuple_iterator_next_1->abB,entry_tuple_iterator_next->abK,slot_zip_next->abL
open PySem.Builtin.Tuple renaming tupleHashOf->Yn,tupleExact->Yx,tupleItemsOf->aag,tupleIsExact->abV
open PySem.Str renaming ofString->Yw
open PySem.Builtin.Dict_items renaming ownsTuple->Yz,ownedTupleFields->aay,ownedTupleIsFree->aaz,pairFromOwner->aaW
open PySem.Obj renaming data_mapFields->YD,isFreed_of_fields->Z4,mapSeq->aaa,cls_mapFields->aa9,putSet->acw
open PySem.Around renaming under_plainId->YG
open PySem.Builtin.Dict renaming showsAll->YZ
open PySem.Builtin.Slice renaming slicePlaces->Zn,sliceAdjust->aan,sliceApplied->abU
open Classical renaming byContradiction->Zo
open PySem.Builtin.List renaming listTooLong->ZC,listExtendWith->abJ,listLengthHint->abN
open List.Pairwise renaming imp_of_mem->ZE
open List.Nodup renaming length_le_of_subset->ZL
open PySem.Paired renaming length->Z8
open False renaming elim->Z_
open PySem.SeqAt renaming EqAt->aaD
open PySem.Builtin.Range renaming rangeSize->aaJ
open PyProof.Rows.F renaming plain_set_update_loop->aaQ
open Nat.Coprime renaming dvd_of_dvd_mul_right->aaV
open PySem.Calls renaming callWith_builtin->aaZ,Name_function_global->abT,spliced_cons->ab1,call_function_entry->ace
open Option renaming isSome_map->aa4,getD_none->abq
open PySem.SeqAt.EqAt renaming same->abI,of_refs->ab4
open PySem.SeqAt.RcAt renaming tuples->acr,lists_lengths->acs
open PySem PySem.Spec PyProof.Rows
variable {a b it f p z i1 i2 a1 a2:W8}{o l T ra rb S:List Xe}{P prog:Zx}{w:ZU}{h h':Zv}{t' i j k n g base m mask kt ep bc nd:Nat}{ch fp:List W8}{x qual:Str}{N ps loose:List Str}{M:Model}{A:W8->Prop}{E Q:WG->WT->Prop}{t:aaq}{s:WT}{pins:List (W8×Obj)}{pos p2 tp:Pos}{op:CmpOp}{c tg iter elt:YV}{K:WD}{st:abx}{body:List abx}{hi:Option Int}{C:Nat->Option (Int×WG)}{au:List WG}{mg:Str->Option WG}{fd:aby}{scope:acj}{ns:List Int}{ys:Array WG}{q:WG}{XP:(Str->Option WG)->Zv->Prop}{YP:ZU->Zv->Prop}{env:Env}{js:List (Option Nat)}{s_ elts:List YV}{l1 l2:Bool}{ds:Array acz}{arr:Array Xe}{ss rows:List (List Int)}
namespace L2
noncomputable abbrev Key:=Sum Int Str
noncomputable def ui:Key->WG->Bool
 | .inl k,v=>Value.isInt k v
 | .inr x,v=>Value.isStrOf x v
noncomputable def RD (w:ZU):Key->Int
 | .inl k=>hashInt k
 | .inr x=>hashStr w x
theorem cw:∀{k:Key} {v:WG},ui k v=true->(∃i t,k=Sum.inl i/\v=Value.int i t)\/(∃x t,k=Sum.inr x/\v=Value.str x t)
 | .inl i,v,h=>by
  obtain⟨t,e⟩:=Value.isInt_shape (k:=i) (v:=v) h;exact .inl ⟨i,t,rfl,e⟩
 | .inr x,v,h=>by
  obtain⟨t,e⟩:=Value.isStrOf_shape (x:=x) (v:=v) h;exact .inr ⟨x,t,rfl,e⟩
theorem Cg (i:Int)(t:Tok):ui (.inl i) (.int i t)=true:=by simp[ui,Value.isInt]
theorem Ci (x:Str)(t:Tok):ui (.inr x) (.str x t)=true:=by simp[ui,Value.isStrOf]
theorem Lo (a b:Int):decide ((Sum.inl a:Key)=Sum.inl b)=(a==b):=by
 by_cases e:a=b
 ·subst e;simp
 ·have h:¬(Sum.inl a:Key)=Sum.inl b:=λq=>e (Sum.inl.inj q);rw[hJ h];exact (beq_eq_false_iff_ne.mpr e).symm
theorem Lp (a b:Str):decide ((Sum.inr a:Key)=Sum.inr b)=decide (a=b):=by
 by_cases e:a=b
 ·subst e;simp
 ·have h:¬(Sum.inr a:Key)=Sum.inr b:=λq=>e (Sum.inr.inj q);rw[hJ h,hJ e]
theorem Lq (a:Int)(b:Str):decide ((Sum.inl a:Key)=Sum.inr b)=false:=hJ (λq=>nomatch q)
theorem Lr (a:Str)(b:Int):decide ((Sum.inr a:Key)=Sum.inl b)=false:=hJ (λq=>nomatch q)
noncomputable def cF (prog:Zx)(w:ZU):PySem.KeyKind prog w Key where
 is:=ui
 hash:=RD w
 inj:=λv a b ha hb=>by
  rcases cw ha with⟨i,t,rfl,rfl⟩|⟨x,t,rfl,rfl⟩
  ·rcases cw hb with⟨j,u,rfl,e⟩|⟨y,u,rfl,e⟩
   ·injection e with e1 _;rw[e1]
   ·exact nomatch e
  ·rcases cw hb with⟨j,u,rfl,e⟩|⟨y,u,rfl,e⟩
   ·exact nomatch e
   ·injection e with e1 _;rw[e1]
 byValue:=λk v h=>by
  rcases cw h with⟨i,t,rfl,rfl⟩|⟨x,t,rfl,rfl⟩<;>rfl
 pyHash:=λhv h=>by
  rcases cw hv with⟨i,t,rfl,rfl⟩|⟨x,t,rfl,rfl⟩
  ·exact wpAny_pyHash_int h
  ·exact wpAny_pyHash_str h
 eqBool:=λhu hv h=>by
  rcases cw hu with⟨i,t,rfl,rfl⟩|⟨x,t,rfl,rfl⟩
  ·rcases cw hv with⟨j,u,rfl,rfl⟩|⟨y,u,rfl,rfl⟩
   ·rw[Lo] at h;exact wpAny_eqBool_int h
   ·rw[Lq] at h;exact SeqAt.EqAt.int_str i t y u _ _ _ _ h
  ·rcases cw hv with⟨j,u,rfl,rfl⟩|⟨y,u,rfl,rfl⟩
   ·rw[Lr] at h;exact SeqAt.EqAt.str_int x t j u _ _ _ _ h
   ·rw[Lp] at h;exact wpAny_eqBool_str h
 «strs»:=λk x t v h=>by
  rcases cw h with⟨i,u,rfl,e⟩|⟨y,u,rfl,e⟩
  ·exact nomatch e
  ·injection e with e1 _
   subst e1;cases v<;>rfl
theorem xc (prog:Zx)(w:ZU)(i:Int)(t:Tok):(cF prog w).is (.inl i) (.int i t)=true:=Cg i t
theorem xf (prog:Zx)(w:ZU)(x:Str)(t:Tok):(cF prog w).is (.inr x) (.str x t)=true:=Ci x t
end L2
namespace L2
inductive V where
 |non|bl (b:Bool)|int (i:Int)|str (x:Str)|byt (b:Array UInt8)|flt (b:UInt64)|ref (a:W8)|ty (n:String)
 deriving DecidableEq
def aO:V->WG->Prop
 | .non,u=>u=Value.none
 | .bl b,u=>u=Value.bool b
 | .int i,u=>∃t,u=Value.int i t
 | .str x,u=>∃t,u=Value.str x t
 | .byt b,u=>∃t,u=Value.bytes b t
 | .flt b,u=>∃t,u=Value.float b t
 | .ref a,u=>u=Value.ref a
 | .ty n,u=>u=Value.type n
abbrev aW:List V->List WG->Prop:=ack aO
theorem aW.length {xs:List V}{us:List WG}(r:aW xs us):xs.length=us.length:=Z8 r
theorem aW.get:∀{xs:List V} {us:List WG} {i:Nat} {x:V},aW xs us->xs[i]? = some x->∃u,us[i]? = some u/\aO x u
 |_,_,_,_,.nil,e=>by simp at e
 |_,_,0,_,.cons r _,e=>by simp at e;subst e;exact⟨_,rfl,r⟩
 |_,_,i+1,x,.cons _ t,e=>by
  obtain⟨u,h1,h2⟩:=aW.get (i:=i) (x:=x) t (by simpa using e);exact⟨u,by simpa using h1,h2⟩
theorem aW.set {x:V}{u:WG}(r:aO x u):∀{xs:List V} {us:List WG} (i:Nat),aW xs us->aW (xs.set i x) (us.set i u)
 |_,_,_,.nil=>.nil
 |_,_,0,.cons _ t=>.cons r t
 |_,_,i+1,.cons q t=>.cons q (aW.set r i t)
theorem aW.append:∀{xs ys:List V} {us ws:List WG},aW xs us->aW ys ws->aW (xs++ys) (us++ws)
 |_,_,_,_,.nil,s=>s
 |_,_,_,_,.cons r t,s=>.cons r (aW.append t s)
theorem aW.take:∀{xs:List V} {us:List WG} (n:Nat),aW xs us->aW (xs.take n) (us.take n)
 |_,_,0,_=>.nil
 |_,_,_+1,.nil=>.nil
 |_,_,n+1,.cons r t=>.cons r (aW.take n t)
theorem aW.drop:∀{xs:List V} {us:List WG} (n:Nat),aW xs us->aW (xs.drop n) (us.drop n)
 |_,_,0,r=>r
 |_,_,_+1,.nil=>.nil
 |_,_,n+1,.cons _ t=>aW.drop n t
def lK:Option V->Option WG->Prop
 |some v,some u=>aO v u
 |none,none=>True
 |_,_=>False
def KV {κ:Type}:List (κ×V)->List (κ×WG)->Prop:=ack λ(p:κ×V) (q:κ×WG)=>p.1=q.1/\aO p.2 q.2
noncomputable def kV:Key->V
 | .inl i=>.int i
 | .inr x=>.str x
inductive HO where
 |lst (xs:List V)
 |tup (xs:List V)
 |dK (aL:List (Key×V))|dT (aL:List (List Key×V))
 |set (S:Int->Bool) (n:Nat)
 |ins (C dx:W8) (fs:List (Str×V))
 |own (x:W8)
 |xd (fs:List (Str×V))
 |met (f x:W8)
 |rng (lo hi:Int)
 |frz (o:Obj) (u:HO)
 |tbl (ps:Array WG)
 |ext (φ:Zv->Prop)
noncomputable abbrev Hp:=W8->Option HO
noncomputable def cD (H:Hp)(a:W8)(o:HO):Hp:=λb=>if b=a then some o else H b
theorem bg {H:Hp}{o:HO}:cD H a o a=some o:=by unfold cD;rw[hZ rfl]
theorem aS {H:Hp}{o:HO}(h:b≠a):cD H a o b=H b:=by unfold cD;rw[hV h]
theorem Oe {H:Hp}{o u:HO}(h:H a=some o)(h':H b=some u)(d:o≠u):a≠b:=by
 intro e;subst e;rw[h] at h';exact d (W6 h')
theorem bK {H:Hp}{o:HO}(h:H a=some o)(h':H b=none):a≠b:=by
 intro e;subst e;rw[h] at h';cases h'
section
variable (P:Zx)(w:ZU)
def bO (H:Hp)(h:Zv)(a:W8):HO->Prop
 | .lst xs=>xs.length<=WC/\∃(au:List WG) (n:Nat),aW xs au/\h.get? a=some {cls:=.type "list",data:=.seq au.toArray n}
 | .tup xs=>xs.length<=WC/\∃au:List WG,aW xs au/\IsTup h a au.toArray/\∃n,h.get? a=some {cls:=.type "tuple",data:=.seq au.toArray n}
 | .dK aL=>aL.length<=WC/\(a==Yv)=false/\∃vs,KV aL vs/\h.DictOf (cF P w) a vs
 | .dT aL=>aL.length<=WC/\(a==Yv)=false/\∃xs:List (List Key×W8×WG),
   ack (λ(p:List Key×V) (q:List Key×W8×WG)=>p.1=q.1/\H q.2.1=some (.tup (p.1.map kV))/\aO p.2 q.2.2) aL xs/\
   ∃o es ep,h.get? a=some o/\o.ExactDict/\o.data=.dict es ep/\es.toList=xs.map (entryOfKey (acm (cF P w)))/\(xs.map (·.1)).Nodup
 | .set S n=>h.SetOf (intKind P w) a S n
 | .ins C dx fs=>H dx=some (.own a)/\fs.length<=1000/\dx≠a/\h.get? a=some (PySem.W.instObj C dx)/\
   ∃mA,h.Ns1 dx mA/\(∀f,lK (fs.lookup f) (mA f))/\PySem.Within mA (fs.map (·.1))
 | .own _=>∃o,h.get? a=some o
 | .xd fs=>∃mA,h.Ns1 a mA/\∀f,lK (fs.lookup f) (mA f)
 | .rng lo hi=>∃t u v,h.get? a=some {cls:=.type "range",data:=.fields #[.int lo t,.int hi u,.int 1 v]}
 | .frz o u=>h.get? a=some o/\bO H h a u
 | .tbl ps=>h.get? a=some {cls:=.none,data:=.fields ps}
 | .met f x=>h.get? a=some (acn (.ref f) (.ref x))
 | .ext φ=>φ h/\(∃o,h.get? a=some o)/\∀h1 h2:Zv,φ h1->(∀o,h1.get? a=some o->h2.get? a=some o)->φ h2
def kh (H:Hp)(h:Zv):Prop:=∀a o,H a=some o->bO P w H h a o
end
section
variable {H H':Hp}{o:HO}
theorem bO.lt (x:bO P w H h a o):a<h.objs.size:=by
 cases o with
 |lst xs=>obtain⟨_,_,_,_,e⟩:=x;exact WU e
 |tup xs=>obtain⟨_,_,_,p,_⟩:=x;exact p.lt
 |dK aL=>obtain⟨_,_,_,_,o,_,_,e,_⟩:=x;exact WU e
 |dT aL=>obtain⟨_,_,_,_,o,_,_,e,_⟩:=x;exact WU e
 |set S n=>obtain⟨o,_,_,_,e,_⟩:=x;exact WU e
 |ins C dx fs=>obtain⟨_,_,_,e,_⟩:=x;exact WU e
 |own y=>obtain⟨_,e⟩:=x;exact WU e
 |xd fs=>obtain⟨_,⟨_,_,_,e,_⟩,_⟩:=x;exact WU e
 |rng lo hi=>obtain⟨_,_,_,e⟩:=x;exact WU e
 |frz ob u=>obtain⟨e,_⟩:=x;exact WU e
 |tbl ps=>exact WU (show h.get? a=some _ from x)
 |met f y=>exact WU (show h.get? a=some _ from x)
 |ext φ=>obtain⟨_,⟨_,e⟩,_⟩:=x;exact WU e
theorem Paired.mapP {α β:Type}{F G:α->β->Prop}:∀{l₁:List α} {l₂:List β},ack F l₁ l₂->(∀a b,F a b->G a b)->ack G l₁ l₂
 |_,_,.nil,_=>.nil
 |_,_,.cons r t,f=>.cons (f _ _ r) (Paired.mapP t f)
theorem bO.stay (x:bO P w H h a o)(k:∀b u,(b=a\/H b=some (.own a))->h.get? b=some u->h'.get? b=some u)
  (ho:∀b,H b=some (.own a)->H' b=some (.own a)) (ht:∀b xs,H b=some (.tup xs)->H' b=some (.tup xs)):bO P w H' h' a o:=by
 induction o with
 |lst xs=>obtain⟨z,au,n,r,e⟩:=x;exact⟨z,au,n,r,k _ _ (.inl rfl) e⟩
 |tup xs=>obtain⟨z,au,r,⟨ob,e,c⟩,n2,e2⟩:=x;exact⟨z,au,r,⟨ob,k _ _ (.inl rfl) e,c⟩,n2,k _ _ (.inl rfl) e2⟩
 |dK aL=>obtain⟨z,y,vs,r,ob,es,ep,e,c⟩:=x;exact⟨z,y,vs,r,ob,es,ep,k _ _ (.inl rfl) e,c⟩
 |dT aL=>
  obtain⟨z,y,xs,r,ob,es,ep,e,c⟩:=x;exact⟨z,y,xs,Paired.mapP r λp q z=>⟨z.1,ht _ _ z.2.1,z.2.2⟩,ob,es,ep,k _ _ (.inl rfl) e,c⟩
 |set S n=>obtain⟨ob,es,ep,t,e,c⟩:=x;exact⟨ob,es,ep,t,k _ _ (.inl rfl) e,c⟩
 |ins C dx fs=>
  obtain⟨d,z,ne,e,mA,⟨od,es,ep,e2,c⟩,r⟩:=x;exact⟨ho _ d,z,ne,k _ _ (.inl rfl) e,mA,⟨od,es,ep,k _ _ (.inr d) e2,c⟩,r⟩
 |own y=>obtain⟨ob,e⟩:=x;exact⟨ob,k _ _ (.inl rfl) e⟩
 |xd fs=>obtain⟨mA,⟨od,es,ep,e,c⟩,r⟩:=x;exact⟨mA,⟨od,es,ep,k _ _ (.inl rfl) e,c⟩,r⟩
 |rng lo hi=>obtain⟨t,u,v,e⟩:=x;exact⟨t,u,v,k _ _ (.inl rfl) e⟩
 |frz ob u ih=>obtain⟨e,q⟩:=x;exact⟨k _ _ (.inl rfl) e,ih q⟩
 |tbl ps=>
  have e:h.get? a=some {cls:=.none,data:=.fields ps}:=x;show h'.get? a=some {cls:=.none,data:=.fields ps};exact k a _ (.inl rfl) e
 |met f y=>
  have e:h.get? a=some (acn (.ref f) (.ref y)):=x;show h'.get? a=some (acn (.ref f) (.ref y));exact k a _ (.inl rfl) e
 |ext φ=>obtain⟨p,⟨o,e⟩,st⟩:=x;exact⟨st _ _ p λo q=>k _ _ (.inl rfl) q,⟨o,k _ _ (.inl rfl) e⟩,st⟩
theorem kh.lt (x:kh P w H h)(e:H a=some o):a<h.objs.size:=(x a o e).lt
theorem kh.fresh (x:kh P w H h)(e:h.objs.size<=a):H a=none:=by
 cases q:H a with
 |none=>rfl
 |some u=>exact absurd (Xx (x.lt q) e) (YT _)
theorem kh.kept (x:kh P w H h)(k:∀b u,h.get? b=some u->h'.get? b=some u):kh P w H h':=λa o e=>
 (x a o e).stay (λb u _ q=>k b u q) (λ_ q=>q) λ_ _ q=>q
theorem kh.laid (x:kh P w H h)(k:∀b u,h.get? b=some u->h'.get? b=some u)(hp:h.objs.size<=a)(new:bO P w (cD H a o) h' a o):kh P w (cD H a o) h':=λb u e=>by
 have hn:=x.fresh hp;by_cases hb:b=a
 ·subst hb;rw[bg] at e;cases e;exact new
 ·rw[aS hb] at e;exact (x b u e).stay (λc v _ q=>k c v q) (λc q=>by rw[aS (bK q hn)];exact q) λc xs q=>by rw[aS (bK q hn)];exact q
end
def Rd (H:Hp)(a:W8)(u:HO):Prop:=H a=some u\/∃o,H a=some (.frz o u)
theorem Rd.ok {H:Hp}{u:HO}(r:Rd H a u)(x:kh P w H h):bO P w H h a u:=by
 rcases r with r|⟨o,r⟩
 ·exact x a u r
 ·obtain⟨_,q⟩:=x a _ r;exact q
def NV:Option HO->Prop
 |some (.lst _)=>True
 |some (.dK _)=>True
 |some (.dT _)=>True
 |some (.set _ _)=>True
 |some (.ins _ _ _)=>True
 |some (.ext _)=>True
 |_=>False
section
variable {H:Hp}{x e:W8}{o':HO}
theorem kh.write (ok:kh P w H h)(mu:NV (H x))(he:e=x\/H e=some (.own x))(k:∀b u,b≠e->h.get? b=some u->h'.get? b=some u)(N_:∃u,h'.get? e=some u)
  (new:bO P w (cD H x o') h' x o'):kh P w (cD H x o') h':=λb u q=>by
 have QA:∀c y,H c=some (.own y)->c≠x:=λc y r z=>by subst z;rw[r] at mu;exact mu
 have SS:∀c xs,H c=some (.tup xs)->c≠x:=λc xs r z=>by subst z;rw[r] at mu;exact mu
 by_cases hb:b=x
 ·subst hb;rw[bg] at q;cases q;exact new
 ·rw[aS hb] at q;by_cases hbe:b=e
  ·have q':H b=some (.own x):=by
    rcases he with z|z
    ·exact absurd (hbe.trans z) hb
    ·rw[hbe];exact z
   rw[q] at q';cases q';obtain⟨v,hv⟩:=N_;exact⟨v,by rw[hbe];exact hv⟩
  ·refine (ok b u q).stay (λc v hc r=>k c v ?_ r) (λc r=>by rw[aS (QA c b r)];exact r) λc xs r=>by rw[aS (SS c xs r)];exact r
   rcases hc with rfl|hc
   ·exact hbe
   ·rintro rfl;rcases he with z|z
    ·exact QA c b hc z
    ·rw[hc] at z;cases z;exact hb rfl
end
structure Un (fs ex:List W8)(H H':Hp)(h h':Zv):Prop where
 keep:∀b o,h.get? b=some o->H b=none->b∉fs->b∉ex->h'.get? b=some o
 slot:∀b o,h.get? b=some o->H b=none->b∈fs->b∉ex->∃sl,h'.get? b=some {o with slots:=sl}
 free:∀b o,h.get? b=some o->H b=none->b∉ex->H' b=none
 there:∀b o,h.get? b=some o->b∉ex->∃o',h'.get? b=some o'
 tups:∀b xs,H b=some (.tup xs)->H' b=some (.tup xs)
 frzs:∀b o u,H b=some (.frz o u)->H' b=some (.frz o u)
 tbls:∀b ps,H b=some (.tbl ps)->∃more,H' b=some (.tbl (ps++more))
section
variable {fs fs' ex ex':List W8}{H H1 H2:Hp}{h1 h2:Zv}{x e:W8}{o:HO}
theorem Un.any (u:Un fs ex H H1 h h1){ob:Obj}(q:h.get? b=some ob)(n:H b=none)(hx:b∉ex):∃sl,h1.get? b=some {ob with slots:=sl}:=by
 by_cases hb:b∈fs
 ·exact u.slot b ob q n hb hx
 ·exact⟨ob.slots,u.keep b ob q n hb hx⟩
theorem Un.kept (k:∀b u,h.get? b=some u->h'.get? b=some u):Un fs ex H H h h' :=
 ⟨λb ob q _ _ _=>k b ob q,λb ob q _ _ _=>⟨ob.slots,k b ob q⟩,λ_ _ _ n _=>n,λb ob q _=>⟨ob,k b ob q⟩,λ_ _ q=>q,λ_ _ _ q=>q,λ_ ps q=>⟨#[],by rw[q];simp⟩⟩
theorem Un.refl:Un fs ex H H h h:=Un.kept λ_ _ q=>q
theorem Un.laid (k:∀b u,h.get? b=some u->h'.get? b=some u)(hp:h.objs.size<=a)(hn:H a=none):Un fs ex H (cD H a o) h h' where
 keep:=λb u q _ _ _=>k b u q
 slot:=λb u q _ _ _=>⟨u.slots,k b u q⟩
 free:=λb u q n _=>by rw[aS (Xj (Xx (WU q) hp))];exact n
 there:=λb u q _=>⟨u,k b u q⟩
 tups:=λb xs q=>by rw[aS (bK q hn)];exact q
 frzs:=λb u xs q=>by rw[aS (bK q hn)];exact q
 tbls:=λb ps q=>⟨#[],by rw[aS (bK q hn),q];simp⟩
theorem Un.write (mu:NV (H x))(he:e=x\/H e=some (.own x))(k:∀b u,b≠e->h.get? b=some u->h'.get? b=some u)(N_:∃u,h'.get? e=some u):Un fs ex H (cD H x o) h h':=by
 have hx:∀b,H b=none->b≠x:=λb n z=>by subst z;rw[n] at mu;exact mu
 have hb:∀b,H b=none->b≠e:=λb n z=>by
  subst z;rcases he with r|r
  ·exact hx b n r
  ·rw[n] at r;cases r
 have hm:∀b u,H b=some u->¬NV (some u)->b≠x:=λb u q nm z=>by subst z;rw[q] at mu;exact nm mu
 refine⟨λb u q n _ _=>k b u (hb b n) q,λb u q n _ _=>⟨u.slots,k b u (hb b n) q⟩,λb u q n _=>by rw[aS (hx b n)];exact n,λb u q _=>?_,
  λb xs q=>by rw[aS (hm b _ q λz=>z)];exact q,λb u xs q=>by rw[aS (hm b _ q λz=>z)];exact q,λb ps q=>⟨#[],by rw[aS (hm b _ q λz=>z),q];simp⟩⟩
 by_cases hbe:b=e
 ·subst hbe;exact N_
 ·exact⟨u,k b u hbe q⟩
end
noncomputable def QZ (h:Zv)(H:Hp):List W8:=(WY h.objs.size).filter λa=>(H a).isSome
noncomputable def vk (h:Zv)(H:Hp):Zv:=PySem.W.hideAll h (QZ h H)
theorem Cj (h:Zv)(H:Hp):(vk h H).objs.size=h.objs.size:=PySem.W.hideAll_size _ _
theorem DK {H:Hp}{o:Obj}(e:h.get? b=some o)(n:H b=none):(vk h H).get? b=some o:=
 PySem.W.hideAll_get _ e λhm=>by
  have q:(H b).isSome=true:=(List.mem_filter.mp hm).2;rw[n] at q;simp at q
theorem Hx {H:Hp}{o:Obj}(e:(vk h H).get? b=some o):h.get? b=some o/\H b=none:=by
 have e':h.get? b=some o:=PySem.W.of_hideAll (QZ h H) e;refine⟨e',?_⟩;cases q:H b with
 |none=>rfl
 |some x=>
  have hm:b∈QZ h H:=List.mem_filter.mpr ⟨Xv.mpr (WU e'),by simp[q]⟩;have z:(vk h H).get? b=none:=PySem.W.hideAll_none (QZ h H) hm;rw[z] at e;cases e
end L2
variable {xs vs:List L2.V}{H H' H1 H2:L2.Hp}{v y:L2.V}{aL:List (List L2.Key×L2.V)}
namespace L2
structure Mod (K:WD)(mg:Str->Option WG)(base:Zv):Prop where
 kin:K.In base
 glob:base.Ns XH mg
 blt:∃mb,base.Ns builtinsNs mb/\∀x:Str,x≠"__name__"->mb x=XM x
 nolimit:base.NoLimit
structure Cx where
 prog:Zx
 w:ZU
 K:WD
 mg:Str->Option WG
 base:Zv
 A:XD
 N:List Str
 s₀:WT
 H₀:Hp
 env:Env
 outer:List Env
 stack:List Env
 ex:List W8
 fn:Str->Bool
 calm:Bool
 pn:List (W8×Obj)
 xe:WG->WT->Prop
noncomputable def AB (l:List Env):List W8:=l.filterMap (·.frame)
noncomputable abbrev Cx.fs (X:Cx):List W8:=AB X.outer
def Dx (sc:acj)(x:Str):Prop:=sc.names.lookup x=some .local\/sc.names.lookup x=some .cell\/sc.names.lookup x=some .free
def Hi (sc:acj)(x:Str):Prop:=sc.names.lookup x=some .local\/sc.names.lookup x=some .cell
def RE (env:Env)(h:Zv)(m:Str->Option WG)(x:Str)(u:WG):Prop:=
 (env.kindOf x=some .local/\m x=some u)\/((env.kindOf x=some .cell\/env.kindOf x=some .free)/\∃c,env.cells.lookup x=some c/\h.IsCell c (some u))
structure Cx.Ok (X:Cx):Prop where
 mod:Mod X.K X.mg X.base
 kind:X.env.scope.kind=.function
 glob:X.env.globals=XH
 blt:X.env.builtins=builtinsNs
 above:X.s₀.heap.objs.size<=X.env.locals
 inj:∀x y c,X.env.cells.lookup x=some c->X.env.cells.lookup y=some c->x=y
 has:∀x,(X.env.kindOf x=some .cell\/X.env.kindOf x=some .free)->∃c,X.env.cells.lookup x=some c
 cab:∀x c,X.fn x=true->X.env.cells.lookup x=some c->X.s₀.heap.objs.size<=c
 hd:X.calm=true->X.A.handled=none
 frames:X.A.frames=some X.stack
 stk:X.stack=X.outer\/(X.stack=X.env::X.outer/\X.env.frame=some X.env.locals)
 exf:∀b∈X.ex,b≠X.env.locals/\∀x c,X.env.cells.lookup x=some c->c≠b
 bs:∀b o,X.base.get? b=some o->X.s₀.heap.get? b=some o/\X.H₀ b=none
 bsz:X.base.objs.size<=X.s₀.heap.objs.size
 noex:∀b o,X.base.get? b=some o->b∉X.ex
 exfs:∀b∈X.ex,b∉X.fs
 funs:X.s₀.heap.FunFrames X.base X.outer
 frf:∀b∈X.fs,X.H₀ b=none
structure az (X:Cx)(pins:List (W8×Obj))(σ:List (Option V))(H:Hp)(s:WT):Prop where
 ok:X.Ok
 os:s.os=X.s₀.os
 bare:AllBare s.gens
 base:Un X.fs X.ex X.H₀ H X.s₀.heap s.heap
 loc:∃m,s.heap.Ns X.env.locals m/\∀(i:Nat) (x:Str) (v:V),X.N[i]? = some x->σ[i]? = some (some v)->Dx X.env.scope x->∃u,aO v u/\RE X.env s.heap m x u
 cell:∀x c,X.env.cells.lookup x=some c->∃v,s.heap.IsCell c v
 free:H X.env.locals=none
 freeC:∀x c,X.env.cells.lookup x=some c->H c=none
 pin:∀p∈X.pn++pins,s.heap.get? p.1=some p.2/\H p.1=none/\p.1≠X.env.locals/\p.1∉X.fs/\∀v,p.2.data≠.cell v
 hok:kh X.prog X.w H s.heap
 len:σ.length=X.N.length
section
variable {X:Cx}{σ:List (Option V)}
theorem Cx.Ok.nofr (ok:X.Ok){o:Obj}(e:X.base.get? b=some o):b∉X.fs:=λhb=>by
 have:=(ok.funs.mem hb).1;rw[e] at this;cases this
theorem az.bs (I:az X pins σ H s):∀b o,X.base.get? b=some o->s.heap.get? b=some o/\H b=none:=λb o e=>
 ⟨I.base.keep b o (I.ok.bs b o e).1 (I.ok.bs b o e).2 (I.ok.nofr e) (I.ok.noex b o e),I.base.free b o (I.ok.bs b o e).1 (I.ok.bs b o e).2 (I.ok.noex b o e)⟩
theorem az.bk (I:az X pins σ H s):∀b o,X.base.get? b=some o->s.heap.get? b=some o:=λb o e=>(I.bs b o e).1
theorem az.mod (I:az X pins σ H s):Mod X.K X.mg X.base:=I.ok.mod
theorem az.kIn (I:az X pins σ H s):X.K.In s.heap:=I.ok.mod.kin.keeps I.bk
theorem az.lt (I:az X pins σ H s):X.env.locals<s.heap.objs.size:=let ⟨_,hn,_⟩:=I.loc;hn.lt
theorem az.sz (I:az X pins σ H s):X.s₀.heap.objs.size<=s.heap.objs.size:=XG I.ok.above (Nat.le_of_lt I.lt)
theorem az.nofs (I:az X pins σ H s)(h:s.heap.objs.size<=a):a∉X.fs:=λhb=>by
 obtain⟨_,o,ho,_⟩:=I.ok.funs.mem hb;exact absurd (Xx (WU ho) (XG I.sz h)) (YT _)
theorem az.cne (I:az X pins σ H s):∀x c,X.env.cells.lookup x=some c->c≠X.env.locals:=λx c e z=>by
 obtain⟨v,o,ho,hd⟩:=I.cell x c e;obtain⟨m,⟨o',es,ep,ho',hd',_⟩,_⟩:=I.loc;rw[z,ho'] at ho;cases ho;rw[hd'] at hd;cases hd
theorem az.funs (I:az X pins σ H s):s.heap.FunFrames X.base X.outer:=by
 have all:∀(l:List Env),(∀b∈AB l,b∈X.fs)->X.s₀.heap.FunFrames X.base l->s.heap.FunFrames X.base l:=by
  intro l
  induction l with
  |nil=>intro _ _;trivial
  |cons env r ih=>
   intro hs hl;obtain⟨hk,⟨L,o,hf,hn,ho,hd⟩,hr⟩:=hl;have hL:L∈X.fs:=hs L (by unfold AB;rw[abE,hf];exact WM);obtain⟨sl,e⟩:=I.base.slot L o ho (I.ok.frf L hL) hL λz=>I.ok.exfs L z hL;exact⟨hk,⟨L,_,hf,hn,e,hd⟩,ih (λb hb=>hs b (by unfold AB;rw[abE,hf];exact WO _ hb)) hr⟩
 exact all X.outer (λ_ hb=>hb) I.ok.funs
theorem az.stack (I:az X pins σ H s):s.heap.FunFrames X.base X.stack:=by
 rcases I.ok.stk with e|⟨e,hf⟩
 ·rw[e];exact I.funs
 ·rw[e];obtain⟨m,hn,_⟩:=I.loc;refine .cons (by rw[I.ok.kind];decide) hf hn ?_ I.funs;exact Heap.get?_none_of_le (XG I.ok.bsz I.ok.above)
theorem az.stkSub (I:az X pins σ H s):∀b∈AB X.stack,b∈X.env.locals::X.fs:=λb hb=>by
 rcases I.ok.stk with e|⟨e,hf⟩
 ·rw[e] at hb;exact WO _ hb
 ·rw[e] at hb;unfold AB at hb;rw[abE,hf] at hb;exact hb
theorem az.stkFree (I:az X pins σ H s):∀b∈AB X.stack,H b=none:=λb hb=>by
 rcases WZ.mp (I.stkSub b hb) with e|hb
 ·rw[e];exact I.free
 ·obtain⟨_,o,ho,_⟩:=I.ok.funs.mem hb;exact I.base.free b o ho (I.ok.frf b hb) λz=>I.ok.exfs b z hb
theorem az.step {t':Nat}{g':Array GenState}{d':Drawn}(I:az X pins σ H s)(Hl:∀b∈ch,(b∈X.ex\/X.s₀.heap.objs.size<=b)/\b≠X.env.locals/\(∀x c,X.env.cells.lookup x=some c->c≠b)/\∀p∈X.pn++pins,p.1≠b)(keep:∀b o,b≠X.env.locals->b∉X.fs->b∉ch->s.heap.get? b=some o->H b=none->h'.get? b=some o)(slot:∀b o,b≠X.env.locals->b∈X.fs->b∉ch->s.heap.get? b=some o->H b=none->∃sl,h'.get? b=some {o with slots:=sl})(free:∀b o,b∉ch->s.heap.get? b=some o->H b=none->H' b=none)(there:∀b o,b∉ch->s.heap.get? b=some o->∃o',h'.get? b=some o')(tups:∀b xs,H b=some (.tup xs)->H' b=some (.tup xs))(frzs:∀b o u,H b=some (.frz o u)->H' b=some (.frz o u))(tbls:∀b ps,H b=some (.tbl ps)->∃more,H' b=some (.tbl (ps++more)))(ns:∀m,s.heap.Ns X.env.locals m->h'.Ns X.env.locals m)(hok:kh X.prog X.w H' h')(hg:AllBare g') :
  az X pins σ H' {s with heap:=h',gens:=g',drawn:=d',toks:=t'}:=by
 have Ua:∀b o,X.s₀.heap.get? b=some o->b≠X.env.locals:=λb o e=>Xj (Xx (WU e) I.ok.above);have Ru:∀b o,X.s₀.heap.get? b=some o->b∉X.ex->b∉ch:=λb o e hx hb=>by
  rcases (Hl b hb).1 with z|z
  ·exact hx z
  ·exact absurd (Xx (WU e) z) (YT _)
 have K_:∀x c,X.env.cells.lookup x=some c->∀v,s.heap.IsCell c v->h'.IsCell c v:=λx c e v h00=>by
  obtain⟨o,ho,hd⟩:=h00;have QB:c∉ch:=λz=>(Hl c z).2.2.1 x c e rfl;by_cases hc:c∈X.fs
  ·obtain⟨sl,q⟩:=slot c o (I.cne x c e) hc QB ho (I.freeC x c e);exact⟨_,q,hd⟩
  ·exact⟨o,keep c o (I.cne x c e) hc QB ho (I.freeC x c e),hd⟩
 refine⟨I.ok,I.os,hg,⟨λb o e n hb hx=>?_,λb o e n hb hx=>?_,λb o e n hx=>?_,λb o e hx=>?_,λb xs e=>tups b xs (I.base.tups b xs e),λb o xs e=>frzs b o xs (I.base.frzs b o xs e),λb ps e=>?_⟩,?_,λx c e=>?_,?_,λx c e=>?_,λp hp=>?_,hok,I.len⟩
 ·exact keep b o (Ua b o e) hb (Ru b o e hx) (I.base.keep b o e n hb hx) (I.base.free b o e n hx)
 ·obtain⟨sl,e1⟩:=I.base.slot b o e n hb hx;obtain⟨sl',e2⟩:=slot b _ (Ua b o e) hb (Ru b o e hx) e1 (I.base.free b o e n hx);exact⟨sl',e2⟩
 ·obtain⟨o',e1⟩:=I.base.there b o e hx;exact free b o' (Ru b o e hx) e1 (I.base.free b o e n hx)
 ·obtain⟨o',e1⟩:=I.base.there b o e hx;exact there b o' (Ru b o e hx) e1
 ·obtain⟨m1,e1⟩:=I.base.tbls b ps e;obtain⟨m2,e2⟩:=tbls b _ e1;exact⟨m1++m2,by rw[e2,Array.append_assoc]⟩
 ·obtain⟨m,hn,hl⟩:=I.loc;refine⟨m,ns m hn,λi x v e1 e2 e3=>?_⟩;obtain⟨u,r,l⟩:=hl i x v e1 e2 e3;refine⟨u,r,?_⟩;rcases l with l|⟨k,c,e,z⟩
  ·exact .inl l
  ·exact .inr ⟨k,c,e,K_ x c e _ z⟩
 ·obtain⟨v,z⟩:=I.cell x c e;exact⟨v,K_ x c e v z⟩
 ·obtain⟨m,⟨o,_,_,ho,_⟩,_⟩:=I.loc;exact free _ o (λz=>(Hl _ z).2.1 rfl) ho I.free
 ·obtain⟨v,o,ho,hd⟩:=I.cell x c e;exact free c o (λz=>(Hl c z).2.2.1 x c e rfl) ho (I.freeC x c e)
 ·obtain⟨e,n,ne,nf,d⟩:=I.pin p hp;have QB:p.1∉ch:=λz=>(Hl p.1 z).2.2.2 p hp rfl;exact⟨keep p.1 p.2 ne nf QB e n,free p.1 p.2 QB e n,ne,nf,d⟩
theorem az.un {t':Nat}(I:az X pins σ H s)(u:Un X.fs [] H H' s.heap h')(hok:kh X.prog X.w H' h'):az X pins σ H' {s with heap:=h',toks:=t'}:=by
 obtain⟨m,⟨o,es,ep,ho,r⟩,_⟩:=id I.loc;obtain⟨sl,hL⟩:=u.any ho I.free (by simp);exact I.step (g':=s.gens) (d':=s.drawn) (ch:=[]) (λ_ z=>nomatch z) (λb o _ hb _ e n=>u.keep b o e n hb (by simp)) (λb o _ hb _ e n=>u.slot b o e n hb (by simp)) (λb o _ e n=>u.free b o e n (by simp)) (λb o _ e=>u.there b o e (by simp)) u.tups u.frzs u.tbls (λm' hm=>by
  obtain⟨o',He,ep',ho',r'⟩:=hm;rw[ho] at ho';cases ho';exact⟨_,He,ep',hL,r'⟩) hok I.bare
theorem az.call {t':Nat}{g':Array GenState}{d':Drawn}(I:az X pins σ H s)(u:Un (AB X.stack) ch H H' s.heap h')(hok:kh X.prog X.w H' h')(hg:AllBare g')(Hl:∀b∈ch,(b∈X.ex\/X.s₀.heap.objs.size<=b)/\b≠X.env.locals/\(∀x c,X.env.cells.lookup x=some c->c≠b)/\∀p∈X.pn++pins,p.1≠b) :
  az X pins σ H' {s with heap:=h',gens:=g',drawn:=d',toks:=t'}:=by
 obtain⟨m,⟨o,es,ep,ho,r⟩,_⟩:=id I.loc;obtain⟨sl,hL⟩:=u.any ho I.free λz=>(Hl _ z).2.1 rfl;exact I.step (ch:=ch) Hl (λb o hL hb hc e n=>u.keep b o e n (λz=>(WZ.mp (I.stkSub b z)).elim hL hb) hc) (λb o _ _ hc e n=>u.any e n hc) (λb o hc e n=>u.free b o e n hc) (λb o hc e=>u.there b o e hc) u.tups u.frzs u.tbls (λm' hm=>by
  obtain⟨o',He,ep',ho',r'⟩:=hm;rw[ho] at ho';cases ho';exact⟨_,He,ep',hL,r'⟩) hok hg
theorem az.turned {t':Nat}(I:az X pins σ H s)(k:∀b o,b≠it->s.heap.get? b=some o->h'.get? b=some o)(hn:H it=none)(hL:it≠X.env.locals)(h1:it∈X.ex\/X.s₀.heap.objs.size<=it)(h2:∀x c,X.env.cells.lookup x=some c->c≠it)(h3:∀p∈X.pn++pins,p.1≠it):az X pins σ H {s with heap:=h',toks:=t'}:=by
 have Ub:∀b u,H b=some u->b≠it:=λb u e z=>by rw[z,hn] at e;cases e
 refine I.step (g':=s.gens) (d':=s.drawn) (ch:=[it]) (λb hb=>?_) (λb o _ _ hc e _=>k b o (λz=>hc (by simp[z])) e) (λb o _ _ hc e _=>⟨o.slots,k b o (λz=>hc (by simp[z])) e⟩) (λ_ _ _ _ n=>n)
  (λb o hc e=>⟨o,k b o (λz=>hc (by simp[z])) e⟩) (λ_ _ e=>e) (λ_ _ _ e=>e) (λb ps e=>⟨#[],by rw[e];simp⟩) (λm hm=>?_) (λb u e=>?_) I.bare
 ·have e:b=it:=by simpa using hb
  subst e;exact⟨h1,hL,h2,h3⟩
 ·obtain⟨o,es,ep,ho,r⟩:=hm;exact⟨o,es,ep,k _ o (Ne.symm hL) ho,r⟩
 ·refine (I.hok b u e).stay (λc v hc q=>k c v ?_ q) (λ_ q=>q) λ_ _ q=>q;rcases hc with z|z
  ·rw[z];exact Ub b u e
  ·exact Ub c _ z
theorem az.tok (I:az X pins σ H s)(t:Nat):az X pins σ H {s with toks:=t}:=I.un (h':=s.heap) (t':=t) Un.refl I.hok
theorem az.kept {t':Nat}(I:az X pins σ H s)(k:∀b u,s.heap.get? b=some u->h'.get? b=some u):az X pins σ H {s with heap:=h',toks:=t'}:=I.un (Un.kept k) (I.hok.kept k)
theorem az.laid {t':Nat}{o:HO}(I:az X pins σ H s)(k:∀b u,s.heap.get? b=some u->h'.get? b=some u)(hp:s.heap.objs.size<=a)(new:bO X.prog X.w (cD H a o) h' a o) :
  az X pins σ (cD H a o) {s with heap:=h',toks:=t'}:=I.un (Un.laid k hp (I.hok.fresh hp)) (I.hok.laid k hp new)
theorem az.write {t':Nat}{x e:W8}{o:HO}(I:az X pins σ H s)(mu:NV (H x))(he:e=x\/H e=some (.own x))(k:∀b u,b≠e->s.heap.get? b=some u->h'.get? b=some u)(N_:∃u,h'.get? e=some u)(new:bO X.prog X.w (cD H x o) h' x o):az X pins σ (cD H x o) {s with heap:=h',toks:=t'}:=I.un (Un.write mu he k N_) (I.hok.write mu he k N_ new)
theorem az.pins_of {La:List (W8×Obj)}(I:az X pins σ H s)(h:∀p∈La,s.heap.get? p.1=some p.2/\H p.1=none/\p.1≠X.env.locals/\p.1∉X.fs/\∀v,p.2.data≠.cell v):az X La σ H s:=
 ⟨I.ok,I.os,I.bare,I.base,I.loc,I.cell,I.free,I.freeC,λp hp=>(Xa.mp hp).elim (λz=>I.pin p (YF _ z)) (h p),I.hok,I.len⟩
theorem xg (hN:N.Nodup)(a:N[i]? = some x)(b:N[j]? = some x):i=j:=by
 obtain⟨h1,e1⟩:=WE.mp a;obtain⟨h2,e2⟩:=WE.mp b;exact (List.getElem_inj hN).mp (e1.trans e2.symm)
theorem uj {A:XD}{u:WG}{Q:Unit->WT->Prop}(I:az X pins σ H s)(hN:X.N.Nodup)(hi:X.N[i]? = some x)(hx:Hi X.env.scope x)(r:aO v u)(h:∀s',az X pins (σ.set i (some v)) H s'->(∃a,Yh a s.heap s'.heap/\(a=X.env.locals\/X.env.cells.lookup x=some a))->Q () s')(hf:X.fn x=true\/X.env.scope.names.lookup x=some .local:=by first|exact .inl rfl|exact .inr rfl|assumption):WX M A (storeName X.env x u) Q E s:=by
 obtain⟨m,hn,hl⟩:=id I.loc;have SV:(X.env.scope.kind==.class||(X.env.scope.kind==.module&&X.env.locals != X.env.globals))=false:=by rw[I.ok.kind];rfl
 have Uc:i<σ.length:=by rw[I.len];exact (WE.mp hi).1
 have cne:=I.cne;have Ca:∀{a:W8} {h':Zv},(∃o,s.heap.get? a=some o/\H a=none)->Yh a s.heap h'->kh X.prog X.w H h':=λ{a h'} ha hs b ob e=>by
  obtain⟨_,_,tj⟩:=ha;refine (I.hok b ob e).stay (λc w' hc q=>(hs.2 c ?_).trans q) (λ_ q=>q) λ_ _ q=>q;rintro rfl;rcases hc with rfl|hc
  ·rw[tj] at e;cases e
  ·rw[tj] at hc;cases hc
 rcases hx with hk|hk
 ·refine wpAny_storeName_local hk hn (λh' Oa hs=>?_) SV;obtain⟨oL,_,_,NK,_⟩:=id hn;refine h _ ⟨I.ok,I.os,I.bare,⟨λb o e n hb hx=>?_,λb o e n hb hx=>?_,I.base.free,λb o e hx=>?_,I.base.tups,I.base.frzs,I.base.tbls⟩,⟨_,Oa,λj y v' e1 e2 e3=>?_⟩,λy c e=>?_,I.free,I.freeC,λp hp=>?_,Ca ⟨oL,NK,I.free⟩ hs,by simpa using I.len⟩ ⟨_,hs,.inl rfl⟩
  ·exact (hs.2 b (Xj (Xx (WU e) I.ok.above))).trans (I.base.keep b o e n hb hx)
  ·obtain⟨sl,e1⟩:=I.base.slot b o e n hb hx;exact⟨sl,(hs.2 b (Xj (Xx (WU e) I.ok.above))).trans e1⟩
  ·obtain⟨o',e1⟩:=I.base.there b o e hx;exact⟨o',(hs.2 b (Xj (Xx (WU e) I.ok.above))).trans e1⟩
  ·by_cases hj:j=i
   ·subst hj;rw[hi] at e1;cases e1;rw[aaX Uc] at e2;cases e2;exact⟨u,r,.inl ⟨hk,by simp⟩⟩
   ·rw[Xq (Ne.symm hj)] at e2;obtain⟨u',r',q⟩:=hl j y v' e1 e2 e3;refine⟨u',r',?_⟩;rcases q with⟨k,e⟩|⟨k,c,e,z⟩
    ·refine .inl ⟨k,?_⟩;have:y≠x:=λe=>hj (xg hN e1 (e▸hi));simp[this,e]
    ·exact .inr ⟨k,c,e,z.sameBut hs (cne y c e)⟩
  ·obtain⟨w',z⟩:=I.cell y c e;exact⟨w',z.sameBut hs (cne y c e)⟩
  ·obtain⟨e,n,ne,nf,d⟩:=I.pin p hp;exact⟨(hs.2 p.1 ne).trans e,n,ne,nf,d⟩
 ·have SW:X.fn x=true:=by
   rcases hf with z|z
   ·exact z
   ·rw[z] at hk;cases hk
  obtain⟨c,hc⟩:=I.ok.has x (.inl hk);obtain⟨w',z⟩:=I.cell x c hc;refine wpAny_storeName_cell I.ok.kind hk hc z (λh' Rv hs=>?_);obtain⟨oc,hoc,hocd⟩:=id z;refine h {s with heap:=h'} ⟨I.ok,I.os,I.bare,⟨λb o e n hb hx=>?_,λb o e n hb hx=>?_,I.base.free,λb o e hx=>?_,I.base.tups,I.base.frzs,I.base.tbls⟩,⟨m,hn.sameBut hs (Ne.symm (cne x c hc)),λj y v' e1 e2 e3=>?_⟩,λy c' e=>?_,I.free,I.freeC,λp hp=>?_,Ca ⟨oc,hoc,I.freeC x c hc⟩ hs,by simpa using I.len⟩ ⟨c,hs,.inr hc⟩
  ·exact (hs.2 b (Xj (Xx (WU e) (I.ok.cab x c SW hc)))).trans (I.base.keep b o e n hb hx)
  ·obtain⟨sl,e1⟩:=I.base.slot b o e n hb hx;exact⟨sl,(hs.2 b (Xj (Xx (WU e) (I.ok.cab x c SW hc)))).trans e1⟩
  ·obtain⟨o',e1⟩:=I.base.there b o e hx;exact⟨o',(hs.2 b (Xj (Xx (WU e) (I.ok.cab x c SW hc)))).trans e1⟩
  ·by_cases hj:j=i
   ·subst hj;rw[hi] at e1;cases e1;rw[aaX Uc] at e2;cases e2;exact⟨u,r,.inr ⟨.inl hk,c,hc,Rv⟩⟩
   ·rw[Xq (Ne.symm hj)] at e2;obtain⟨u',r',q⟩:=hl j y v' e1 e2 e3;refine⟨u',r',?_⟩;rcases q with q|⟨k,c',e,z'⟩
    ·exact .inl q
    ·refine .inr ⟨k,c',e,z'.sameBut hs ?_⟩;rintro rfl;exact hj (xg hN e1 (I.ok.inj _ _ _ e hc▸hi))
  ·by_cases hcc:c'=c
   ·subst hcc;exact⟨_,Rv⟩
   ·obtain⟨w2,z2⟩:=I.cell y c' e;exact⟨w2,z2.sameBut hs hcc⟩
  ·obtain⟨e,n,ne,nf,d⟩:=I.pin p hp;refine⟨(hs.2 p.1 ?_).trans e,n,ne,nf,d⟩;intro q;rw[q,hoc] at e;have q':oc=p.2:=W6 e;exact d w' (by rw[←q'];exact hocd)
theorem mq {A:XD}{u:WG}{Q:Unit->WT->Prop}(I:az X pins σ H s)(hN:X.N.Nodup)(hi:X.N[i]? = some x)(hx:Hi X.env.scope x)(r:aO v u)(h:∀s',az X pins (σ.set i (some v)) H s'->Q () s')(hf:X.fn x=true\/X.env.scope.names.lookup x=some .local:=by first|exact .inl rfl|exact .inr rfl|assumption):WX M A (storeName X.env x u) Q E s:=
 uj I hN hi hx r (λs' I' _=>h s' I') hf
theorem az.call' {s':WT}(I:az X pins σ H s)(ho:s'.os=s.os)(u:Un (AB X.stack) ch H H' s.heap s'.heap)(hok:kh X.prog X.w H' s'.heap)(hg:AllBare s'.gens)(Hl:∀b∈ch,(b∈X.ex\/X.s₀.heap.objs.size<=b)/\b≠X.env.locals/\(∀x c,X.env.cells.lookup x=some c->c≠b)/\∀p∈X.pn++pins,p.1≠b):az X pins σ H' s':=by
 obtain⟨h',g',d',t',o'⟩:=s';have e:o'=s.os:=ho;subst e;exact I.call (g':=g') (t':=t') (d':=d') u hok hg Hl
end
abbrev XK:=WG->Option W8->Hp->Prop
noncomputable abbrev St:=List (Option V)
abbrev VK:=V->Hp->Prop
abbrev TE:=St->Hp->VK->Prop
abbrev TT:=St->Hp->(Bool->Hp->Prop)->Prop
abbrev TA:=St->Hp->(List V->Hp->Prop)->Prop
structure pG where
 nx:St->Hp->Prop
 rt:VK
 bk:St->Hp->Prop:=λ_ _=>False
 ct:St->Hp->Prop:=λ_ _=>False
abbrev TS:=pG->St->Hp->Prop
def EP (X:Cx)(pins:List (W8×Obj))(σ:St)(Q:VK)(u:WG)(s':WT):Prop:=∃v H',az X pins σ H' s'/\aO v u/\Q v H'
def TP (X:Cx)(pins:List (W8×Obj))(σ:St)(Q:Bool->Hp->Prop)(b:Bool)(s':WT):Prop:=∃H',az X pins σ H' s'/\Q b H'
def AP (X:Cx)(pins:List (W8×Obj))(σ:St)(Q:List V->Hp->Prop)(us:List WG)(s':WT):Prop:=∃vs H',az X pins σ H' s'/\aW vs us/\Q vs H'
def SP (X:Cx)(pins:List (W8×Obj))(D:pG)(f:Flow)(s':WT):Prop:=
 match f with
 | .next=>∃σ' H',az X pins σ' H' s'/\D.nx σ' H'
 | .brk=>∃σ' H',az X pins σ' H' s'/\D.bk σ' H'
 | .cont=>∃σ' H',az X pins σ' H' s'/\D.ct σ' H'
 | .ret u=>∃v σ' H',az X pins σ' H' s'/\aO v u/\D.rt v H'
def PE (X:Cx)(e:YV)(t:TE):Prop:=
 ∀(pins:List (W8×Obj)) (s:WT) (σ:St) (H:Hp) (Q:VK),az X pins σ H s->t σ H Q->WX (Xg X.prog X.w) X.A (aaj e X.env) (EP X pins σ Q) X.xe s
def PT (X:Cx)(e:YV)(t:TT):Prop:=
 ∀(pins:List (W8×Obj)) (s:WT) (σ:St) (H:Hp) (Q:Bool->Hp->Prop),az X pins σ H s->t σ H Q->WX (Xg X.prog X.w) X.A (isTrue e X.env (aaj e X.env)) (TP X pins σ Q) X.xe s
def PW (X:Cx)(e:YV)(t:TT):Prop:=
 ∀(whole:Sem WG) (pins:List (W8×Obj)) (s:WT) (σ:St) (H:Hp) (Q:Bool->Hp->Prop),az X pins σ H s->t σ H Q->WX (Xg X.prog X.w) X.A (isTrue e X.env whole) (TP X pins σ Q) X.xe s
theorem PW.pt {X:Cx}{e:YV}{t:TT}(h:PW X e t):PT X e t:=h _
def PA (X:Cx)(es:List YV)(t:TA):Prop:=
 ∀(pos:Pos) (pins:List (W8×Obj)) (s:WT) (σ:St) (H:Hp) (Q:List V->Hp->Prop),az X pins σ H s->t σ H Q->WX (Xg X.prog X.w) X.A (spliced (Zy pos (W7 es X.env))) (AP X pins σ Q) X.xe s
def PS (X:Cx)(st:abx)(t:TS):Prop:=
 ∀(pins:List (W8×Obj)) (s:WT) (σ:St) (H:Hp) (D:pG),az X pins σ H s->t D σ H->WX (Xg X.prog X.w) X.A (exec st X.env) (SP X pins D) X.xe s
def uk (X:Cx)(st:List abx)(t:TS):Prop:=
 ∀(pins:List (W8×Obj)) (s:WT) (σ:St) (H:Hp) (D:pG),az X pins σ H s->t D σ H->WX (Xg X.prog X.w) X.A (execs st X.env) (SP X pins D) X.xe s
theorem dC {α:Type}{t:Sem α}{Q Q':α->WT->Prop}{A:XD}(h:WX M A t Q E s)(hQ:∀a s,Q a s->Q' a s):WX M A t Q' E s:=XQ h hQ λ_ _ x=>x
end L2
variable {X:L2.Cx}{σ:L2.St}{te:L2.TE}
namespace L2
section
theorem V6 {a b:YV}{ta tb:TE}(ha:PE X a ta)(hb:PE X b tb){R:V->V->Hp->Prop}(I:az X pins σ H s)(h:ta σ H λx H1=>tb σ H1 λy H2=>R x y H2){α:Type}{Q:α->WT->Prop}{f:WG->WG->Sem α}(hf:∀v u s2 x y H2,az X pins σ H2 s2->aO x v->aO y u->R x y H2->WX (Xg X.prog X.w) X.A (f v u) Q X.xe s2) :
  WX (Xg X.prog X.w) X.A (aaj a X.env) (λv s₁=>WX (Xg X.prog X.w) X.A (aaj b X.env) (λu s₂=>WX (Xg X.prog X.w) X.A (f v u) Q X.xe s₂) X.xe s₁) X.xe s:=by
 refine dC (ha pins s σ H _ I h) λv s1 ⟨x,H1,I1,r1,q1⟩=>?_;refine dC (hb pins s1 σ H1 _ I1 q1) λu s2 ⟨y,H2,I2,r2,q2⟩=>?_;exact hf v u s2 x y H2 I2 r1 r2 q2
def Ls (i:Nat):TE:=λσ H Q=>∃v,σ[i]? = some (some v)/\Q v H
def tC (v:V):TE:=λ_ H Q=>Q v H
theorem i4 (hN:X.N[i]? = some x)(hv:Dx X.env.scope x)(hd:(x==("__debug__":Str))=false:=by decide)(ny:(x==("__classdict__":Str))=false:=by decide):PE X (.Name x pos) (Ls i):=by
 intro pins s σ H Q I h;obtain⟨v,e,h⟩:=h;obtain⟨m,hn,hl⟩:=I.loc;obtain⟨u,r,l⟩:=hl i x v hN e hv;have fin:EP X pins σ Q u s:=⟨v,H,I,r,h⟩;rcases l with⟨hk,hm⟩|⟨hk,c,hc,vg⟩
 ·exact wpAny_Name (wpAny_loadName_local I.ok.kind hk hn hm fin) hd
 ·rcases hk with hk|hk
  ·exact wpAny_Name (wpAny_loadName_cell I.ok.kind hk hc vg fin) hd
  ·exact wpAny_Name (wpAny_loadName_free I.ok.kind hk hc vg fin ny) hd
theorem DL {i j pos}:PE X (.Constant (.int i) j pos) (tC (.int i)):=λ_ _ _ H _ I h=>wpAny_Constant_int ⟨.int i,H,I.tok _,⟨_,rfl⟩,h⟩
theorem Of {b j pos}:PE X (.Constant (.bool b) j pos) (tC (.bl b)):=λ_ _ _ H _ I h=>Constant_bool ⟨.bl b,H,I,rfl,h⟩
def Gl (X:Cx)(x:Str):Prop:=X.env.kindOf x=some .globalImplicit
theorem Hy {u:WG}(I:az X pins σ H s)(hg:Gl X x)(hm:X.mg x=some u)(h:Q u s)(hd:(x==("__debug__":Str))=false:=by decide):WX (Xg X.prog X.w) X.A (aaj (.Name x pos) X.env) Q E s:=
 abT I.ok.kind hg (Calls.loadGlobal_global (by rw[I.ok.glob];exact I.mod.glob.keeps I.bk) hm h) hd
theorem qE {u:WG}(I:az X pins σ H s)(hg:Gl X x)(hm:X.mg x=none)(hv:XM x=some u)(h:Q u s)(hn:x≠"__name__":=by decide)(hd:(x==("__debug__":Str))=false:=by decide):WX (Xg X.prog X.w) X.A (aaj (.Name x pos) X.env) Q E s:=by
 obtain⟨mb,h1,h2⟩:=I.mod.blt;exact abT I.ok.kind hg (Calls.loadGlobal_builtin (by rw[I.ok.glob];exact I.mod.glob.keeps I.bk) hm (by rw[I.ok.blt];exact h1.keeps I.bk) ((h2 x hn).trans hv) h) hd
theorem Hz {u:WG}(hg:Gl X x)(hm:X.mg x=none)(hv:XM x=some u)(r:aO v u)(hn:x≠"__name__":=by decide)(hd:(x==("__debug__":Str))=false:=by decide):PE X (.Name x pos) (tC v):=
 λ_ _ _ H _ I h=>qE I hg hm hv ⟨v,H,I,r,h⟩ hn hd
variable {a b:YV}{ta tb:TE}
def PC (X:Cx)(op:CmpOp)(a b:YV)(t:TE):Prop:=
 ∀(pins:List (W8×Obj)) (s:WT) (σ:St) (H:Hp) (Q:VK),az X pins σ H s->t σ H Q->
  WX (Xg X.prog X.w) X.A (aaj a X.env) (λv s₁=>WX (Xg X.prog X.w) X.A (aaj b X.env) (λu s₂=>WX (Xg X.prog X.w) X.A (Zc op v u) (EP X pins σ Q) X.xe s₂) X.xe s₁) X.xe s
def tB (t:TE):TT:=λσ H Q=>t σ H λx H1=>∃c,x=.bl c/\Q c H1
theorem RF {t:TE}(h:PC X op a b t)(h1:Z9 op b=false:=by first|exact nobehind _ (by decide) (by decide)|rfl):PT X (.Compare a [op] [b] pos) (tB t):=by
 intro pins s σ H Q I hw;refine wpAny_isTrue_Compare1 (dC (h pins s σ H _ I hw) λv s1 h1=>dC h1 λu s2 h2=>dC h2 λc s3 ⟨x,H1,I1,r1,q1⟩=>?_) h1;obtain⟨d,rfl,q⟩:=q1;cases r1;exact aa2 ⟨H1,I1,q⟩
theorem Lu {e:YV}{t:TE}(h:PE X e t)(he:∀whole,isTrue e X.env whole=(do let v ←whole;standAt e.pos;holding [v] (truthy v)):=by intro _;rfl):PT X e (tB t):=by
 intro pins s σ H Q I hw;refine isTrue_plain (dC (h pins s σ H _ I hw) λv s1 ⟨x,H1,I1,r1,q1⟩=>?_) (he _);obtain⟨d,rfl,q⟩:=q1;cases r1;exact aa2 ⟨H1,I1,q⟩
variable {tA tB':TT}{rest:List YV}
def Tu (t u:TT):TT:=λσ H Q=>t σ H λc H1=>if c=true then Q true H1 else u σ H1 Q
def RG (t:TT):TT:=λσ H Q=>t σ H λc H1=>Q (!c) H1
theorem Lv (ha:PT X a tA):PW X (.BoolOp .Or [a] pos) tA:=by
 intro wh pins s σ H Q I h;refine isTrue_or (dC (ha pins s σ H Q I h) λc s1 e=>?_);cases c with
 |false=>exact isTrue_or_nil e
 |true=>exact e
theorem Og (ha:PT X a tA)(hb:PW X (.BoolOp .Or (b::rest) pos) tB'):PW X (.BoolOp .Or (a::b::rest) pos) (Tu tA tB'):=by
 intro wh pins s σ H Q I h;refine isTrue_or (dC (ha pins s σ H _ I h) λc s1 ⟨H1,I1,q1⟩=>?_);cases c with
 |true=>exact⟨H1,I1,q1⟩
 |false=>exact hb wh pins s1 σ H1 Q I1 q1
theorem Lw (ha:PT X a tA):PT X (.UnaryOp .Not a pos) (RG tA):=by
 intro pins s σ H Q I h;exact isTrue_not (ha pins s σ H (λc H1=>Q (!c) H1) I h)
def UJ (t:TT)(ta tb:TE):TE:=λσ H Q=>t σ H λc H1=>if c=true then ta σ H1 Q else tb σ H1 Q
theorem DM (hc:PT X c tA)(ha:PE X a ta)(hb:PE X b tb):PE X (.IfExp c a b pos) (UJ tA ta tb):=by
 intro pins s σ H Q I h;refine wpAny_IfExp (dC (hc pins s σ H _ I h) λd s1 ⟨H1,I1,q1⟩=>?_);cases d with
 |true=>exact ha pins s1 σ H1 Q I1 q1
 |false=>exact hb pins s1 σ H1 Q I1 q1
end
end L2
namespace L2
def gc (K:WD)(H:Hp)(a:W8)(xs:List V):Prop:=
 Rd H a (.lst xs) \/
  ∃(o:Obj) (au:Array WG) (n:Nat),K.lookup a=some o/\o.cls=.type "list"/\o.dict=none/\o.data=.seq au n/\au.size<=WC/\aW xs au.toList
def gU (K:WD)(H:Hp)(a:W8)(xs:List V):Prop:=
 Rd H a (.tup xs) \/
  ∃(o:Obj) (au:Array WG) (n:Nat),K.lookup a=some o/\o.cls=.type "tuple"/\o.data=.seq au n/\au.size<=WC/\aW xs au.toList
noncomputable def RH:WG->Option V
 | .none=>some .non
 | .bool b=>some (.bl b)
 | .int i _=>some (.int i)
 | .str x _=>some (.str x)
 | .bytes b _=>some (.byt b)
 | .float b _=>some (.flt b)
 | .ref a=>some (.ref a)
 | .type n=>some (.ty n)
 |_=>none
theorem aO.abs {x:V}{u:WG}(r:aO x u):RH u=some x:=by
 cases x with
 |non=>cases r;rfl
 |bl _=>cases r;rfl
 |int _=>obtain⟨t,rfl⟩:=r;rfl
 |str _=>obtain⟨t,rfl⟩:=r;rfl
 |byt _=>obtain⟨t,rfl⟩:=r;rfl
 |flt _=>obtain⟨t,rfl⟩:=r;rfl
 |ref _=>cases r;rfl
 |ty _=>cases r;rfl
theorem aO.inj {x:V}{u:WG}(r:aO x u)(q:aO y u):x=y:=W6 (r.abs.symm.trans q.abs)
theorem aW.inj:∀{xs ys:List V} {us:List WG},aW xs us->aW ys us->xs=ys
 |_,_,_,.nil,.nil=>rfl
 |_,_,_,.cons r t,.cons r' t'=>by rw[r.inj r',aW.inj t t']
section
variable {ys:List V}
theorem gc.of (h:H a=some (.lst xs)):gc K H a xs:=.inl (.inl h)
theorem gU.of (h:H a=some (.tup xs)):gU K H a xs:=.inl (.inl h)
theorem az.list (I:az X pins σ H s)(h:gc X.K H a xs):∃au:List WG,aW xs au/\PlainL s.heap a au.toArray/\xs.length<=WC:=by
 rcases h with h|⟨o,au,n,hk,hc,hd,hs,hz,r⟩
 ·obtain⟨z,au,n,r,e⟩:=h.ok I.hok;exact⟨au,r,⟨_,n,e,rfl,rfl,rfl⟩,z⟩
 ·refine⟨au.toList,r,⟨o,n,I.kIn a o hk,hc,hd,by simpa using hs⟩,?_⟩;have e:=r.length;simp only[WH] at e;lia
theorem az.tuple (I:az X pins σ H s)(h:gU X.K H a xs):∃au:List WG,aW xs au/\IsTup s.heap a au.toArray/\xs.length<=WC:=by
 rcases h with h|⟨o,au,n,hk,hc,hs,hz,r⟩
 ·obtain⟨z,au,r,p,_⟩:=h.ok I.hok;exact⟨au,r,p,z⟩
 ·refine⟨au.toList,r,⟨o,I.kIn a o hk,hc,n,by simpa using hs⟩,?_⟩;have e:=r.length;simp only[WH] at e;lia
theorem az.list_inj (I:az X pins σ H s)(h:gc X.K H a xs)(h':gc X.K H a ys):xs=ys:=by
 obtain⟨au,r,⟨o,n,e,_,_,d⟩,_⟩:=I.list h;obtain⟨its',r',⟨o',n',e',_,_,d'⟩,_⟩:=I.list h';rw[e] at e';cases e';rw[d] at d';injection d' with d1 _
 have:au=its':=by simpa using congrArg Array.toList d1
 subst this;exact r.inj r'
theorem az.tuple_inj (I:az X pins σ H s)(h:gU X.K H a xs)(h':gU X.K H a ys):xs=ys:=by
 obtain⟨au,r,⟨o,e,_,n,d⟩,_⟩:=I.tuple h;obtain⟨its',r',⟨o',e',_,n',d'⟩,_⟩:=I.tuple h';rw[e] at e';cases e';rw[d] at d';injection d' with d1 _
 have:au=its':=by simpa using congrArg Array.toList d1
 subst this;exact r.inj r'
end
noncomputable abbrev Cx.wish (X:Cx)(E:WG->WT->Prop):Cx:={X with xe:=E}
noncomputable abbrev Cx.nox (X:Cx):Cx:=X.wish λ_ _=>False
theorem Cx.Ok.wish (ok:X.Ok)(E:WG->WT->Prop):(X.wish E).Ok:=
 ⟨ok.mod,ok.kind,ok.glob,ok.blt,ok.above,ok.inj,ok.has,ok.cab,ok.hd,ok.frames,ok.stk,ok.exf,ok.bs,ok.bsz,ok.noex,ok.exfs,ok.funs,ok.frf⟩
theorem Cx.Ok.unwish (ok:(X.wish E).Ok):X.Ok:=
 ⟨ok.mod,ok.kind,ok.glob,ok.blt,ok.above,ok.inj,ok.has,ok.cab,ok.hd,ok.frames,ok.stk,ok.exf,ok.bs,ok.bsz,ok.noex,ok.exfs,ok.funs,ok.frf⟩
theorem az.wish (I:az X pins σ H s)(E:WG->WT->Prop):az (X.wish E) pins σ H s:=⟨I.ok.wish E,I.os,I.bare,I.base,I.loc,I.cell,I.free,I.freeC,I.pin,I.hok,I.len⟩
theorem az.unwish (I:az (X.wish E) pins σ H s):az X pins σ H s:=⟨I.ok.unwish,I.os,I.bare,I.base,I.loc,I.cell,I.free,I.freeC,I.pin,I.hok,I.len⟩
theorem SP.unwish {D:pG}{f:Flow}{s':WT}(h:SP (X.wish E) pins D f s'):SP X pins D f s':=by
 cases f with
 |next=>obtain⟨σ',H',I,q⟩:=h;exact⟨σ',H',I.unwish,q⟩
 |brk=>obtain⟨σ',H',I,q⟩:=h;exact⟨σ',H',I.unwish,q⟩
 |cont=>obtain⟨σ',H',I,q⟩:=h;exact⟨σ',H',I.unwish,q⟩
 |ret u=>obtain⟨v,σ',H',I,r,q⟩:=h;exact⟨v,σ',H',I.unwish,r,q⟩
theorem uk.nox {st:List abx}{t:TS}(h:uk X.nox st t):uk X st t:=λpins s σ H D I hw=>
 XQ (h pins s σ H D (I.wish _) hw) (λ_ _ q=>q.unwish) λ_ _ z=>Z_ z
section
variable {rest:List abx}{t u:TS}{e:YV}
def Oh:TS:=λD σ H=>D.nx σ H
def RI (t u:TS):TS:=λD σ H=>t {D with nx:=u D} σ H
theorem HA:uk X [] Oh:=λ_ _ σ H _ I h=>abF ⟨σ,H,I,h⟩
theorem DP (h1:PS X st t)(h2:uk X rest u):uk X (st::rest) (RI t u):=by
 intro pins s σ H D I h;refine wpAny_execs_cons (dC (h1 pins s σ H {D with nx:=u D} I h) λf s1 q=>?_);cases f with
 |next=>
  obtain⟨σ',H',I',q⟩:=q;exact h2 pins s1 σ' H' D I' q
 |ret v=>exact q
 |brk=>exact q
 |cont=>exact q
theorem HB (h1:PS X st t):uk X [st] t:=by
 intro pins s σ H D I h;refine wpAny_execs_cons (dC (h1 pins s σ H D I h) λf s1 q=>?_);cases f with
 |next=>exact abF q
 |ret v=>exact q
 |brk=>exact q
 |cont=>exact q
theorem az.quiet (I:az X pins σ H s):interactive X.env=false:=by simp[interactive,I.ok.kind]
def Oi (te:TE):TS:=λD σ H=>te σ H λ_ H1=>D.nx σ H1
theorem HC (he:PE X e te)(hs:aaI e none pos.line X.env=pure false:=by rfl):PS X (.Expr e pos) (Oi te):=by
 intro pins s σ H D I h;exact wpAny_Expr_any (dC (he pins s σ H _ I h) λv s1 ⟨x,H1,I1,r1,q1⟩=>⟨σ,H1,I1,q1⟩) I.quiet hs
def RJ (te:TE):TS:=λD σ H=>te σ H D.rt
theorem y6 (he:PE X e te):PS X (.Return (some e) pos) (RJ te):=by
 intro pins s σ H D I h;exact wpAny_Return_some (dC (he pins s σ H _ I h) λv s1 ⟨x,H1,I1,r1,q1⟩=>⟨x,σ,H1,I1,r1,q1⟩)
def RK (c:TT)(t u:TS):TS:=λD σ H=>c σ H λb H1=>if b=true then t D σ H1 else u D σ H1
theorem Oj {a b:List abx}{tc:TT}(hc:PT X c tc)(ha:uk X a t)(hb:uk X b u):PS X (.If c a b pos) (RK tc t u):=by
 intro pins s σ H D I h;refine wpAny_If (dC (hc pins s σ H _ I h) λd s1 ⟨H1,I1,q1⟩=>?_);cases d with
 |true=>exact ha pins s1 σ H1 D I1 q1
 |false=>exact hb pins s1 σ H1 D I1 q1
end
abbrev TG:=V->St->Hp->(St->Hp->Prop)->Prop
abbrev HD:=List V->St->Hp->(St->Hp->Prop)->Prop
def PG (X:Cx)(oz:YV)(t:TG):Prop:=
 ∀(pins:List (W8×Obj)) (s:WT) (σ:St) (H:Hp) (v:V) (u:WG) (Q:St->Hp->Prop),az X pins σ H s->aO v u->t v σ H Q->
  WX (Xg X.prog X.w) X.A (assign oz X.env u) (λ_ s'=>∃σ' H',az X pins σ' H' s'/\Q σ' H') X.xe s
def JM (X:Cx)(ts:List YV)(t:HD):Prop:=
 ∀(pins:List (W8×Obj)) (s:WT) (σ:St) (H:Hp) (vs:List V) (us:List WG) (Q:St->Hp->Prop),az X pins σ H s->aW vs us->t vs σ H Q->
  WX (Xg X.prog X.w) X.A (assignInOrder ((ZQ ts X.env).map (·.2)) us) (λ_ s'=>∃σ' H',az X pins σ' H' s'/\Q σ' H') X.xe s
abbrev Lx:=V->V->V->Hp->(Hp->Prop)->Prop
def Ol (X:Cx)(t:Lx):Prop:=
 ∀(pins:List (W8×Obj)) (s:WT) (σ:St) (H:Hp) (o i v:V) (ov iv u:WG) (Q:Hp->Prop),az X pins σ H s->aO o ov->aO i iv->aO v u->t o i v H Q->
  WX (Xg X.prog X.w) X.A (setItem ov iv u) (λ_ s'=>∃H',az X pins σ H' s'/\Q H') X.xe s
def xh (i:Nat):TG:=λv σ H Q=>Q (σ.set i (some v)) H
theorem HF (hN:X.N.Nodup)(hi:X.N[i]? = some x)(hx:Hi X.env.scope x)(hf:X.fn x=true\/X.env.scope.names.lookup x=some .local:=by first|exact .inl rfl|exact .inr rfl|assumption):PG X (.Name x pos) (xh i):=by
 intro pins s σ H v u Q I r h;exact wpAny_assign_Name (mq I hN hi hx r (λs' I'=>⟨_,H,I',h⟩) hf)
def RL:HD:=λvs σ H Q=>vs=[]/\Q σ H
def Om (t:TG)(u:HD):HD:=λvs σ H Q=>∃v r,vs=v::r/\t v σ H λσ' H'=>u r σ' H' Q
theorem HG:JM X [] RL:=by
 intro pins s σ H vs us Q I r h;obtain⟨e,h⟩:=h;subst e;cases r;exact assignInOrder_nil ⟨σ,H,I,h⟩
theorem DQ {e:YV}{es:List YV}{t:TG}{u:HD}(h1:PG X e t)(h2:JM X es u)
  (hs:(ZQ (e::es) X.env).map (·.2)=assign e X.env::(ZQ es X.env).map (·.2):=by rfl):JM X (e::es) (Om t u):=by
 intro pins s σ H vs us Q I r h;obtain⟨v,vr,e1,h⟩:=h;subst e1;cases r with
 |cons r rr=>
  rw[hs];refine abZ (dC (h1 pins s σ H _ _ _ I r h) λ_ s1 ⟨σ1,H1,I1,q1⟩=>?_);exact h2 pins s1 σ1 H1 _ _ Q I1 rr q1
def RM (K:WD)(n:Nat)(t:HD):TG:=λv σ H Q=>∃a xs,v=.ref a/\gU K H a xs/\xs.length=n/\t xs σ H Q
theorem Ly {es:List YV}{t:HD}(hc:X.calm=true)(h:JM X es t)(hn:(ZQ es X.env).length=n:=by rfl)(iZ:(ZQ es X.env).findIdx? (·.1)=none:=by rfl):PG X (.Tuple es k pos) (RM X.K n t):=by
 intro pins s σ H v u Q I r hw;obtain⟨a,xs,e1,hq,hl,hw⟩:=hw;subst e1;cases r;obtain⟨au,rv,ht,hz⟩:=I.tuple hq;refine assign_Tuple_tuple (I.ok.hd hc) ht (by simp[hn,←hl,rv.length]) iZ λh' hx=>?_;have I1:az X pins σ H {s with heap:=h'}:=I.kept (t':=s.toks) λb o e=>hx b o (Xj (WU e)) e;exact h pins _ σ H xs _ Q I1 (by simpa using rv) hw
def RN (to ti:TE)(t:Lx):TG:=λv σ H Q=>to σ H λo H1=>ti σ H1 λi H2=>t o i v H2 λH3=>Q σ H3
theorem Lz {o i:YV}{to ti:TE}{t:Lx}(ho:PE X o to)(hi:PE X i ti)(hs:Ol X t)
  (ha:∀v,assign (.Subscript o i pos) X.env v=(do
   let ov ←holding [v] (aaj o X.env)
   let iv ←holding [v,ov] (aaj i X.env)
   standAt pos
   holding [v,ov,iv] (setItem ov iv v)
   release [v,ov,iv] []):=by intro _;rfl):PG X (.Subscript o i pos) (RN to ti t):=by
 intro pins s σ H v u Q I r h;rw[ha];refine Wv (X0 (dC (ho pins s σ H _ I h) λov s1 ⟨x,H1,I1,r1,q1⟩=>?_));refine Wv (X0 (dC (hi pins s1 σ H1 _ I1 q1) λiv s2 ⟨y,H2,I2,r2,q2⟩=>?_));refine Wv (abz (Wv (X0 (dC (hs pins s2 σ H2 x y v ov iv u _ I2 r1 r2 r q2) λ_ s3 ⟨H3,I3,q3⟩=>?_))));exact wpAny_release ⟨σ,H3,I3,q3⟩
def DR (te:TE)(g:TG):TS:=λD σ H=>te σ H λx H1=>g x σ H1 D.nx
theorem LA {e:YV}{g:TG}(he:PE X e te)(hg:PG X tg g)(hs:swapsWithSole [tg] e pos.line X.env=pure false:=by rfl)(hw:swappedStores [tg] e X.env=pure none:=by rfl)(h1:(ZQ [tg] X.env).map (·.2)=[assign tg X.env]:=by rfl):PS X (.Assign [tg] e pos) (DR te g):=by
 intro pins s σ H D I h;refine wpAny_Assign_stores (dC (he pins s σ H _ I h) λv s1 ⟨x,H1,I1,r1,q1⟩=>?_) hs hw;rw[h1];exact dC (hg pins s1 σ H1 x v _ I1 r1 q1) λ_ s2 q=>q
theorem y7 {e:YV}{ka:Pos}(hN:X.N.Nodup)(hi:X.N[i]? = some x)(hx:Hi X.env.scope x)(he:PE X e te)(hs:aaI e (some (.Name x ka)) pos.line X.env=pure false:=by rfl)(hf:X.fn x=true\/X.env.scope.names.lookup x=some .local:=by first|exact .inl rfl|exact .inr rfl|assumption) :
  PS X (.Assign [.Name x ka] e pos) (DR te (xh i)):=by
 intro pins s σ H D I h;refine wpAny_Assign_Name (dC (he pins s σ H _ I h) λv s1 ⟨y,H1,I1,r1,q1⟩=>?_) hs;exact mq I1 hN hi hx r1 (λs2 I2=>⟨_,H1,I2,q1⟩) hf
def RO (i j:Nat)(ta:TA):TS:=λD σ H=>ta σ H λvs H1=>∃v w,vs=[v,w]/\D.nx ((σ.set i (some v)).set j (some w)) H1
theorem LB {y:Str}{a b:YV}{ta:TA}{px py pt:Pos}{kt k2 pt2}(hc:X.calm=true)(hN:X.N.Nodup)(hi:X.N[i]? = some x)(hj:X.N[j]? = some y)(uh:i≠j)(hx:X.env.scope.names.lookup x=some .local)(hy:X.env.scope.names.lookup y=some .local)(ha:PA X [a,b] ta)(hw:swappedStores [.Tuple [.Name x px,.Name y py] kt pt] (.Tuple [a,b] k2 pt2) X.env=pure (some [x,y]))(hs:swapsWithSole [.Tuple [.Name x px,.Name y py] kt pt] (.Tuple [a,b] k2 pt2) pos.line X.env=pure false:=by rfl) :
  PS X (.Assign [.Tuple [.Name x px,.Name y py] kt pt] (.Tuple [a,b] k2 pt2) pos) (RO i j ta):=by
 intro pins s σ H D I h;rw[exec_Assign_arm];refine Wv (abz ?_);rw[hs];refine Wv (Wy ?_);rw[hV (by decide)];refine Wv (Tuple_ (dC (ha _ pins s σ H _ I h) λus s1 ⟨vs,H1,I1,r1,q1⟩=>?_));obtain⟨v,w,e1,q1⟩:=q1;subst e1;obtain⟨u1,u2,rfl,rv,yW⟩:∃u1 u2,us=[u1,u2]/\aO v u1/\aO w u2:=by
  cases r1 with
  |cons p q=>
   cases q with
   |cons p' q'=>
    cases q';exact⟨_,_,rfl,p,p'⟩
 refine Xi ?_ (by show 2<=WC;decide);have I2:az X pins σ H1 {s1 with heap:=s1.heap.push {cls:=.type "tuple",data:=.seq [u1,u2].toArray}}:=I1.kept (t':=s1.toks) λb o e=>Wz _ e;rw[hw];refine Wv (Wy ?_);show WX (Xg X.prog X.w) X.A (do rule "assign.swapped-stores";let items ←unpackItems (.ref s1.heap.objs.size) 2 none;assignInOrder [λv=>bindName X.env y v,λv=>bindName X.env x v] items.reverse;pure Flow.next) _ _ _;refine Wv (Zz (Wv (unpackItems_tuple (items:=#[u1,u2]) (I.ok.hd hc) (IsTup.new s1.heap _) λh' qB=>?_)));have I3:=I2.kept (h':=h') (t':=s1.toks) λb o e=>qB b o (Xj (WU e)) e;show WX _ _ (assignInOrder [λv=>bindName X.env y v,λv=>bindName X.env x v] [u2,u1] >>= λ_=>pure Flow.next) _ _ _;refine Wv (abZ (wpAny_bindName (mq I3 hN hj (.inl hy) yW (λs2 I4=>?_) (.inr hy))));refine abZ (wpAny_bindName (mq I4 hN hi (.inl hx) rv (λs3 I5=>assignInOrder_nil (Wy ?_)) (.inr hx)));rw[List.set_comm _ _ (Ne.symm uh)] at I5;exact⟨_,H1,I5,q1⟩
def LC (c:TT)(tb:TS):TS:=λD σ H=>∃W:Nat->St->Hp->Prop,(∃m,W m σ H)/\∀m σ H,W m σ H->
 c σ H λb H1=>if b=true then ∃N:St->Hp->Prop,(∀σ' H',N σ' H'->∃m',m'<m/\W m' σ' H')/\tb {D with nx:=N,ct:=N,bk:=D.nx} σ H1 else D.nx σ H1
theorem DV {tc:TT}{tb:TS}(hp:acB (Xg X.prog X.w) X.A X.env X.xe)(hc:PT X c tc)(hb:uk X body tb):PS X (.While c body [] pos) (LC tc tb):=by
 intro pins s σ H D I h;obtain⟨W,⟨m0,w0⟩,turn⟩:=h;refine wpAny_While (codeAny_whileLoop (λn s'=>∃σ' H',az X pins σ' H' s'/\W n σ' H') ?_ m0 ⟨σ,H,I,w0⟩);rintro n s1 ⟨σ1,H1,I1,w1⟩;refine ZA hp (dC (hc pins s1 σ1 H1 _ I1 (turn n σ1 H1 w1)) λb s2 ⟨H2,I2,q2⟩=>?_);cases b with
 |true=>
  obtain⟨N,hN,q2⟩:=q2;rw[hZ rfl];refine ZA hp (dC (hb pins s2 σ1 H2 _ I2 q2) λf s3 q3=>?_);cases f with
  |next=>
   obtain⟨σ3,H3,I3,n3⟩:=q3;obtain⟨m',hm,w3⟩:=hN σ3 H3 n3;exact⟨m',hm,σ3,H3,I3,w3⟩
  |cont=>
   obtain⟨σ3,H3,I3,n3⟩:=q3;obtain⟨m',hm,w3⟩:=hN σ3 H3 n3;exact⟨m',hm,σ3,H3,I3,w3⟩
  |brk=>exact q3
  |ret v=>exact q3
 |false=>
  rw[hV WA];exact abF ⟨σ1,H2,I2,q2⟩
structure It where
 go:Nat->Hp->Prop
 yld:Nat->Hp->V->Hp->Prop
 stop:Nat->Hp->Prop
def pH (X:Cx)(pins:List (W8×Obj))(H:Hp)(b:W8):Prop:=
 H b=none/\b≠X.env.locals/\b∉X.fs/\(b∈X.ex\/X.s₀.heap.objs.size<=b)/\(∀x c,X.env.cells.lookup x=some c->c≠b)/\∀p∈X.pn++pins,p.1≠b
theorem az.fpOk (I:az X pins σ H s)(hb:s.heap.objs.size<=b)(hn:H' b=none):pH X pins H' b:=by
 refine⟨hn,ZK (Xx I.lt hb),I.nofs hb,.inr (XG I.sz hb),λx c e z=>?_,λp hp z=>?_⟩
 ·obtain⟨v,q⟩:=I.cell x c e;exact absurd (Xx q.lt (by rw[z];exact hb)) (YT _)
 ·exact absurd (Xx (WU (I.pin p hp).1) (by rw[z];exact hb)) (YT _)
structure y8 (P:Zx)(w:ZU)(K:WD)(tg:YV)(J:It)(fp:List W8)(it:W8)(tn:Nat->Zv->Prop):Prop where
 mem:it∈fp
 obj:∀i h,tn i h->∀b∈fp,∃o,h.get? b=some o/\∀v,o.data≠.cell v
 keep:∀i h h',tn i h->(∀b∈fp,∀o,h.get? b=some o->h'.get? b=some o)->tn i h'
 item:∀(X:Cx),X.prog=P->X.w=w->X.K=K->X.calm=true->∀(i:Nat) (pins:List (W8×Obj)) (s:WT) (σ:St) (H:Hp) (E:WG->WT->Prop),az X pins σ H s->(∀b∈fp,pH X pins H b)->tn i s.heap->J.go i H->
  WX (Xg P w) X.A (aaB (.ref it)) (λr s1=>∃u,r=some u/\
   WX (Xg P w) X.A (abG tg (.ref it) u) (λ_ s2=>∃x H',az X pins σ H' s2/\aO x u/\J.yld i H x H'/\tn (i+1) s2.heap/\∀b∈fp,H' b=none) E s1) E s
 done:∀(X:Cx),X.prog=P->X.w=w->X.K=K->X.calm=true->∀(i:Nat) (pins:List (W8×Obj)) (s:WT) (σ:St) (H:Hp) (E:WG->WT->Prop),az X pins σ H s->(∀b∈fp,pH X pins H b)->tn i s.heap->J.stop i H->
  WX (Xg P w) X.A (aaB (.ref it)) (λr s1=>r=none/\az X pins σ H s1) E s
 self:∀(A:XD) (i:Nat) (s:WT) (Q:WG->WT->Prop) (E:WG->WT->Prop),tn i s.heap->Q (.ref it) s->WX (Xg P w) A (pyIter (.ref it)) Q E s
abbrev TI:=St->Hp->(It->Hp->Prop)->Prop
def Tv (X:Cx)(pins:List (W8×Obj))(σ:St)(tg:YV)(R:It->Hp->Prop)(Rx:WG)(s2:WT):Prop:=
 ∃(it:W8) (fp:List W8) (tn:Nat->Zv->Prop) (J:It) (H':Hp),Rx=.ref it/\az X pins σ H' s2/\y8 X.prog X.w X.K tg J fp it tn/\tn 0 s2.heap/\(∀b∈fp,pH X pins H' b)/\R J H'
def PI (X:Cx)(tg iter:YV)(wi:TI):Prop:=
 ∀(pins:List (W8×Obj)) (s:WT) (σ:St) (H:Hp) (R:It->Hp->Prop),az X pins σ H s->wi σ H R->
  WX (Xg X.prog X.w) X.A (aaj iter X.env) (λv s1=>WX (Xg X.prog X.w) X.A (pyIter v) (Tv X pins σ tg R) X.xe s1) X.xe s
theorem DX {A:XD}{u:WG}{o:Obj}{n:String}{vs:Array WG}{Q:Unit->WT->Prop}(ho:s.heap.get? it=some o)(hc:o.cls=.type n)(hd:o.data=.fields vs)(hn:["enumerate","zip","dict_itemiterator","dict_reverseitemiterator","odict_iterator","itertools.zip_longest","itertools.pairwise"].contains n=false)(hQ:Q () s):WX M A (abG tg (.ref it) u) Q E s:=by
  unfold abG;cases tg<;>first
    |exact Wy hQ
    | (cases u<;>first
        |exact Wy hQ
        | (refine Wv (wpAny_load ho ?_)
           rw[hc,hd];show WX M A (if (["enumerate","zip","dict_itemiterator","dict_reverseitemiterator","odict_iterator","itertools.zip_longest","itertools.pairwise"].contains n&&vs[0]? == some (abh _))=true then _ else _) Q E s;rw[hV (by intro h;rw[hn,Bool.false_and] at h;cases h)];exact Wy hQ))
noncomputable def Q0 (K:WD)(a:W8):It:=
 ⟨λi H=>∃xs x,gc K H a xs/\xs[i]? = some x,λi H x H'=>H'=H/\∀xs,gc K H a xs->xs[i]? = some x,λi H=>∃xs,gc K H a xs/\xs.length<=i⟩
noncomputable def RP (K:WD)(a:W8):It:=
 ⟨λi H=>∃xs x,gU K H a xs/\xs[i]? = some x,λi H x H'=>H'=H/\∀xs,gU K H a xs->xs[i]? = some x,λi H=>∃xs,gU K H a xs/\xs.length<=i⟩
noncomputable def Q1 (lo:Int)(n:Nat):It:=⟨λi _=>i<n,λi H x H'=>H'=H/\x=.int (lo+i),λi _=>n<=i⟩
theorem Ck (a it:W8):y8 P w K tg (Q0 K a) [it] it (λi h=>h.IsListIter it a i) where
 mem:=by simp
 obj:=λi h st b hb=>by
  have e:b=it:=by simpa using hb
  subst e;obtain⟨o,e,c,d⟩:=st;exact⟨o,e,λv z=>by rw[d] at z;cases z⟩
 keep:=λi h h' st k=>st.at λo e=>k it (by simp) o e
 item:=by
  intro X hP hw hK hc i pins s σ H E I hf st hg;subst hP hw hK;obtain⟨xs,x,hq,hx⟩:=hg;obtain⟨au,rv,p,hz⟩:=I.list hq;obtain⟨u,hu,ru⟩:=rv.get hx;obtain⟨f0,f1,f2,f3,f4,f5⟩:=hf it (by simp);refine wpAny_pyNext_list_item st p.isList (x:=u) (by simpa using hu) λh' aF sb=>?_;have I1:az X pins σ H {s with heap:=h'}:=I.turned (t':=s.toks) (λb o hb e=>(sb.2 b hb).trans e) f0 f1 f3 f4 f5;obtain⟨o,e,c,d⟩:=id aF;exact⟨u,rfl,DX (s:={s with heap:=h'}) e c d (by decide) ⟨x,H,I1,ru,⟨rfl,λys hy=>by rw[I.list_inj hy hq];exact hx⟩,aF,λb hb=>(hf b hb).1⟩⟩
 done:=by
  intro X hP hw hK hc i pins s σ H E I hf st hg;subst hP hw hK;obtain⟨xs,hq,hx⟩:=hg;obtain⟨au,rv,p,hz⟩:=I.list hq;obtain⟨f0,f1,f2,f3,f4,f5⟩:=hf it (by simp);have hl:=rv.length;exact wpAny_pyNext_list_end (I.ok.hd hc) st p.isList (by simp;lia) λh' eb=>⟨rfl,I.turned (t':=s.toks) (λb o hb e=>eb b o hb e) f0 f1 f3 f4 f5⟩
 self:=λ_ _ _ _ _ st h=>wpAny_pyIter_listiter st h
theorem y9 (a it:W8):y8 P w K tg (RP K a) [it] it (λi h=>h.IsTupleIter it a i) where
 mem:=by simp
 obj:=λi h st b hb=>by
  have e:b=it:=by simpa using hb
  subst e;obtain⟨o,e,c,d⟩:=st;exact⟨o,e,λv z=>by rw[d] at z;cases z⟩
 keep:=λi h h' st k=>st.at λo e=>k it (by simp) o e
 item:=by
  intro X hP hw hK hc i pins s σ H E I hf st hg;subst hP hw hK;obtain⟨xs,x,hq,hx⟩:=hg;obtain⟨au,rv,p,hz⟩:=I.tuple hq;obtain⟨u,hu,ru⟩:=rv.get hx;obtain⟨f0,f1,f2,f3,f4,f5⟩:=hf it (by simp);refine wpAny_pyNext_tuple_item st (show s.heap.IsTuple a au.toArray from p) (x:=u) (by simpa using hu) λh' aF sb=>?_;have I1:az X pins σ H {s with heap:=h'}:=I.turned (t':=s.toks) (λb o hb e=>(sb.2 b hb).trans e) f0 f1 f3 f4 f5;obtain⟨o,e,c,d⟩:=id aF;exact⟨u,rfl,DX (s:={s with heap:=h'}) e c d (by decide) ⟨x,H,I1,ru,⟨rfl,λys hy=>by rw[I.tuple_inj hy hq];exact hx⟩,aF,λb hb=>(hf b hb).1⟩⟩
 done:=by
  intro X hP hw hK hc i pins s σ H E I hf st hg;subst hP hw hK;obtain⟨xs,hq,hx⟩:=hg;obtain⟨au,rv,p,hz⟩:=I.tuple hq;obtain⟨f0,f1,f2,f3,f4,f5⟩:=hf it (by simp);have hl:=rv.length;exact wpAny_pyNext_tuple_end (I.ok.hd hc) st (show s.heap.IsTuple a au.toArray from p) (by simp;lia) λh' eb=>⟨rfl,I.turned (t':=s.toks) (λb o hb e=>eb b o hb e) f0 f1 f3 f4 f5⟩
 self:=λ_ _ _ _ _ st h=>wpAny_pyIter_tupleiter st h
theorem y_ (it:W8)(lo:Int)(n:Nat):y8 P w K tg (Q1 lo n) [it] it (λi h=>IsRangeIter h it (lo+(i:Nat)*1) ((n:Int)-(i:Nat)) 1) where
 mem:=by simp
 obj:=λi h st b hb=>by
  have e:b=it:=by simpa using hb
  subst e;exact⟨_,st,λv z=>by
   have z':Data.fields _=Data.cell v:=z;cases z'⟩
 keep:=λi h h' st k=>k it (by simp) _ st
 item:=by
  intro X hP hw hK hc i pins s σ H E I hf st hg;subst hP hw hK;obtain⟨f0,f1,f2,f3,f4,f5⟩:=hf it (by simp);have W:=Walks.range (prog:=X.prog) (w:=X.w) (I.ok.hd hc) it lo 1 n;refine W.item i s _ _ hg st λv h' tk hv aF kk=>?_;obtain⟨t,rfl⟩:=hv;have I1:az X pins σ H {s with heap:=h',toks:=tk}:=I.turned (λb o hb e=>kk b o (by simpa using hb) e) f0 f1 f3 f4 f5;refine⟨_,rfl,DX (s:={s with heap:=h',toks:=tk}) (n:="range_iterator") aF rfl rfl (by decide) ⟨.int (lo+i),H,I1,⟨t,?_⟩,⟨rfl,rfl⟩,aF,λb hb=>(hf b hb).1⟩⟩;rw[Int.mul_one]
 done:=by
  intro X hP hw hK hc i pins s σ H E I hf st hg;subst hP hw hK;obtain⟨f0,f1,f2,f3,f4,f5⟩:=hf it (by simp);exact wpAny_pyNext_range_end (I.ok.hd hc) st (by have:n<=i:=hg;lia) λh' eb=>⟨rfl,I.turned (t':=s.toks) (λb o hb e=>eb b o hb e) f0 f1 f3 f4 f5⟩
 self:=λ_ _ _ _ _ st h=>wpAny_pyIter_rangeiter st h
end L2
variable {wi:L2.TI}
namespace L2
def Oo (K:WD)(tl:TE):TI:=λσ H R=>tl σ H λx H1=>∃a,x=.ref a/\(∃xs,gc K H1 a xs)/\R (Q0 K a) H1
def RQ (K:WD)(tl:TE):TI:=λσ H R=>tl σ H λx H1=>∃a,x=.ref a/\(∃xs,gU K H1 a xs)/\R (RP K a) H1
theorem HH {l:YV}{tl:TE}(hl:PE X l tl):PI X tg l (Oo X.K tl):=by
 intro pins s σ H R I h;refine dC (hl pins s σ H _ I h) λv s1 ⟨x,H1,I1,r1,q1⟩=>?_;obtain⟨a,e,⟨xs,hq⟩,q⟩:=q1;subst e;cases r1;obtain⟨au,rv,p,hz⟩:=I1.list hq;refine aco p.isList ?_;refine⟨s1.heap.objs.size,[s1.heap.objs.size],_,_,H1,rfl,I1.kept (t':=s1.toks) λb o e=>Wz _ e,Ck a _,⟨_,WL _ rfl,rfl,rfl⟩,λb hb=>?_,q⟩;have e:b=s1.heap.objs.size:=by simpa using hb
 subst e;exact I1.fpOk (WK _) (I1.hok.fresh (WK _))
theorem LD {l:YV}{tl:TE}(hl:PE X l tl):PI X tg l (RQ X.K tl):=by
 intro pins s σ H R I h;refine dC (hl pins s σ H _ I h) λv s1 ⟨x,H1,I1,r1,q1⟩=>?_;obtain⟨a,e,⟨xs,hq⟩,q⟩:=q1;subst e;cases r1;obtain⟨au,rv,p,hz⟩:=I1.tuple hq;refine wpAny_pyIter_tuple (show s1.heap.IsTuple a au.toArray from p) ?_;refine⟨s1.heap.objs.size,[s1.heap.objs.size],_,_,H1,rfl,I1.kept (t':=s1.toks) λb o e=>Wz _ e,y9 a _,⟨_,WL _ rfl,rfl,rfl⟩,λb hb=>?_,q⟩;have e:b=s1.heap.objs.size:=by simpa using hb
 subst e;exact I1.fpOk (WK _) (I1.hok.fresh (WK _))
theorem DY {R:It->Hp->Prop}{lo hi:Int}{t u v:Tok}{tk:Nat}(I:az X pins σ H s)(h1 : -(2 ^ 62)<=lo)(h2:lo<2 ^ 62)(h3 : -(2 ^ 62)<=hi)(h4:hi<2 ^ 62)(q:R (Q1 lo (hi-lo).toNat) H):WX (Xg X.prog X.w) X.A (pyIter (.ref s.heap.objs.size)) (Tv X pins σ tg R) E {s with heap:=s.heap.push {cls:=.type "range",data:=.fields #[.int lo t,.int hi u,.int 1 v]},toks:=tk}:=by
 refine wpAny_pyIter_range (IsRange.new ..) (small_one h1 h2 h3 h4) ?_;have I1:az X pins σ H {s with heap:=s.heap.push {cls:=.type "range",data:=.fields #[.int lo t,.int hi u,.int 1 v]},toks:=tk}:=I.kept λb o e=>Wz _ e;refine⟨(s.heap.push {cls:=.type "range",data:=.fields #[.int lo t,.int hi u,.int 1 v]}).objs.size,[(s.heap.push {cls:=.type "range",data:=.fields #[.int lo t,.int hi u,.int 1 v]}).objs.size],_,_,H,rfl,
  I1.kept (t':=tk) λb o e=>Wz _ e,y_ _ lo (hi-lo).toNat,?_,λb hb=>?_,q⟩
 ·have e1:lo+((0:Nat):Int)*1=lo:=by simp
  have e2:(((hi-lo).toNat:Nat):Int)-((0:Nat):Int)=aaJ lo hi 1:=by rw[rangeSize_one];split<;>lia
  show IsRangeIter _ _ (lo+((0:Nat):Int)*1) ((((hi-lo).toNat:Nat):Int)-((0:Nat):Int)) 1;rw[e1,e2];exact WL _ rfl
 ·have e:b=(s.heap.push {cls:=.type "range",data:=.fields #[.int lo t,.int hi u,.int 1 v]}).objs.size:=by simpa using hb
  subst e;exact I1.fpOk (WK _) (I1.hok.fresh (WK _))
def Oq (ta:TA):TI:=λσ H R=>ta σ H λvs H1=>∃j:Int,vs=[.int j]/\ -(2 ^ 62)<=j/\j<2 ^ 62/\R (Q1 0 j.toNat) H1
theorem Cm {a:YV}{ta:TA}{p:Pos}(hg:Gl X "range")(hm:X.mg "range"=none)(ha:PA X [a] ta)(hs:W7 [a] X.env=[(false,aaj a X.env)]:=by rfl):PI X tg (.Call (.Name "range" p) [a] [] pos) (Oq ta):=by
 intro pins s σ H R I h;refine Call_ (qE I hg hm boot_range (ZX (dC (ha pos pins s σ H _ I h) λus s1 ⟨vs,H1,I1,r1,q1⟩=>?_) hs rfl));obtain⟨j,e,q1,q2,q⟩:=q1;subst e;cases r1 with
 |cons r rr=>
  cases rr;obtain⟨t,rfl⟩:=r;exact call_range_1 (DY I1 (by lia) (by lia) q1 q2 (by simpa using q))
def RS (wi:TI)(g:TG)(tb:TS):TS:=λD σ H=>wi σ H λJ H1=>∃W:Nat->Nat->St->Hp->Prop,(∃m,W 0 m σ H1)/\∀i m σ H,W i m σ H->
 (J.stop i H/\D.nx σ H)\/(J.go i H/\∃N:St->Hp->Prop,(∀σ' H',N σ' H'->∃m',m'<m/\W (i+1) m' σ' H')/\∀x H',J.yld i H x H'->g x σ H' λσ2 H2=>tb {D with nx:=N,ct:=N,bk:=D.nx} σ2 H2)
noncomputable def qF (fp:List W8)(h:Zv):List (W8×Obj):=fp.filterMap λb=>(h.get? b).map λo=>(b,o)
theorem jB {o:Obj}(hb:b∈fp)(e:h.get? b=some o):(b,o)∈qF fp h:=ab0.mpr ⟨b,hb,by rw[e];rfl⟩
theorem Co {p:W8×Obj}(hp:p∈qF fp h):p.1∈fp/\h.get? p.1=some p.2:=by
 obtain⟨b,hb,e⟩:=ab0.mp hp;cases q:h.get? b with
 |none=>rw[q] at e;cases e
 |some o=>
  rw[q] at e;have e':(b,o)=p:=W6 e;subst e';exact⟨hb,q⟩
theorem az.pinned (I:az X pins σ H s)(hf:∀b∈fp,pH X pins H b)(ho:∀b∈fp,∃o,s.heap.get? b=some o/\∀v,o.data≠.cell v):az X (pins++qF fp s.heap) σ H s:=
 I.pins_of λp hp=>(Xa.mp hp).elim (λz=>I.pin p (Xl _ z)) λz=>by
  obtain⟨hb,e⟩:=Co z;obtain⟨f0,f1,f2,_⟩:=hf p.1 hb;obtain⟨o,e',d⟩:=ho p.1 hb;rw[e] at e';cases e';exact⟨e,f0,f1,f2,d⟩
theorem az.unpinned {pl:List (W8×Obj)}(I:az X (pins++pl) σ H s):az X pins σ H s:=I.pins_of λp hp=>I.pin p (Xl _ (YF _ hp))
theorem LF {g:TG}{tb:TS}(hp:acB (Xg X.prog X.w) X.A X.env X.xe)(hc:X.calm=true)(hi:PI X tg iter wi)(hg:PG X tg g)(hb:uk X body tb)(hs:∀x,YR iter X.env x=pure x:=by intro _;rfl):PS X (.For tg iter body [] pos) (RS wi g tb):=by
 intro pins s σ H D I h;refine wpAny_For (dC (hi pins s σ H _ I h) λv s1 h1=>dC h1 λRx s2 h2=>?_) hs;obtain⟨it,fp,tn,J,H2,e,I2,T,ki,f2,W,⟨m0,w0⟩,turn⟩:=h2;subst e;have NB:∀{H':Hp},(∀b∈fp,H' b=none)->∀b∈fp,pH X pins H' b:=λhn b hb=>⟨hn b hb,(f2 b hb).2⟩;refine codeAny_forLoop_any (λn s'=>∃i σ' H',az X pins σ' H' s'/\tn i s'.heap/\(∀b∈fp,H' b=none)/\W i n σ' H') ?_ m0 ⟨0,σ,H2,I2,ki,λb hb=>(f2 b hb).1,w0⟩;rintro n s3 ⟨i,σ3,H3,I3,Hs,fr3,w3⟩;rcases turn i n σ3 H3 w3 with⟨stop,qn⟩|⟨go,N,hN,step⟩
 ·refine ZA hp (dC (T.done X rfl rfl rfl hc i pins s3 σ3 H3 X.xe I3 (NB fr3) Hs stop) λr s4 ⟨hr,I4⟩=>?_);subst hr;exact abF ⟨σ3,H3,I4,qn⟩
 ·refine ZA hp (dC (T.item X rfl rfl rfl hc i pins s3 σ3 H3 X.xe I3 (NB fr3) Hs go) λr s4 ⟨u,hr,h4⟩=>?_);subst hr;refine ZA hp (dC h4 λ_ s5 ⟨x,H5,I5,r5,y5,st5,fr5⟩=>?_);have SX:=I5.pinned (NB fr5) (T.obj _ _ st5);refine ZA hp (dC (hg _ s5 σ3 H5 x u _ SX r5 (step x H5 y5)) λ_ s6 ⟨σ6,H6,I6,q6⟩=>?_);refine ZA hp (dC (hb _ s6 σ6 H6 _ I6 q6) λf s7 q7=>?_);have again:∀{σ7:St} {H7:Hp},az X (pins++qF fp s5.heap) σ7 H7 s7->N σ7 H7->∃m,m<n/\∃i σ' H',az X pins σ' H' s7/\tn i s7.heap/\(∀b∈fp,H' b=none)/\W i m σ' H':=λ{σ7 H7} I7 n7=>by
   obtain⟨m',hm,w7⟩:=hN σ7 H7 n7;refine⟨m',hm,i+1,σ7,H7,I7.unpinned,T.keep _ _ _ st5 λb hb o e=>(I7.pin (b,o) (Xl _ (Xl _ (jB hb e)))).1,λb hb=>?_,w7⟩;obtain⟨o,e,d⟩:=T.obj _ _ st5 b hb;exact (I7.pin (b,o) (Xl _ (Xl _ (jB hb e)))).2.1
  cases f with
  |next=>obtain⟨σ7,H7,I7,n7⟩:=q7;exact again I7 n7
  |cont=>obtain⟨σ7,H7,I7,n7⟩:=q7;exact again I7 n7
  |brk=>obtain⟨σ7,H7,I7,q7⟩:=q7;exact⟨σ7,H7,I7.unpinned,q7⟩
  |ret v=>obtain⟨x7,σ7,H7,I7,r7,q7⟩:=q7;exact⟨x7,σ7,H7,I7.unpinned,r7,q7⟩
end L2
namespace L2
abbrev R2:=V->V->Hp->VK->Prop
def lL (X:Cx)(f:WG->WG->Sem WG)(r:R2):Prop:=
 ∀(pins:List (W8×Obj)) (s:WT) (σ:St) (H:Hp) (x y:V) (v u:WG) (Q:VK),az X pins σ H s->aO x v->aO y u->r x y H Q->
  WX (Xg X.prog X.w) X.A (f v u) (EP X pins σ Q) X.xe s
def Q2 (X:Cx)(f:WG->Sem WG)(r:V->Hp->VK->Prop):Prop:=
 ∀(pins:List (W8×Obj)) (s:WT) (σ:St) (H:Hp) (x:V) (v:WG) (Q:VK),az X pins σ H s->aO x v->r x H Q->
  WX (Xg X.prog X.w) X.A (f v) (EP X pins σ Q) X.xe s
def eE (X:Cx)(f:WG)(r:List V->Hp->VK->Prop):Prop:=
 ∀(pins:List (W8×Obj)) (s:WT) (σ:St) (H:Hp) (xs:List V) (us:List WG) (Q:VK),az X pins σ H s->aW xs us->r xs H Q->
  WX (Xg X.prog X.w) X.A (call f us) (EP X pins σ Q) X.xe s
def RT (X:Cx)(r:V->Hp->(Bool->Hp->Prop)->Prop):Prop:=
 ∀(pins:List (W8×Obj)) (s:WT) (σ:St) (H:Hp) (x:V) (v:WG) (Q:Bool->Hp->Prop),az X pins σ H s->aO x v->r x H Q->
  WX (Xg X.prog X.w) X.A (truthy v) (TP X pins σ Q) X.xe s
def Ot (r:R2)(ta tb:TE):TE:=λσ H Q=>ta σ H λx H1=>tb σ H1 λy H2=>r x y H2 Q
def Tw (r:V->Hp->VK->Prop)(ta:TE):TE:=λσ H Q=>ta σ H λx H1=>r x H1 Q
def rI (C:Int->Int->Prop)(g:Int->Int->V):R2:=λx y H Q=>∃i j,x=.int i/\y=.int j/\C i j/\Q (g i j) H
def Cp (g:Int->Int->V):R2:=λx y H Q=>∃i j,x=.int i/\y=.int j/\Q (g i j) H
def rU (g:Int->V):V->Hp->VK->Prop:=λx H Q=>∃i,x=.int i/\Q (g i) H
section
variable {a b:YV}{ta tb tc:TE}
theorem LG (ha:PE X a ta)(hb:PE X b tb){R:V->V->Hp->Prop}(I:az X pins σ H s)(h:ta σ H λx H1=>tb σ H1 λy H2=>R x y H2){f:WG->WG->Sem WG}(hf:∀v u s2 x y H2,az X pins σ H2 s2->aO x v->aO y u->R x y H2->WX (Xg X.prog X.w) X.A (f v u) Q X.xe s2) :
  WX (Xg X.prog X.w) X.A (aaj a X.env) (λv s₁=>WX (Xg X.prog X.w) X.A (aaj b X.env) (λu s₂=>WX (Xg X.prog X.w) X.A (f v u) Q X.xe s₂) X.xe s₁) X.xe s:=by
 refine dC (ha pins s σ H _ I h) λv s1 ⟨x,H1,I1,r1,q1⟩=>?_;refine dC (hb pins s1 σ H1 _ I1 q1) λu s2 ⟨y,H2,I2,r2,q2⟩=>?_;exact hf v u s2 x y H2 I2 r1 r2 q2
theorem Ou {op:Operator}{r:R2}(ho:lL X (aar op) r)(ha:PE X a ta)(hb:PE X b tb):PE X (.BinOp a op b pos) (Ot r ta tb):=by
 intro pins s σ H Q I h;exact wpAny_BinOp (LG ha hb I h λv u s2 x y H2 I2 rx ry q=>ho pins s2 σ H2 x y v u Q I2 rx ry q)
theorem Ov {op:UnaryOp}{r:V->Hp->VK->Prop}(ho:Q2 X (unaryOp op) r)(ha:PE X a ta):PE X (.UnaryOp op a pos) (Tw r ta):=by
 intro pins s σ H Q I h;exact UnaryOp_ (dC (ha pins s σ H _ I h) λv s1 ⟨x,H1,I1,r1,q1⟩=>ho pins s1 σ H1 x v Q I1 r1 q1)
theorem Q3 {f:WG->WG->Sem WG}{C:Int->Int->Prop}{g:Int->Int->Int}
  (rule:∀(i j:Int) (t u:Tok) (s:WT) (Q:WG->WT->Prop) (E:WG->WT->Prop),C i j->Q (.int (g i j) s.toks) {s with toks:=s.toks+1}->WX (Xg X.prog X.w) X.A (f (.int i t) (.int j u)) Q E s) :
  lL X f (rI C λi j=>.int (g i j)):=by
 intro pins s σ H x y v u Q I rx ry h;obtain⟨i,j,rfl,rfl,hc,q⟩:=h;obtain⟨t,rfl⟩:=rx;obtain⟨t',rfl⟩:=ry;exact rule i j t t' s _ _ hc ⟨.int (g i j),H,I.tok _,⟨_,rfl⟩,q⟩
theorem Ow {f:WG->WG->Sem WG}{g:Int->Int->Int}
  (rule:∀(i j:Int) (t u:Tok) (s:WT) (Q:WG->WT->Prop) (E:WG->WT->Prop),Q (.int (g i j) s.toks) {s with toks:=s.toks+1}->WX (Xg X.prog X.w) X.A (f (.int i t) (.int j u)) Q E s) :
  lL X f (Cp λi j=>.int (g i j)):=by
 intro pins s σ H x y v u Q I rx ry h;obtain⟨i,j,rfl,rfl,q⟩:=h;obtain⟨t,rfl⟩:=rx;obtain⟨t',rfl⟩:=ry;exact rule i j t t' s _ _ ⟨.int (g i j),H,I.tok _,⟨_,rfl⟩,q⟩
theorem LH {f:WG->WG->Sem WG}{g:Int->Int->Bool}
  (rule:∀(i j:Int) (t u:Tok) (s:WT) (Q:WG->WT->Prop) (E:WG->WT->Prop),Q (.bool (g i j)) s->WX (Xg X.prog X.w) X.A (f (.int i t) (.int j u)) Q E s) :
  lL X f (Cp λi j=>.bl (g i j)):=by
 intro pins s σ H x y v u Q I rx ry h;obtain⟨i,j,rfl,rfl,q⟩:=h;obtain⟨t,rfl⟩:=rx;obtain⟨t',rfl⟩:=ry;exact rule i j t t' s _ _ ⟨.bl (g i j),H,I,rfl,q⟩
def Ox (i j:Int):Prop:=0<=j/\j<=1000000/\i.natAbs<2 ^ 64
def HJ (i j:Int):Prop:=(-(2 ^ 64)<i/\i<2 ^ 64)\/(-(2 ^ 64)<j/\j<2 ^ 64)
theorem HJ.ok {i j:Int}(h:HJ i j):IntMulOk i j:=by
 rcases h with⟨h1,h2⟩|⟨h1,h2⟩
 ·exact .of_left (intBits_le_64 h1 h2)
 ·exact .of_right (intBits_le_64 h1 h2)
theorem LJ:lL X (aar .Add) (Cp λi j=>.int (i+j)):=Ow λ_ _ _ _ _ _ _ q=>add_int q
theorem DZ:lL X (aar .Sub) (Cp λi j=>.int (i-j)):=Ow λ_ _ _ _ _ _ _ q=>sub_int q
theorem eo:lL X (aar .Mult) (rI HJ λi j=>.int (i*j)):=Q3 λ_ _ _ _ _ _ _ hc q=>mul_int q hc.ok
theorem kj:lL X (aar .Mod) (rI (λ_ j=>0<j) λi j=>.int (i % j)):=Q3 λi j _ _ _ _ _ hc q=>by
 have h1:(0:Int)<j:=hc;exact mod_int' (by lia) (by rw[Int.fmod_eq_emod_of_nonneg i (by lia)];exact q)
theorem D3:lL X (aar .Pow) (rI Ox λi j=>.int (i ^ j.toNat)):=Q3 λ_ _ _ _ _ _ _ hc q=>pow_int_small hc.1 hc.2.1 hc.2.2 q
theorem UK {f:WG->Sem WG}{g:Int->Int}
  (rule:∀(i:Int) (t:Tok) (s:WT) (Q:WG->WT->Prop) (E:WG->WT->Prop),Q (.int (g i) s.toks) {s with toks:=s.toks+1}->WX (Xg X.prog X.w) X.A (f (.int i t)) Q E s) :
  Q2 X f (rU λi=>.int (g i)):=by
 intro pins s σ H x v Q I rx h;obtain⟨i,rfl,q⟩:=h;obtain⟨t,rfl⟩:=rx;exact rule i t s _ _ ⟨.int (g i),H,I.tok _,⟨_,rfl⟩,q⟩
theorem LK:Q2 X (unaryOp .USub) (rU λi=>.int (-i)):=UK λ_ _ _ _ _ q=>neg_int q
end
noncomputable def Oy:V->V->Bool
 | .non,.non=>true|.non,.int _=>true|.int _,.non=>true|.non,.bl _=>true|.bl _,.non=>true|.non,.str _=>true|.str _,.non=>true
 | .int _,.int _=>true|.bl _,.bl _=>true|.str _,.str _=>true|.byt _,.byt _=>true
 | .int _,.str _=>true|.str _,.int _=>true|.bl _,.str _=>true|.str _,.bl _=>true
 |_,_=>false
def Tx:R2:=λx y H Q=>Oy x y=true/\Q (.bl (decide (x=y))) H
def Tz:R2:=λx y H Q=>Oy x y=true/\Q (.bl (!decide (x=y))) H
theorem qe {i j:Int}:decide (V.int i=V.int j)=(i==j):=by
 rw[Yj];simp
theorem vn {i j:Bool}:decide (V.bl i=V.bl j)=(i==j):=by
 rw[Yj];simp
theorem qf {i j:Str}:decide (V.str i=V.str j)=(i==j):=by
 rw[Yj];simp
theorem AD {i j:Array UInt8}:decide (V.byt i=V.byt j)=(i.toList==j.toList):=by
 rw[Yj];cases i;cases j;simp
section
variable {a b:YV}{ta tb tc:TE}
theorem br {Q:VK}{k k':Bool}(I:az X pins σ H s)(q:Q (.bl k) H)(e:k=k'):EP X pins σ Q (.bool k') s:=by
 subst e;exact⟨.bl k,H,I,rfl,q⟩
theorem qG:lL X (Zc .Eq) Tx:=by
 intro pins s σ H x y v u Q I rx ry h;obtain⟨hs,q⟩:=h;cases x with
 |non=>
  cases rx;cases y with
  |non=>cases ry;exact PySem.EqNone.eq_none_none (br I q (by simp))
  |bl j=>cases ry;exact PySem.EqNone.eq_none_bool (br I q (by simp))
  |int j=>obtain⟨t',rfl⟩:=ry;exact PySem.EqNone.eq_none_int (br I q (by simp))
  |str j=>obtain⟨t',rfl⟩:=ry;exact PySem.EqNone.eq_none_str (br I q (by simp))
  |_=>exact absurd (show false=true from hs) WA
 |bl i=>
  cases rx;cases y with
  |non=>cases ry;exact PySem.EqNone.eq_bool_none (br I q (by simp))
  |bl j=>cases ry;exact eq_bool (br I q vn)
  |str j=>obtain⟨t',rfl⟩:=ry;exact PySem.EqMixed.eq_bool_str (br I q (by simp))
  |_=>exact absurd (show false=true from hs) WA
 |int i=>
  obtain⟨t,rfl⟩:=rx;cases y with
  |non=>cases ry;exact PySem.EqNone.eq_int_none (br I q (by simp))
  |int j=>obtain⟨t',rfl⟩:=ry;exact eq_int (br I q qe)
  |str j=>obtain⟨t',rfl⟩:=ry;exact PySem.EqMixed.eq_int_str (br I q (by simp))
  |_=>exact absurd (show false=true from hs) WA
 |str i=>
  obtain⟨t,rfl⟩:=rx;cases y with
  |non=>cases ry;exact PySem.EqNone.eq_str_none (br I q (by simp))
  |bl j=>cases ry;exact PySem.EqMixed.eq_str_bool (br I q (by simp))
  |int j=>obtain⟨t',rfl⟩:=ry;exact PySem.EqMixed.eq_str_int (br I q (by simp))
  |str j=>obtain⟨t',rfl⟩:=ry;exact eq_str (br I q qf)
  |_=>exact absurd (show false=true from hs) WA
 |byt i=>
  obtain⟨t,rfl⟩:=rx;cases y with
  |byt j=>obtain⟨t',rfl⟩:=ry;exact PySem.W.eq_bytes (br I q AD)
  |_=>exact absurd (show false=true from hs) WA
 |_=>cases y<;>exact absurd (show false=true from hs) WA
theorem Oz:lL X (Zc .NotEq) Tz:=by
 intro pins s σ H x y v u Q I rx ry h;obtain⟨hs,q⟩:=h;cases x with
 |non=>
  cases rx;cases y with
  |non=>cases ry;exact PySem.EqNone.ne_none_none (br I q (by simp))
  |bl j=>cases ry;exact PySem.EqNone.ne_none_bool (br I q (by simp))
  |int j=>obtain⟨t',rfl⟩:=ry;exact PySem.EqNone.ne_none_int (br I q (by simp))
  |str j=>obtain⟨t',rfl⟩:=ry;exact PySem.EqNone.ne_none_str (br I q (by simp))
  |_=>exact absurd (show false=true from hs) WA
 |bl i=>
  cases rx;cases y with
  |non=>cases ry;exact PySem.EqNone.ne_bool_none (br I q (by simp))
  |bl j=>cases ry;exact ne_bool (br I q (congrArg not vn))
  |str j=>obtain⟨t',rfl⟩:=ry;exact PySem.EqMixed.ne_bool_str (br I q (by simp))
  |_=>exact absurd (show false=true from hs) WA
 |int i=>
  obtain⟨t,rfl⟩:=rx;cases y with
  |non=>cases ry;exact PySem.EqNone.ne_int_none (br I q (by simp))
  |int j=>obtain⟨t',rfl⟩:=ry;exact ne_int (br I q (congrArg not qe))
  |str j=>obtain⟨t',rfl⟩:=ry;exact PySem.EqMixed.ne_int_str (br I q (by simp))
  |_=>exact absurd (show false=true from hs) WA
 |str i=>
  obtain⟨t,rfl⟩:=rx;cases y with
  |non=>cases ry;exact PySem.EqNone.ne_str_none (br I q (by simp))
  |bl j=>cases ry;exact PySem.EqMixed.ne_str_bool (br I q (by simp))
  |int j=>obtain⟨t',rfl⟩:=ry;exact PySem.EqMixed.ne_str_int (br I q (by simp))
  |str j=>obtain⟨t',rfl⟩:=ry;exact ne_str (br I q (congrArg not qf))
  |_=>exact absurd (show false=true from hs) WA
 |byt i=>
  obtain⟨t,rfl⟩:=rx;cases y with
  |byt j=>obtain⟨t',rfl⟩:=ry;exact PySem.W.ne_bytes (br I q (congrArg not AD))
  |_=>exact absurd (show false=true from hs) WA
 |_=>cases y<;>exact absurd (show false=true from hs) WA
theorem AE:lL X (Zc .Lt) (Cp λi j=>.bl (decide (i<j))):=LH λ_ _ _ _ _ _ _ q=>lt_int q
theorem OA:lL X (Zc .Gt) (Cp λi j=>.bl (decide (j<i))):=LH λ_ _ _ _ _ _ _ q=>gt_int q
theorem OB:lL X (Zc .GtE) (Cp λi j=>.bl (decide (j<=i))):=LH λ_ _ _ _ _ _ _ q=>ge_int q
theorem lL.or {f:WG->WG->Sem WG}{r r':R2}(h:lL X f r)(h':lL X f r'):lL X f (λx y H Q=>r x y H Q\/r' x y H Q):=by
 intro pins s σ H x y v u Q I rx ry q;rcases q with q|q
 ·exact h pins s σ H x y v u Q I rx ry q
 ·exact h' pins s σ H x y v u Q I rx ry q
theorem dP (b:YV)(h:op≠.In:=by decide)(h2:op≠.NotIn:=by decide):Z9 op b=false:=by
 have e1:(op==CmpOp.In)=false:=by cases op<;>first|rfl|exact absurd rfl h
 have e2:(op==CmpOp.NotIn)=false:=by cases op<;>first|rfl|exact absurd rfl h2
 cases b<;>simp[Z9,e1,e2]
theorem HK {r:R2}(ho:lL X (Zc op) r)(ha:PE X a ta)(hb:PE X b tb)(hm:Z9 op b=false):PE X (.Compare a [op] [b] pos) (Ot r ta tb):=by
 intro pins s σ H Q I h;exact wpAny_Compare1 (LG ha hb I h λv u s2 x y H2 I2 rx ry q=>ho pins s2 σ H2 x y v u Q I2 rx ry q) hm
def OC (t:TE):TT:=λσ H Q=>t σ H λx H'=>∃k,x=.bl k/\Q k H'
theorem HL {r:R2}(ho:lL X (Zc op) r)(ha:PE X a ta)(hb:PE X b tb)(hm:Z9 op b=false):PT X (.Compare a [op] [b] pos) (OC (Ot r ta tb)):=by
 intro pins s σ H Q I h;refine wpAny_isTrue_Compare1 (dC (ha pins s σ H _ I h) λv s1 ⟨x,H1,I1,r1,q1⟩=>dC (hb pins s1 σ H1 _ I1 q1) λu s2 ⟨y,H2,I2,r2,q2⟩=>
  dC (ho pins s2 σ H2 x y v u _ I2 r1 r2 q2) λc s3 ⟨z,H3,I3,r3,k,e,q3⟩=>?_) hm
 subst e;cases r3;exact aa2 ⟨H3,I3,q3⟩
def RU (K:WD)(x:V)(H:Hp)(k:Bool):Prop:=
 match x with
 | .non=>k=false
 | .bl b=>k=b
 | .int i=>k=(i != 0)
 | .str y=>y.length<=WC/\k=((y.length:Int) != 0)
 | .byt y=>y.size<=WC/\k=((y.size:Int) != 0)
 | .ref p=>(∃xs,gc K H p xs/\k = !xs.isEmpty)\/(∃xs,gU K H p xs/\k = !xs.isEmpty)\/∃aL,H p=some (.dK aL)/\k = !aL.isEmpty
 |_=>False
theorem zc {κ:Type}{aL:List (κ×V)}{vs:List (κ×WG)}(r:KV aL vs):(!vs.isEmpty) = !aL.isEmpty:=by
 cases r<;>rfl
theorem qH (r:aW xs au):(!au.toArray.isEmpty) = !xs.isEmpty:=by
 cases r<;>simp
theorem nG:(WC:Nat)<2 ^ 63:=by rw[YA];decide
theorem RV:RT X (λx H Q=>∃k,RU X.K x H k/\Q k H):=by
 intro pins s σ H x v Q I rx h;obtain⟨k,e,q⟩:=h;have hl:=nG;have hs:WC=16777216:=YA;cases x with
 |non=>
  cases rx;have e':k=false:=e;subst e';exact truthy_none ⟨H,I,q⟩
 |bl b=>
  cases rx;have e':k=b:=e;subst e';exact aa2 ⟨H,I,q⟩
 |int i=>
  obtain⟨t,rfl⟩:=rx;have e':k=(i != 0):=e;subst e';exact PySem.P.truthy_int ⟨H,I,q⟩
 |str y=>
  obtain⟨t,rfl⟩:=rx;obtain⟨hy,e'⟩:y.length<=WC/\k=((y.length:Int) != 0):=e;subst e';exact PySem.P.truthy_str (by lia) ⟨H,I.tok _,q⟩
 |byt y=>
  obtain⟨t,rfl⟩:=rx;obtain⟨hy,e'⟩:y.size<=WC/\k=((y.size:Int) != 0):=e;subst e';exact PySem.W.truthy_bytes (by lia) ⟨H,I.tok _,q⟩
 |ref p=>
  cases rx;have e':(∃xs,gc X.K H p xs/\k = !xs.isEmpty)\/(∃xs,gU X.K H p xs/\k = !xs.isEmpty)\/∃aL,H p=some (.dK aL)/\k = !aL.isEmpty:=e;rcases e' with⟨xs,hx,e'⟩|⟨xs,hx,e'⟩|⟨aL,hx,e'⟩
  ·subst e';obtain⟨au,r,pl,hz⟩:=I.list hx;have c7:=r.length;exact wpAny_truthy_list pl.isList (by simp only[WJ];lia) ⟨H,I.tok _,by rw[qH r];exact q⟩
  ·subst e';obtain⟨au,r,pl,hz⟩:=I.tuple hx;have c7:=r.length;exact truthy_tuple pl (by simp only[WJ];lia) ⟨H,I.tok _,by rw[qH r];exact q⟩
  ·subst e';obtain⟨hz,hS,vs,r,m⟩:aL.length<=WC/\(p==Yv)=false/\∃vs,KV aL vs/\s.heap.DictOf (cF X.prog X.w) p vs:=I.hok p _ hx;have c7:aL.length=vs.length:=Z8 r;exact wpAny_truthy_dict hS m (by lia) ⟨H,I.tok _,by rw[zc r];exact q⟩
 |_=>exact (show False from e).elim
theorem jf {x:V}{us:List WG}(r:aW [x] us):∃u,us=[u]/\aO x u:=by
 cases r with
 |cons r1 r2=>cases r2;exact⟨_,rfl,r1⟩
theorem D4 {x:V}{us:List WG}(r:aW [x,y] us):∃u w',us=[u,w']/\aO x u/\aO y w':=by
 cases r with
 |cons r1 r2=>
  cases r2 with
  |cons r3 r4=>cases r4;exact⟨_,_,rfl,r1,r3⟩
theorem mw:eE X (.builtin "abs") (λxs H Q=>∃i,xs=[.int i]/\Q (.int (if i<0 then -i else i)) H):=by
 intro pins s σ H xs us Q I r h;obtain⟨i,rfl,q⟩:=h;obtain⟨u,rfl,t,rfl⟩:=jf r;exact call_abs_int λu tk=>⟨.int (if i<0 then -i else i),H,I.tok _,⟨_,rfl⟩,q⟩
theorem Cq (hc:X.calm=true):eE X (.builtin "max") (λxs H Q=>∃i j,xs=[.int i,.int j]/\Q (.int (if j>i then j else i)) H):=by
 intro pins s σ H xs us Q I r h;obtain⟨i,j,rfl,q⟩:=h;obtain⟨u,w',rfl,⟨t,rfl⟩,⟨t',rfl⟩⟩:=D4 r;refine max_two_ints (I.ok.hd hc) λh' tk k=>⟨_,H,I.kept k,?_,q⟩;by_cases hj:j>i
 ·rw[hZ hj,hZ hj];exact⟨_,rfl⟩
 ·rw[hV hj,hV hj];exact⟨_,rfl⟩
theorem um (hc:X.calm=true):eE X (.builtin "min") (λxs H Q=>∃i j,xs=[.int i,.int j]/\Q (.int (if j<i then j else i)) H):=by
 intro pins s σ H xs us Q I r h;obtain⟨i,j,rfl,q⟩:=h;obtain⟨u,w',rfl,⟨t,rfl⟩,⟨t',rfl⟩⟩:=D4 r;refine min_two_ints (I.ok.hd hc) λh' tk k=>⟨_,H,I.kept k,?_,q⟩;by_cases hj:j<i
 ·rw[hZ hj,hZ hj];exact⟨_,rfl⟩
 ·rw[hV hj,hV hj];exact⟨_,rfl⟩
theorem Cr:eE X (.type "int") (λxs H Q=>(∃i,xs=[.int i]/\Q (.int i) H)\/∃k,xs=[.bl k]/\Q (.int (if k then 1 else 0)) H):=by
 intro pins s σ H xs us Q I r h;rcases h with⟨i,rfl,q⟩|⟨k,rfl,q⟩
 ·obtain⟨u,rfl,t,rfl⟩:=jf r;exact call_int_int ⟨.int i,H,I,⟨_,rfl⟩,q⟩
 ·obtain⟨u,rfl,r1⟩:=jf r;cases r1;exact call_int_bool ⟨.int (if k then 1 else 0),H,I.tok _,⟨_,rfl⟩,q⟩
def OD (K:WD)(x:V)(H:Hp)(n:Nat):Prop:=
 match x with
 | .str y=>y.length<=WC/\n=y.length
 | .byt y=>y.size<=WC/\n=y.size
 | .ref p=>(∃xs,gc K H p xs/\n=xs.length)\/∃xs,gU K H p xs/\n=xs.length
 |_=>False
theorem eP:eE X (.builtin "len") (λxs H Q=>∃x n,xs=[x]/\OD X.K x H n/\Q (.int n) H):=by
 intro pins s σ H xs us Q I r h;obtain⟨x,n,rfl,e,q⟩:=h;obtain⟨u,rfl,rx⟩:=jf r;have hl:=nG;have hs:WC=16777216:=YA;cases x with
 |str y=>
  obtain⟨t,rfl⟩:=rx;obtain⟨hy,e'⟩:y.length<=WC/\n=y.length:=e;subst e';exact len_str (by lia) ⟨.int _,H,I.tok _,⟨_,rfl⟩,q⟩
 |byt y=>
  obtain⟨t,rfl⟩:=rx;obtain⟨hy,e'⟩:y.size<=WC/\n=y.size:=e;subst e';exact PySem.W.len_bytes (by lia) ⟨.int _,H,I.tok _,⟨_,rfl⟩,q⟩
 |ref p=>
  cases rx;have e':(∃xs,gc X.K H p xs/\n=xs.length)\/∃xs,gU X.K H p xs/\n=xs.length:=e;rcases e' with⟨xs,hx,e'⟩|⟨xs,hx,e'⟩
  ·subst e';obtain⟨au,r',pl,hz⟩:=I.list hx;have c7:=r'.length;exact Calls.call_len_list pl.isList (by simp only[WJ];lia) ⟨.int xs.length,H,I.tok _,⟨_,by simp only[WJ];rw[c7]⟩,q⟩
  ·subst e';obtain⟨au,r',pl,hz⟩:=I.tuple hx;have c7:=r'.length;exact len_tuple pl (by simp only[WJ];lia) ⟨.int xs.length,H,I.tok _,⟨_,by simp only[WJ];rw[c7]⟩,q⟩
 |_=>exact (show False from e).elim
end
end L2
variable {r:L2.R2}
namespace L2
structure LL (h:Zv)(x dx C:W8)(mA:Str->Option WG):Prop where
 obj:h.get? x=some (PySem.W.instObj C dx)
 ns:h.Ns1 dx mA
 ne:dx≠x
theorem Cs {dx:W8}{mA:Str->Option WG}(n:h.Ns1 dx mA):∃od,h.get? dx=some od/\∀name,PySem.W.lookIn name od=some (mA name):=by
 obtain⟨o,es,ep,ho,hd,hk,_,hm⟩:=n;refine⟨o,ho,λname=>?_⟩;have e:=hm name;unfold nsFind findBy at e;rw[←Array.find?_toList] at e;unfold PySem.W.lookIn;rw[hd];dsimp only;split
 ·rename_i y q;rw[q] at e;exact congrArg some e
 ·rename_i q;rw[q] at e;have a:es.toList.any (·.refKey)=false:=by
   rw[List.any_eq_false];intro y hy;obtain⟨z,t,hkey⟩:=hk y (Array.mem_toList_iff.mp hy);simp[DictEntry.refKey,hkey]
  have a':¬es.toList.any (·.refKey)=true:=by rw[a];exact WA
  rw[hV a'];exact congrArg some e
theorem LL.look {x dx C:W8}{mA:Str->Option WG}(I:LL h x dx C mA):∃od,PySem.W.InstAt h x (PySem.W.instObj C dx) C (some od)/\∀name,PySem.W.lookIn name od=some (mA name):=
 let ⟨od,ho,hl⟩:=Cs I.ns
 ⟨od,⟨I.obj,rfl,rfl,ho⟩,hl⟩
theorem lK.some_of {o:Option WG}(r:lK (some v) o):∃u,o=some u/\aO v u:=by
 cases o with
 |none=>exact (show False from r).elim
 |some u=>exact⟨u,rfl,r⟩
section
variable {C dx:W8}{fs fs':List (Str×V)}
theorem HM (hok:kh P w H h)(e:H a=some (.ins C dx fs)):∃mA,LL h a dx C mA/\(∀f,lK (fs.lookup f) (mA f))/\PySem.Within mA (fs.map (·.1))/\fs.length<=1000/\H dx=some (.own a):=by
 obtain⟨d,z,ne,ob,mA,n,r,q⟩:=(show bO P w H h a (.ins C dx fs) from hok a _ e);exact⟨mA,⟨ob,n,ne⟩,r,q,z,d⟩
end
structure RW (K:WD)(C:W8):Prop where
 pg:PySem.W.plainGet K C Str.empty=true
 hd:PySem.W.hasDictIn K C=true
 po:PySem.W.plainOver K C=true
 sa:abc K (.ref C) "__setattr__"=some (some (.builtin "object.__setattr__"))
theorem RW.get {C:W8}(c:RW K C)(f:Str):PySem.W.plainGet K C f=true:=c.pg
structure V7 (K:WD)(C:W8)(f:Str)(v:V)(u:WG):Prop where
 at_:abc K (.ref C) f=some (some u)
 rel:aO v u
 get:PySem.W.specialIn K u "__get__"=some none
 cp:PySem.W.copiedNames.contains f=false
structure UL (K:WD)(C:W8)(m:Str)(f:W8):Prop where
 at_:abc K (.ref C) m=some (some (.ref f))
 fn:PySem.W.isFn K (.ref f)=true
 kp:ZR K (.ref f)=true
section
variable {A:XD}{c:WG}{b:Bool}
inductive nH (K:WD)(H:Hp):V->WG->Prop where
 |non:nH K H .non (.type "NoneType")
 |bl (x:Bool):nH K H (.bl x) (.type "bool")
 |int (i:Int):nH K H (.int i) (.type "int")
 |str (x:Str):nH K H (.str x) (.type "str")
 |flt (x:UInt64):nH K H (.flt x) (.type "float")
 |lst {a:W8} {xs:List V} (e:H a=some (.lst xs)):nH K H (.ref a) (.type "list")
 |frz {a:W8} {o:Obj} {xs:List V} (e:H a=some (.frz o (.lst xs))):nH K H (.ref a) (.type "list")
 |tup {a:W8} {xs:List V} (e:H a=some (.tup xs)):nH K H (.ref a) (.type "tuple")
 |dK {a:W8} {aL:List (Key×V)} (e:H a=some (.dK aL)):nH K H (.ref a) (.type "dict")
 |dT {a:W8} {aL:List (List Key×V)} (e:H a=some (.dT aL)):nH K H (.ref a) (.type "dict")
 |ins {a C dx:W8} {fs:List (Str×V)} (e:H a=some (.ins C dx fs)) (cl:RW K C) (ha:abc K (.ref C) "__class__"=some (some (.builtin "object.__class__")))
   (hn:PySem.W.specialIn K (.builtin "object.__class__") "__get__"=some (some (.builtin "getset_descriptor.__get__"))) (htk:PySem.W.takesIn K (.builtin "object.__class__")=some true)
   (hm:PySem.W.mroIn K C (.type "object")=some true):nH K H (.ref a) (.ref C)
theorem Ct {x:V}{u t:WG}(I:az X pins σ H s)(rx:aO x u)(ty:nH X.K H x t)(e:PySem.W.kitOne X.K t c=some b)(h:∀tk,Q (.bool b) {s with toks:=tk}) :
  WX (Xg X.prog X.w) A (call (.builtin "isinstance") [u,c]) Q E s:=by
 cases ty with
 |non=>cases (show u=Value.none from rx);exact Yk PySem.W.kitx_none I.kIn True.intro e (λz=>nomatch z) h
 |bl y=>cases (show u=Value.bool y from rx);exact Yk PySem.W.kitx_bool I.kIn True.intro e (λz=>nomatch z) h
 |int i=>obtain⟨t,q⟩:=(show ∃t,u=Value.int i t from rx);cases q;exact Yk PySem.W.kitx_int I.kIn True.intro e (λz=>nomatch z) h
 |str y=>obtain⟨t,q⟩:=(show ∃t,u=Value.str y t from rx);cases q;exact Yk PySem.W.kitx_str I.kIn True.intro e (λz=>nomatch z) h
 |flt y=>obtain⟨t,q⟩:=(show ∃t,u=Value.float y t from rx);cases q;exact Yk PySem.W.kitx_float I.kIn True.intro e (λz=>nomatch z) h
 | @lst a xs ea=>
  cases (show u=Value.ref a from rx);obtain⟨_,_,n,_,h1⟩:=(show bO X.prog X.w H s.heap a (.lst xs) from I.hok a _ ea);exact Yk PySem.W.kitx_list I.kIn ⟨_,h1,rfl⟩ e (λz=>nomatch z) h
 | @frz a ob xs ea=>
  cases (show u=Value.ref a from rx);obtain⟨_,_,_,n,_,h1⟩:=(show bO X.prog X.w H s.heap a (.frz ob (.lst xs)) from I.hok a _ ea);exact Yk PySem.W.kitx_list I.kIn ⟨_,h1,rfl⟩ e (λz=>nomatch z) h
 | @tup a xs ea=>
  cases (show u=Value.ref a from rx);obtain⟨_,_,_,p,_⟩:=(show bO X.prog X.w H s.heap a (.tup xs) from I.hok a _ ea);obtain⟨o,h1,h2,_⟩:=p;exact Yk PySem.W.kitx_tuple I.kIn ⟨o,h1,h2⟩ e (λz=>nomatch z) h
 | @dK a aL ea=>
  cases (show u=Value.ref a from rx);obtain⟨_,_,vs,_,p⟩:=(show bO X.prog X.w H s.heap a (.dK aL) from I.hok a _ ea);obtain⟨o,es,ep,h1,h2,_⟩:=p;exact Yk PySem.W.kitx_dict I.kIn ⟨o,h1,h2.1⟩ e (λz=>nomatch z) h
 | @dT a aL ea=>
  cases (show u=Value.ref a from rx);obtain⟨_,_,xs,_,o,es,ep,h1,h2,_⟩:=(show bO X.prog X.w H s.heap a (.dT aL) from I.hok a _ ea);exact Yk PySem.W.kitx_dict I.kIn ⟨o,h1,h2.1⟩ e (λz=>nomatch z) h
 | @ins a C dx fs ea cl ha hn htk hm=>
  cases (show u=Value.ref a from rx);obtain⟨mA,O,_⟩:=HM I.hok ea;obtain⟨od,J,_⟩:=O.look;exact Yk (PySem.W.kitx_own (cl.get _) cl.hd ha hn htk hm) I.kIn J e (λz=>nomatch z) h
end
end L2
namespace L2
structure eQ (k:Nat)(A:XD):Prop where
 hd:A.handled=none
 dp:A.depth+3*k+5<recursionLimit
 un:A.units+16*k+200<YH
theorem eQ.mono {A:XD}(r:eQ k A)(h:j<=k):eQ j A:=⟨r.hd,by have:=r.dp;lia,by have:=r.un;lia⟩
theorem eQ.deeper {A:XD}(r:eQ (k+1) A)(env:Env):eQ k (A.deeper env):=
 ⟨r.hd,by have:=r.dp;show A.depth+1+3*k+5<_;lia,by have:=r.un;show A.units+3+16*k+200<_;lia⟩
theorem eQ.depth {A:XD}(r:eQ k A):A.depth<recursionLimit:=by have:=r.dp;lia
theorem eQ.units {A:XD}(r:eQ k A):A.units+64<YH:=by have:=r.un;lia
def RX:TA:=λ_ H Q=>Q [] H
def OE (ta:TE)(tr:TA):TA:=λσ H Q=>ta σ H λx H1=>tr σ H1 λxs H2=>Q (x::xs) H2
section
variable {e:YV}{es:List YV}{t:TA}
theorem qI:PA X [] RX:=λ_ _ _ _ H Q I h=>Calls.spliced_nil ⟨[],H,I,.nil,h⟩
theorem jC (ha:PE X e te)(hr:PA X es t)(hs:W7 (e::es) X.env=(false,aaj e X.env)::W7 es X.env:=by rfl):PA X (e::es) (OE te t):=by
 intro pos pins s σ H Q I h;rw[hs];show WX _ _ (spliced ((false,aaj e X.env)::Zy pos (W7 es X.env))) _ _ s;refine ab1 (dC (ha pins s σ H _ I h) λu s1 ⟨x,H1,I1,r1,q1⟩=>?_);exact dC (hr pos pins s1 σ H1 _ I1 q1) λus s2 ⟨xs,H2,I2,r2,q2⟩=>⟨x::xs,H2,I2,.cons r1 r2,q2⟩
def RY (t:TA):TE:=λσ H Q=>t σ H λxs H1=>xs.length<=WC/\∀p,H1 p=none->Q (.ref p) (cD H1 p (.tup xs))
def RZ (t:TA):TE:=λσ H Q=>t σ H λxs H1=>xs.length<=WC/\∀p,H1 p=none->Q (.ref p) (cD H1 p (.lst xs))
theorem LM {x1}(h:PA X es t):PE X (.Tuple es x1 pos) (RY t):=by
 intro pins s σ H Q I hq;refine wpAny_Tuple_spliced (dC (h pos pins s σ H _ I hq) λus s1 ⟨xs,H1,I1,r,z,q⟩=>⟨by rw[←r.length];exact z,?_⟩);have hf:H1 s1.heap.objs.size=none:=I1.hok.fresh (WK _);refine⟨.ref s1.heap.objs.size,cD H1 s1.heap.objs.size (.tup xs),I1.laid (t':=s1.toks) (λb u e=>Wz _ e) (WK _) ?_,rfl,q _ hf⟩;exact⟨z,us,r,⟨_,WL _ rfl,rfl,_,rfl⟩,_,WL _ rfl⟩
theorem LN (h:PA X es t):PE X (.List es pos) (RZ t):=by
 intro pins s σ H Q I hq;refine wpAny_List_spliced (dC (h pos pins s σ H _ I hq) λus s1 ⟨xs,H1,I1,r,z,q⟩=>⟨by rw[←r.length];exact z,?_⟩);have hf:H1 s1.heap.objs.size=none:=I1.hok.fresh (WK _);refine⟨.ref s1.heap.objs.size,cD H1 s1.heap.objs.size (.lst xs),I1.laid (t':=s1.toks) (λb u e=>Wz _ e) (WK _) ?_,rfl,q _ hf⟩;exact⟨z,us,0,r,WL _ rfl⟩
end
abbrev Sp:=List V->Hp->VK->XK->Prop
abbrev CXT:=List Env->Hp->WT->XK->WG->WT->Prop
structure HN (P:Zx)(w:ZU)(K:WD)(mg:Str->Option WG)(base:Zv)(A:XD)(outer:List Env)(s:WT)(H:Hp):Prop where
 frames:A.frames=some outer
 mod:Mod K mg base
 bs:∀b o,base.get? b=some o->s.heap.get? b=some o/\H b=none
 bsz:base.objs.size<=s.heap.objs.size
 funs:s.heap.FunFrames base outer
 frf:∀b∈AB outer,H b=none
 hok:kh P w H s.heap
 bare:AllBare s.gens
def CE (outer:List Env)(P:Zx)(w:ZU)(H:Hp)(s:WT)(Q:VK)(u:WG)(s':WT):Prop:=
 ∃v H',s'.os=s.os/\AllBare s'.gens/\Un (AB outer) [] H H' s.heap s'.heap/\kh P w H' s'.heap/\aO v u/\Q v H'
def CR (CX:CXT)(outer:List Env)(P:Zx)(w:ZU)(H:Hp)(s:WT)(Q:VK)(E:XK)(r:Result)(s':WT):Prop:=
 match r with
 | .ok (.ret u)=>CE outer P w H s Q u s'
 | .ok _=>False
 | .error e=>CX outer H s E e s'
structure lq (P:Zx)(w:ZU)(K:WD)(mg:Str->Option WG)(base:Zv)(CX:CXT)(k:Nat)(f:W8)(fd:aby)(ps:List Str)(sp:Sp):Prop where
 len:∀vs H Q E,sp vs H Q E->vs.length=ps.length
 run:∀(A:XD) (outer:List Env) (s:WT) (H:Hp) (args:Args) (us:List WG) (vs:List V) (Q:VK) (E:XK),eQ k A->HN P w K mg base A outer s H->BindsTo s fd args (ps.zip us)->aW vs us->sp vs H Q E->
  codeAny (Xg P w) A (.call (.ref f) args) (CR CX outer P w H s Q E) s
theorem lq.imp {base:Zv}{CX:CXT}{sp Ud:Sp}(F:lq P w K mg base CX k f fd ps sp)(h:∀vs H Q E,Ud vs H Q E->sp vs H Q E):lq P w K mg base CX k f fd ps Ud:=
 ⟨λvs H Q E q=>F.len vs H Q E (h _ _ _ _ q),λA outer s H args us vs Q E hr he hb hv hs=>F.run A outer s H args us vs Q E hr he hb hv (h _ _ _ _ hs)⟩
section
variable {s':WT}
theorem az.env0 (I:az X pins σ H s):HN X.prog X.w X.K X.mg X.base X.A X.stack s H:=
 ⟨I.ok.frames,I.ok.mod,I.bs,XG I.ok.bsz I.sz,I.stack,I.stkFree,I.hok,I.bare⟩
theorem az.after {Q:VK}{u:WG}(I:az X pins σ H s)(h:CE X.stack X.prog X.w H s Q u s'):EP X pins σ Q u s':=by
 obtain⟨v,H',os,bare,un,hok,r,q⟩:=h;obtain⟨hh,g,d,t,os'⟩:=s';obtain rfl:os'=s.os:=os;exact⟨v,H',I.call (h':=hh) (g':=g) (d':=d) (t':=t) (ch:=[]) un hok bare (λb z=>absurd z (by simp)),r,q⟩
end
def JN (sp:Sp)(Lb:List V)(E:XK)(t:TA):TE:=λσ H Q=>t σ H λvs H1=>sp (vs++Lb) H1 Q E
def uo (K:WD)(fd:aby)(ps:List Str)(ds:List WG):Prop:=
 ∀(s:WT) (us:List WG),K.In s.heap->(us++ds).length=ps.length->BindsTo s fd ⟨us,[]⟩ (ps.zip (us++ds))
theorem uo.all (h:∀us:List WG,us.length=ps.length->bindArgs fd ⟨us,[]⟩=pure (ps.zip us)):uo K fd ps []:=λs us _ hl=>by
 rw[Xr] at hl ⊢;exact .of_eq (h us hl)
def zd (CX:CXT)(X:Cx)(E:XK):Prop:=∀(pins:List (W8×Obj)) (σ:St) (H:Hp) (s:WT) (e:WG) (s':WT),az X pins σ H s->CX X.stack H s E e s'->X.xe e s'
section
variable {CX:CXT}{C:W8}{sp:Sp}{Lb:List V}{ds:List WG}{E:XK}{m:Str}{p gz:Pos}{e o:YV}{es:List YV}{ta:TE}{t:TA}
theorem LO {Q:VK}{us:List WG}(F:lq X.prog X.w X.K X.mg X.base CX k f fd ps sp)(hr:eQ k X.A)(hb:uo X.K fd ps ds)(hd:aW Lb ds)(hx:zd CX X E)(I:az X pins σ H s)(r:aW vs us)(h:sp (vs++Lb) H Q E):WX (Xg X.prog X.w) X.A (call (.ref f) us) (EP X pins σ Q) X.xe s:=by
 have r2:aW (vs++Lb) (us++ds):=r.append hd;have hl:(us++ds).length=ps.length:=by rw[←r2.length];exact F.len _ _ _ _ h
 refine wpAny_call (abi (F.run X.A X.stack s H ⟨us,[]⟩ (us++ds) (vs++Lb) Q E hr I.env0 (hb s us I.kIn hl) r2 h) λr s' hq=>?_);cases r with
 |error e=>exact hx pins σ H s e s' I hq
 |ok fl=>
  cases fl with
  |ret u=>exact I.after hq
  |next=>exact Z_ hq
  |brk=>exact Z_ hq
  |cont=>exact Z_ hq
theorem HP (F:lq X.prog X.w X.K X.mg X.base CX k f fd ps sp)(hr:eQ k X.A)(hg:Gl X x)(hm:X.mg x=some (.ref f))(hk:ZR X.K (.ref f)=true)(hb:uo X.K fd ps ds)(hd:aW Lb ds)(hx:zd CX X E)
  (ha:PA X (e::es) t) (Av:(x==("__debug__":Str))=false:=by decide) (he:W7 (e::es) X.env=(false,aaj e X.env)::W7 es X.env:=by rfl) (qC:(Zy pos (W7 es X.env)).any (·.1)=false:=by rfl) :
  PE X (.Call (.Name x p) (e::es) [] pos) (JN sp Lb E t):=by
 intro pins s σ H Q I h;refine ab2 (Hy I hg hm ?_ Av);refine PySem.W.callWith_K (h₀:=X.base) I.ok.mod.kin hk (dC (ha pos pins s σ H _ I h) λus s1 ⟨vs,H1,I1,r,q⟩=>⟨I1.kIn,?_⟩) he qC;exact LO F hr hb hd hx I1 r q
structure Mk (K:WD)(C f:W8):Prop where
 makes:PySem.W.makesIn K C=true
 init:abc K (.ref C) "__init__"=some (some (.ref f))
 fn:PySem.W.isFn K (.ref f)=true
 kp:ZR K (.ref C)=true
end
section
variable {CX:CXT}{C:W8}{ks:List Str}{sp:Sp}{E:XK}{m:Str}{p gz kpos:Pos}{e o:YV}{es:List YV}{kws:List acb}{ta:TE}{t tk:TA}{nm:Option Str}
structure R0 (K:WD)(fd:aby)(ps ks:List Str)(g:List WG->List WG->List WG)(gV:List V->List V->List V):Prop where
 to:∀(s:WT) (us ws:List WG),K.In s.heap->(g us ws).length=ps.length->BindsTo s fd ⟨us,ks.zip ws⟩ (ps.zip (g us ws))
 rel:∀{vs:List V} {us:List WG} {zs:List V} {ws:List WG},aW vs us->aW zs ws->aW (gV vs zs) (g us ws)
variable {g:List WG->List WG->List WG}{gV:List V->List V->List V}
end
structure aJ (N P:List Str)(sc:acj):Prop where
 kind:sc.kind=.function
 co:sc.isCoroutine=false
 gen:sc.isGenerator=false
 nd:N.Nodup
 pre:N.take P.length=P
 par:∀x∈P,sc.names.lookup x=some .local\/sc.names.lookup x=some .cell
 nofree:∀y∈sc.names,y.2≠.free
theorem uq {X_:Str->Option acy}{x:Str}:∀{binds:List (Str×WG)} {m:Str->Option WG},(∀v,(x,v)∉binds)->bindL X_ binds m x=m x
 | [],_,_=>rfl
 | (n,v)::r,m,h=>by
  unfold bindL;rw[uq λw hw=>h w (WO _ hw)];split
  ·have:x≠n:=by rintro rfl;exact h v WM
   simp[this]
  ·rfl
theorem ur {X_:Str->Option acy}{x:Str}:∀{binds:List (Str×WG)} {m:Str->Option WG},(∀v,(x,v)∉binds)->bindC X_ binds m x=m x
 | [],_,_=>rfl
 | (n,v)::r,m,h=>by
  unfold bindC;rw[ur λw hw=>h w (WO _ hw)];split
  ·rfl
  ·have:x≠n:=by rintro rfl;exact h v WM
   simp[this]
theorem uu {X_:Str->Option acy}{x:Str}{v:WG}:∀{P:List Str} {vs:List WG} {i:Nat} {m:Str->Option WG},P.Nodup->P[i]? = some x->vs[i]? = some v->X_ x=some .local->
  bindL X_ (P.zip vs) m x=some v
 | [],_,_,_,_,h,_,_=>by simp at h
 |_::_,[],_,_,_,_,h,_=>by simp at h
 |p::P,w::vs,0,m,nd,h1,h2,hk=>by
  simp at h1 h2;subst h1;subst h2;show bindL X_ ((p,w)::P.zip vs) m p=_;unfold bindL;rw[uq λv hv=>(Zd.mp nd).1 (List.of_mem_zip hv).1,hZ hk];simp
 |p::P,w::vs,i+1,m,nd,h1,h2,hk=>by
  show bindL X_ ((p,w)::P.zip vs) m x=_;unfold bindL;exact uu (i:=i) (Zd.mp nd).2 (by simpa using h1) (by simpa using h2) hk
theorem uv {X_:Str->Option acy}{x:Str}{v:WG}:∀{P:List Str} {vs:List WG} {i:Nat} {m:Str->Option WG},P.Nodup->P[i]? = some x->vs[i]? = some v->X_ x≠some .local->
  bindC X_ (P.zip vs) m x=some v
 | [],_,_,_,_,h,_,_=>by simp at h
 |_::_,[],_,_,_,_,h,_=>by simp at h
 |p::P,w::vs,0,m,nd,h1,h2,hk=>by
  simp at h1 h2;subst h1;subst h2;show bindC X_ ((p,w)::P.zip vs) m p=_;unfold bindC;rw[ur λv hv=>(Zd.mp nd).1 (List.of_mem_zip hv).1,hV hk];simp
 |p::P,w::vs,i+1,m,nd,h1,h2,hk=>by
  show bindC X_ ((p,w)::P.zip vs) m x=_;unfold bindC;exact uv (i:=i) (Zd.mp nd).2 (by simpa using h1) (by simpa using h2) hk
noncomputable def aaH (N:List Str)(vs:List V):St:=vs.map some++List.replicate (N.length-vs.length) none
noncomputable def pJ (CX:CXT)(P:Zx)(w:ZU)(K:WD)(mg:Str->Option WG)(base:Zv)(N:List Str)(qual:Str)(scope:acj)(f:W8)(cd:WG)(A:XD)(outer:List Env)(s:WT)(H:Hp)(E:XK):Cx where
 prog:=P
 w:=w
 K:=K
 mg:=mg
 base:=base
 A:=A.deeper (ab3 qual scope s.heap.objs.size f cd)
 N:=N
 s₀:=s
 H₀:=H
 env:=ab3 qual scope s.heap.objs.size f cd
 outer:=outer
 stack:=ab3 qual scope s.heap.objs.size f cd::outer
 ex:=[]
 calm:=true
 fn:=λ_=>true
 pn:=[]
 xe:=λe s'=>WX (Xg P w) (A.deeper (ab3 qual scope s.heap.objs.size f cd)) (leaving (ab3 qual scope s.heap.objs.size f cd) e) (λ_ Lc=>CX outer H s E e Lc) (λe' Lc=>CX outer H s E e' Lc) s'
theorem xi {sc:acj}(h:sc.names.lookup x=some .cell):∃c,(cellsFrom n sc.names []).lookup x=some c:=by
 have q:=PySem.W.cellsFrom_some sc.names n [] (.inl h);exact Option.isSome_iff_exists.mp q
theorem Cu {CX:CXT}{base:Zv}{cd:WG}{A:XD}{outer:List Env}{s1:WT}{E:XK}{us:List WG}(S:aJ N ps scope)(hd:A.handled=none)(e0:HN P w K mg base A outer s H)(hl:vs.length=ps.length)(r:aW vs us)(x:InCallC s s.heap.objs.size (bindL (ab3 qual scope s.heap.objs.size f cd).kindOf (ps.zip us) λ_=>none) (cellsFrom (s.heap.objs.size+1) scope.names []) (bindC (ab3 qual scope s.heap.objs.size f cd).kindOf (ps.zip us) λ_=>none) s1) :
  az (pJ CX P w K mg base N qual scope f cd A outer s H E) [] (aaH N vs) H s1:=by
 have qC:ps.length<=N.length:=by have:=congrArg List.length S.pre;rw[W_] at this;lia
 obtain⟨h1,tk,rfl,hk⟩:=x.done;have QC:∀b:W8,b∉(pJ CX P w K mg base N qual scope f cd A outer s H E).ex:=λb z=>absurd (show b∈([]:List W8) from z) (by simp);refine⟨⟨e0.mod,S.kind,rfl,rfl,WK _,λy z c h1 h2=>?_,λy hy=>?_,λy c _ h=>?_,λ_=>hd,Around.frames_deeper e0.frames,.inr ⟨rfl,rfl⟩,λb z=>absurd z (QC b),e0.bs,e0.bsz,λb _ _=>QC b,λb z=>absurd z (QC b),e0.funs,e0.frf⟩,
  rfl,e0.bare,Un.kept hk,⟨_,x.toInCall.ns,λi y v h1 h2 h3=>?_⟩,λy c h=>⟨_,x.cell y c h⟩,e0.hok.fresh (WK _),λy c h=>?_,λp hp=>absurd (show p∈([]:List (W8×Obj)) from hp) (by simp),e0.hok.kept hk,?_⟩
 ·exact name_of_addr x.apart (X1 h1) (X1 h2)
 ·have hy:scope.names.lookup y=some .cell\/scope.names.lookup y=some .free:=hy;rcases hy with hy|hy
  ·exact xi hy
  ·exact absurd rfl (S.nofree _ (X1 hy))
 ·exact Nat.le_of_lt (x.above y c (X1 h))
 ·have hi:i<vs.length:=by
   unfold aaH at h2;by_cases hi:i<vs.length
   ·exact hi
   ·rw[XN (by simpa using hi)] at h2;rw[List.getElem?_replicate] at h2;split at h2<;>cases h2
  have ha:vs[i]? = some v:=by
   unfold aaH at h2;rw[X5 (by simpa using hi),WQ] at h2;cases e:vs[i]? with
   |none=>rw[e] at h2;cases h2
   |some a=>rw[e] at h2;cases h2;rfl
  obtain⟨u,hu,rv⟩:=r.get ha;have hp:ps[i]? = some y:=by
   rw[←S.pre,acp (by lia)];exact h1
  have Ue:ps.Nodup:=by rw[←S.pre];exact S.nd.sublist (List.take_sublist _ _)
  refine⟨u,rv,?_⟩;rcases S.par y (Yg hp) with k|k
  ·exact .inl ⟨k,uu Ue hp hu k⟩
  ·obtain⟨c,e⟩:=xi (n:=s.heap.objs.size+1) k;refine .inr ⟨.inl k,c,e,?_⟩;have q:=x.cell y c e;rw[uv Ue hp hu (by show scope.names.lookup y≠_;rw[k];decide)] at q;exact q
 ·exact e0.hok.fresh (Nat.le_of_lt (x.above y c (X1 h)))
 ·unfold aaH;show _=N.length;rw[WI,Ww,abj];lia
theorem OF {CX:CXT}{base:Zv}{name:Str}{params:Arguments}{dV kV nF pm cN ct oc:WG}{an od:Option W8}{Ld:Array (Option WG)}{sp:Sp}(lk:K.lookup f=some ⟨oc,od,.func (YI name qual params body scope dV kV nF pm an cN ct),Ld⟩)(ny:acd K cN qual=true)(S:aJ N ps scope)(len:∀vs H Q E,sp vs H Q E->vs.length=ps.length)(iC:∀(A:XD) (outer:List Env) (s:WT) (H:Hp) (vs:List V) (Q:VK) (E:XK),eQ k (A.deeper (ab3 qual scope s.heap.objs.size f cN))->sp vs H Q E->
   ∃t,uk (pJ CX P w K mg base N qual scope f cN A outer s H E) body t/\t {nx:=λ_ H'=>Q .non H',rt:=Q} (aaH N vs) H) :
  lq P w K mg base CX (k+1) f (YI name qual params body scope dV kV nF pm an cN ct) ps sp:=by
 refine⟨len,λA outer s H args us vs Q E hr e0 hb r Le=>?_⟩;have hl:=len _ _ _ _ Le;have KX:K.In s.heap:=e0.mod.kin.keeps λb o e=>(e0.bs b o e).1;have U2:s.heap.NoLimit:=e0.mod.nolimit.keeps λb o e=>(e0.bs b o e).1;have QD:∀y∈ps.zip us,scope.names.lookup y.1=some .local\/(scope.names.lookup y.1=some .cell/\((cellsFrom (s.heap.objs.size+1) scope.names []).lookup y.1).isSome=true):=fun⟨n,v⟩ hy=>by
  rcases S.par n (List.of_mem_zip hy).1 with q|q
  ·exact .inl q
  ·exact .inr ⟨q,PySem.W.cellsFrom_some _ _ _ (.inl q)⟩
 refine codeAny_call_function hr.depth (KX _ _ lk) rfl S.co S.gen rfl (PySem.W.codeRec_of KX ny) (hb _ _ _ _ ?_);refine wpAny_newFunctionEnv_cells S.kind QD λenv he s1 x=>?_;subst he;refine⟨U2.keeps x.toInCall.keep,codeAny_func ?_⟩;obtain⟨t,ht,hq⟩:=iC A outer s H vs Q E (hr.deeper _) Le;have I:az (pJ CX P w K mg base N qual scope f cN A outer s H E) [] (aaH N vs) H s1:=Cu S hr.hd e0 hl r x;refine XQ (ht [] s1 (aaH N vs) H _ I hq) (λfl s' hs=>?_) λe s' hs=>hs;have fin:∀{σ':St} {H':Hp} {v:V} {u:WG},az (pJ CX P w K mg base N qual scope f cN A outer s H E) [] σ' H' s'->aO v u->Q v H'->CE outer P w H s Q u s' :=
  λ{σ' H' v u} J rv q=>⟨v,H',J.os,J.bare,J.base,J.hok,rv,q⟩
 cases fl with
 |ret u=>
  obtain⟨v,σ',H',J,rv,q⟩:=hs;exact fin J rv q
 |next=>
  obtain⟨σ',H',J,q⟩:=hs;exact fin (v:=V.non) (u:=Value.none) J rfl q
 |brk=>
  obtain⟨_,_,_,q⟩:=hs;exact Z_ q
 |cont=>
  obtain⟨_,_,_,q⟩:=hs;exact Z_ q
end L2
variable {CX:L2.CXT}{sp:L2.Sp}
namespace L2
section
variable {p:Pos}{e:YV}{es:List YV}{t:TA}{id T:String}{r:List V->Hp->VK->Prop}
def R1 (r:List V->Hp->VK->Prop)(t:TA):TE:=λσ H Q=>t σ H λvs H1=>r vs H1 Q
theorem qJ (hc:eE X (.builtin id) r)(hg:Gl X x)(hm:X.mg x=none)(hv:XM x=some (.builtin id))(ha:PA X (e::es) t)(hn:x≠"__name__":=by decide)(Av:(x==("__debug__":Str))=false:=by decide)
  (he:W7 (e::es) X.env=(false,aaj e X.env)::W7 es X.env:=by rfl) (qC:(Zy pos (W7 es X.env)).any (·.1)=false:=by rfl):PE X (.Call (.Name x p) (e::es) [] pos) (R1 r t):=by
 intro pins s σ H Q I h;refine ab2 (qE I hg hm hv ?_ hn Av);exact PyProof.Rows.callWith_builtin1 (dC (ha pos pins s σ H _ I h) λus s1 ⟨vs,H1,I1,r1,q1⟩=>hc pins s1 σ H1 vs us Q I1 r1 q1) he qC
theorem gW (hc:eE X (.type T) r)(hg:Gl X x)(hm:X.mg x=none)(hv:XM x=some (.type T))(ha:PA X (e::es) t)(hn:x≠"__name__":=by decide)(Av:(x==("__debug__":Str))=false:=by decide)
  (he:W7 (e::es) X.env=(false,aaj e X.env)::W7 es X.env:=by rfl) (qC:(Zy pos (W7 es X.env)).any (·.1)=false:=by rfl):PE X (.Call (.Name x p) (e::es) [] pos) (R1 r t):=by
 intro pins s σ H Q I h;refine ab2 (qE I hg hm hv ?_ hn Av);exact ZX (dC (ha pos pins s σ H _ I h) λus s1 ⟨vs,H1,I1,r1,q1⟩=>hc pins s1 σ H1 vs us Q I1 r1 q1) he qC
end
end L2
namespace HT
section
variable {A:XD}
theorem cat_tup {t:W8}{vs ws:List WG}(ht:IsTup s.heap t vs.toArray)(hb:IsTup s.heap b ws.toArray)(hv:vs≠[])(h1:ws=[]->Q (.ref t) s)(h2:ws≠[]->Q (.ref s.heap.objs.size) {s with heap:=s.heap.push {cls:=.type "tuple",data:=.seq (vs++ws).toArray}})(hsz:vs.length+ws.length<=WC):WX (Xg prog w) A (aar .Add (.ref t) (.ref b)) Q E s:=by
 obtain⟨⟨cls,dd,data,sl⟩,ho,hc,n,hd⟩:=id ht;obtain⟨⟨cls2,dd2,data2,sl2⟩,ho2,hc2,n2,hd2⟩:=id hb;simp only at hc hd hc2 hd2;subst hc hd hc2 hd2;have e:vs.toArray++ws.toArray=(vs++ws).toArray:=by simp
 by_cases hw:ws=[]
 ·exact concat_meets ⟨_,ho,rfl⟩ ⟨_,ho2,rfl⟩ noFill_tuple_add seq_tuple_add aaY aaK (aaC _ _)
   (tuple_addW1 t b vs.toArray ws.toArray n n2 dd dd2 sl sl2 (by simpa using hv) (by simp[hw])) ⟨ho,ho2,h1 hw⟩
 ·refine concat_meets ⟨_,ho,rfl⟩ ⟨_,ho2,rfl⟩ noFill_tuple_add seq_tuple_add aaY aaK (aaC _ _)
   (tuple_addW2 t b vs.toArray ws.toArray n n2 dd dd2 sl sl2 (by simpa using hv) (by simpa using hw) (by rw[WJ,WJ];exact hsz)) ⟨ho,ho2,?_⟩
  rw[e];exact h2 hw
noncomputable def sIx (n d:Nat):Option Int->Nat
 |none=>d
 |some v=>if v<0 then (v+(n:Int)).toNat else min v.toNat n
theorem sIx_none (n d:Nat):sIx n d none=d:=rfl
theorem sIx_nat (n d k:Nat):sIx n d (some (k:Int))=min k n:=by
 show (if (k:Int)<0 then ((k:Int)+(n:Int)).toNat else min (k:Int).toNat n)=min k n;rw[hV (by lia),Xk]
theorem LP (n d:Nat)(hd:d<=n)(o:Option Int):sIx n d o<=n:=by
 cases o with
 |none=>exact hd
 |some v=>
  show (if v<0 then (v+(n:Int)).toNat else min v.toNat n)<=n;by_cases hv:v<0
  ·rw[hZ hv];lia
  ·rw[hV hv];exact Nat.min_le_right _ _
theorem AF (v:Int)(n d:Nat):(if v<0 then max (v+(n:Int)) 0 else min v (n:Int))=((sIx n d (some v):Nat):Int):=by
 show (if v<0 then max (v+(n:Int)) 0 else min v (n:Int))=(((if v<0 then (v+(n:Int)).toNat else min v.toNat n):Nat):Int);by_cases hv:v<0
 ·simp only[hZ hv];lia
 ·simp only[hV hv];lia
theorem ze (lo hi:Option Int)(n:Nat):aan lo hi 1 (n:Int)=(((sIx n 0 lo:Nat):Int),((sIx n n hi:Nat):Int)):=by
 have h1:¬((1:Int)<0):=by lia
 unfold aan;simp only[h1,if_false];refine Prod.ext ?_ ?_
 ·cases lo with
  |none=>rfl
  |some v=>exact AF v n 0
 ·cases hi with
  |none=>rfl
  |some v=>exact AF v n n
theorem zf (i j:Nat):Zn (i:Int) (j:Int) 1=j-i:=by
 unfold Zn;have h1:(1:Int)>0:=by lia
 simp only[h1,if_true,Int.ediv_one];split<;>lia
theorem qK {v:WG}{o:Option Int}{Q:Option Int->WT->Prop}(p:IsPart v o)(h:Q o s):WX (Xg prog w) A (Builtin.Slice.slicePartIndex v) Q E s:=by
 cases p with
 |none=>exact slicePart_none h
 |int i t=>exact slicePart_int h
theorem jg {sl:W8}{vl vu:WG}{lo:Option Int}{Q:Int×Int×Nat->WT->Prop}(hs:s.heap.IsSliceOf sl vl vu .none)(pl:IsPart vl lo)(pu:IsPart vu hi)(h:Q (((sIx n 0 lo:Nat):Int),1,sIx n n hi-sIx n 0 lo) s):WX (Xg prog w) A (abU (.ref sl) (pure (n:Int))) Q E s:=by
 obtain⟨os,Hv,hcs,hds⟩:=id hs;unfold abU Builtin.Slice.sliceFields;refine Wv (Wv (X8 Hv hds (x:=vl) rfl (Wv (X8 Hv hds (x:=vu) rfl (Wv (X8 Hv hds (x:=.none) rfl (Wy ?_)))))));refine Wv (slicePart_none ?_);show WX _ _ (if ((1:Int)==0)=true then _ else _) _ _ s;rw[hV (by decide)];refine Wv (qK pl (Wv (qK pu (Wv (Wy ?_)))));show WX _ _ (match aan lo hi 1 (n:Int) with|(lo,hi)=>pure (lo,(1:Int),Zn lo hi 1)) _ _ s;rw[ze lo hi n];show WX _ _ (pure (((sIx n 0 lo:Nat):Int),(1:Int),Zn ((sIx n 0 lo:Nat):Int) ((sIx n n hi:Nat):Int) 1)) _ _ s;rw[zf];exact Wy h
theorem D5 (xs:Array WG)(i k:Nat):((WY k).filterMap λ(m:Nat)=>xs[((i:Int)+(m:Int)*1).toNat]?).toArray=((xs.toList.drop i).take k).toArray:=by
 have e:(λ(m:Nat)=>xs[((i:Int)+(m:Int)*1).toNat]?)=λm=>xs[i+m]? := by
  funext m;have:((i:Int)+(m:Int)*1).toNat=i+m:=by lia
  rw[this]
 rw[e];have:=pick_run xs i k;rw[List.filterMap_map] at this;have e2:((λx=>xs[x]?)∘λx=>i+x)=λm=>xs[i+m]? := rfl;rw[e2] at this;rw[this]
theorem getItem_tuple_cut {t sl:W8}{items:Array WG}{vl vu:WG}{lo:Option Int}(ht:IsTup s.heap t items)(hs:s.heap.IsSliceOf sl vl vu .none)(pl:IsPart vl lo)(pu:IsPart vu hi)(hw:¬(sIx items.size 0 lo=0/\sIx items.size items.size hi=items.size))(h:Q (.ref s.heap.objs.size) {s with heap:=s.heap.push {cls:=.type "tuple",data:=.seq ((items.toList.drop (sIx items.size 0 lo)).take (sIx items.size items.size hi-sIx items.size 0 lo)).toArray}})(hsz:items.size<=WC):WX (Xg prog w) A (abH (.ref t) (.ref sl)) Q E s:=by
 have Cb:sizeOk (.seq ((items.toList.drop (sIx items.size 0 lo)).take (sIx items.size items.size hi-sIx items.size 0 lo)).toArray):=by
  show ((items.toList.drop (sIx items.size 0 lo)).take (sIx items.size items.size hi-sIx items.size 0 lo)).toArray.size<=WC;rw[WJ,W_,XA,WH];lia
 have hj:sIx items.size items.size hi<=items.size:=LP _ _ (WK _) hi;obtain⟨os,Hv,hcs,hds⟩:=id hs;have SY:s.TypeIs (.ref sl) "slice":=⟨os,Hv,hcs⟩;unfold abH
 try with_reducible refine X0 ?_
 first|refine Wv (Wy ?_)|skip
 refine Wv (wpAny_sequenceKey ht.typeIs (by decide) ?_);refine Wv (Xy (name:=Yw "__getitem__") ht.typeIs YS
  (Xn YS ht.typeIs entry_tuple_getitem ?_ (args_tuple_getitem _ _)))
 show WX _ _ (aag (.ref t) >>= _) _ _ s;refine Wv (tupleItemsOf_ ht ?_);refine Wv (abk SY ?_);rw[hZ (by decide)];refine Wv (jg hs pl pu ?_);have U3:¬((((sIx items.size 0 lo:Nat):Int)==0&&(1:Int)==1&&(sIx items.size items.size hi-sIx items.size 0 lo)==items.size)=true):=by
  intro q;rw[W2,W2] at q;have q1:((sIx items.size 0 lo:Nat):Int)=0:=eq_of_beq q.1.1;have q2:sIx items.size items.size hi-sIx items.size 0 lo=items.size:=eq_of_beq q.2;exact hw ⟨by lia,by lia⟩
 show WX _ _ (if (((sIx items.size 0 lo:Nat):Int)==0&&(1:Int)==1&&(sIx items.size items.size hi-sIx items.size 0 lo)==items.size)=true then _ else _) _ _ s;rw[hV U3,D5]
 first
  |exact Wv (m:=Yx _) (Xi (Wy ⟨_,rfl,Wy h⟩) Cb)
  |exact Wv (m:=Yx _) (Xi (Wv (Wy (Wy ⟨_,rfl,Wy h⟩))) Cb)
  |exact Wv (Wv (m:=Yx _) (Xi (Wy (Wy ⟨_,rfl,Wy h⟩)) Cb))
  |exact Wv (Wv (m:=Yx _) (Xi (Wy ⟨_,rfl,Wy h⟩) Cb))
end
end HT
namespace L2
abbrev TO:=St->Hp->(Option Int->Hp->Prop)->Prop
def PO (X:Cx)(e:Option YV)(t:TO):Prop:=
 ∀(pins:List (W8×Obj)) (s:WT) (σ:St) (H:Hp) (Q:Option Int->Hp->Prop),az X pins σ H s->t σ H Q->
  WX (Xg X.prog X.w) X.A (evalPart e X.env) (λu s'=>∃o H',az X pins σ H' s'/\IsPart u o/\Q o H') X.xe s
def HQ:TO:=λ_ H Q=>Q none H
def OG (t:TE):TO:=λσ H Q=>t σ H λx H1=>∃i,x=.int i/\Q (some i) H1
theorem jD:∀{us:List WG},aW (ns.map V.int) us->abp us ns:=by
 induction ns with
 |nil=>intro us r;rw[XX] at r;cases r;exact .nil
 |cons n ns ih=>
  intro us r;rw[WB] at r;cases r with
  |cons r1 r2=>
   obtain⟨t,e⟩:=r1;subst e;exact .cons n t (ih r2)
section
variable {e:YV}{lo hi:Option YV}{tl th:TO}
theorem HU:PO X none HQ:=by
 intro pins s σ H Q I h;rw[evalPart_none];exact Wy ⟨none,H,I,.none,h⟩
theorem HV (h:PE X e te):PO X (some e) (OG te):=by
 intro pins s σ H Q I hw;rw[evalPart_some];refine dC (h pins s σ H _ I hw) λu s1 ⟨x,H1,I1,r1,q1⟩=>?_;obtain⟨i,rfl,q⟩:=q1;obtain⟨t,rfl⟩:=r1;exact⟨some i,H1,I1,.int i t,q⟩
def D6 (X:Cx)(r:V->Option Int->Option Int->Hp->VK->Prop):Prop:=
 ∀(pins:List (W8×Obj)) (s:WT) (σ:St) (H:Hp) (x:V) (v vl vu:WG) (lo hi:Option Int) (sl:W8) (Q:VK),az X pins σ H s->aO x v->s.heap.IsSliceOf sl vl vu .none->IsPart vl lo->IsPart vu hi->r x lo hi H Q->
  ∃T id,typeLookup (.type T) "__getitem__"=pure (some (.builtin id))/\s.TypeIs v T/\WX (Xg X.prog X.w) X.A (abH v (.ref sl)) (EP X pins σ Q) X.xe s
theorem D6.or {r r':V->Option Int->Option Int->Hp->VK->Prop}(h:D6 X r)(h':D6 X r'):D6 X (λx lo hi H Q=>r x lo hi H Q\/r' x lo hi H Q):=by
 intro pins s σ H x v vl vu lo hi sl Q I rx hs pl pu q;rcases q with q|q
 ·exact h pins s σ H x v vl vu lo hi sl Q I rx hs pl pu q
 ·exact h' pins s σ H x v vl vu lo hi sl Q I rx hs pl pu q
def UM (r:V->Option Int->Option Int->Hp->VK->Prop)(te:TE)(tl th:TO):TE:=λσ H Q=>te σ H λx H1=>tl σ H1 λl H2=>th σ H2 λu H3=>r x l u H3 Q
theorem D7 {r:V->Option Int->Option Int->Hp->VK->Prop}(hr:D6 X r)(he:PE X e te)(hl:PO X lo tl)(hu:PO X hi th):PE X (.Subscript e (.Slice lo hi none p2) pos) (UM r te tl th):=by
 intro pins s σ H Q I h;refine Subscript_ (dC (he pins s σ H _ I h) λv s1 ⟨x,H1,I1,r1,q1⟩=>?_);refine wpAny_Slice (dC (hl pins s1 σ H1 _ I1 q1) λvl s2 ⟨l,H2,I2,pl,q2⟩=>dC (hu pins s2 σ H2 _ I2 q2) λvu s3 ⟨u,H3,I3,pu,q3⟩=>?_);rw[evalPart_none];refine Wy ?_;have I4:az X pins σ H3 {s3 with heap:=s3.heap.push {cls:=.type "slice",data:=.fields #[vl,vu,.none]}}:=I3.kept (t':=s3.toks) λb ob q=>Wz _ q;obtain⟨T,id,hT,ht,hg⟩:=hr pins {s3 with heap:=s3.heap.push {cls:=.type "slice",data:=.fields #[vl,vu,.none]}} σ H3 x v vl vu l u s3.heap.objs.size Q I4 r1 (Heap.IsSliceOf.new ..) pl pu q3;show WX (Xg X.prog X.w) X.A (subscriptTail e (.Slice lo hi none p2) v (.ref s3.heap.objs.size)) (EP X pins σ Q) X.xe {s3 with heap:=s3.heap.push {cls:=.type "slice",data:=.fields #[vl,vu,.none]}};exact tail_any (ops:=[.ref s3.heap.objs.size,v]) ht hT hg (by with_unfolding_all rfl)
noncomputable def qL (xs:List V)(lo hi:Option Int):List V:=(xs.drop (HT.sIx xs.length 0 lo)).take (HT.sIx xs.length xs.length hi-HT.sIx xs.length 0 lo)
theorem oC (xs:List V)(lo hi:Option Int):(qL xs lo hi).length<=xs.length:=by
 unfold qL;rw[W_,XA];lia
def OH (K:WD):V->Option Int->Option Int->Hp->VK->Prop:=λx lo hi H Q=>∃a xs,x=.ref a/\gU K H a xs/\
 ¬(HT.sIx xs.length 0 lo=0/\HT.sIx xs.length xs.length hi=xs.length)/\∀p,H p=none->Q (.ref p) (cD H p (.tup (qL xs lo hi)))
theorem LQ:D6 X (OH X.K):=by
 intro pins s σ H x v vl vu lo hi sl Q I rx hs pl pu h;obtain⟨a,xs,rfl,hx,hw,q⟩:=h;cases rx;obtain⟨au,r,ht,hz⟩:=I.tuple hx;have c7:au.toArray.size=xs.length:=by rw[WJ];exact r.length.symm
 refine⟨"tuple",_,PyProof.Rows.slot_tuple_getitem.lookup,ht.typeIs,?_⟩;refine HT.getItem_tuple_cut ht hs pl pu (by rw[c7];exact hw) ?_ (by rw[c7];exact hz);rw[c7];refine⟨.ref s.heap.objs.size,_,I.laid (t':=s.toks) (o:=.tup (qL xs lo hi)) (λb ob q=>Wz _ q) (WK _) ?_,rfl,q _ (I.hok.fresh (WK _))⟩;exact⟨XG (oC xs lo hi) hz,_,(r.drop (HT.sIx xs.length 0 lo)).take (HT.sIx xs.length xs.length hi-HT.sIx xs.length 0 lo),IsTup.new _ _,_,WL _ rfl⟩
def OI (K:WD):R2:=λx y H Q=>∃a b xs ys,x=.ref a/\y=.ref b/\gU K H a xs/\gU K H b ys/\xs≠[]/\xs.length+ys.length<=WC/\
 (ys=[]->Q (.ref a) H)/\(ys≠[]->∀p,H p=none->Q (.ref p) (cD H p (.tup (xs++ys))))
theorem aW.nil_iff {us:List WG}(r:aW xs us):us=[]↔xs=[]:=by
 cases r with
 |nil=>simp
 |cons _ _=>simp
theorem HW:lL X (aar .Add) (OI X.K):=by
 intro pins s σ H x y v u Q I rx ry h;obtain⟨a,b,xs,ys,rfl,rfl,ha,hb,hx,hz,q1,q2⟩:=h;cases rx;cases ry;obtain⟨au,r1,p1,_⟩:=I.tuple ha;obtain⟨its2,r2,p2,_⟩:=I.tuple hb;refine HT.cat_tup p1 p2 (λz=>hx (r1.nil_iff.mp z)) (λz=>⟨.ref a,H,I,rfl,q1 (r2.nil_iff.mp z)⟩) (λz=>?_) (by rw[←r1.length,←r2.length];exact hz);refine⟨.ref s.heap.objs.size,_,I.laid (t':=s.toks) (o:=.tup (xs++ys)) (λb ob q=>Wz _ q) (WK _) ?_,rfl,q2 (λw=>z (r2.nil_iff.mpr w)) _ (I.hok.fresh (WK _))⟩;exact⟨by rw[WI];exact hz,_,r1.append r2,IsTup.new _ _,_,WL _ rfl⟩
end
end L2
namespace L2
noncomputable def Dy (n:Nat)(i:Int):Option Nat:=if 0<=i then (if i<n then some i.toNat else none) else if -(n:Int)<=i then some (i+n).toNat else none
noncomputable def my {α:Type}(xs:List α)(i:Int):Option α:=(Dy xs.length i).bind λj=>xs[j]?
theorem AG {i:Int}(h:Dy n i=some j):acq i n=some j/\j<n/\ -(n:Int)<=i/\i<n:=by
 unfold Dy at h;by_cases h0:0<=i
 ·rw[hZ h0] at h;by_cases h1:i<n
  ·rw[hZ h1] at h;have e:i.toNat=j:=W6 h;exact⟨by rw[seqIndex_of h0 h1,e],by lia,by lia,h1⟩
  ·rw[hV h1] at h;cases h
 ·rw[hV h0] at h;by_cases h1 : -(n:Int)<=i
  ·rw[hZ h1] at h;have e:(i+n).toNat=j:=W6 h;exact⟨by rw[seqIndex_neg (by lia) h1,e],by lia,h1,by lia⟩
  ·rw[hV h1] at h;cases h
theorem vo {α:Type}{xs:List α}{i:Int}{v:α}(h:my xs i=some v):∃j,acq i xs.length=some j/\xs[j]? = some v/\j<xs.length/\ -(xs.length:Int)<=i/\i<xs.length:=by
 unfold my at h;cases e:Dy xs.length i with
 |none=>rw[e] at h;cases h
 |some j=>
  rw[e] at h;obtain⟨h1,h2,h3,h4⟩:=AG e;exact⟨j,h1,h,h2,h3,h4⟩
def AH (b:YV):Prop:=∀o i,subscripted b false o i=operate [o,i] (abH o i)
def Hj (X:Cx)(r:R2):Prop:=
 ∀(value slice:YV) (pins:List (W8×Obj)) (s:WT) (σ:St) (H:Hp) (x y:V) (v u:WG) (Q:VK),az X pins σ H s->aO x v->aO y u->r x y H Q->
  subscripted slice false v u=operate [v,u] (abH v u)->WX (Xg X.prog X.w) X.A (subscriptTail value slice v u) (EP X pins σ Q) X.xe s
def JO (X:Cx)(id:String)(r:V->List V->Hp->VK->Prop):Prop:=
 ∀(pins:List (W8×Obj)) (s:WT) (σ:St) (H:Hp) (x:V) (xs:List V) (v:WG) (us:List WG) (Q:VK),az X pins σ H s->aO x v->aW xs us->r x xs H Q->
  WX (Xg X.prog X.w) X.A (call (.builtin id) (v::us)) (EP X pins σ Q) X.xe s
section
variable {a b:YV}{ta tb:TE}
theorem Hj.or {r':R2}(h:Hj X r)(h':Hj X r'):Hj X (λx y H Q=>r x y H Q\/r' x y H Q):=by
 intro value slice pins s σ H x y v u Q I rx ry q hs;rcases q with q|q
 ·exact h value slice pins s σ H x y v u Q I rx ry q hs
 ·exact h' value slice pins s σ H x y v u Q I rx ry q hs
theorem JO.or {id:String}{r r':V->List V->Hp->VK->Prop}(h:JO X id r)(h':JO X id r'):JO X id (λx xs H Q=>r x xs H Q\/r' x xs H Q):=by
 intro pins s σ H x xs v us Q I rx rs q;rcases q with q|q
 ·exact h pins s σ H x xs v us Q I rx rs q
 ·exact h' pins s σ H x xs v us Q I rx rs q
theorem OJ (hr:Hj X r)(ha:PE X a ta)(hb:PE X b tb)(hs:AH b):PE X (.Subscript a b pos) (Ot r ta tb):=by
 intro pins s σ H Q I h;exact Subscript_ (LG ha hb I h λv u s2 x y H2 I2 rx ry q=>hr a b pins s2 σ H2 x y v u Q I2 rx ry q (hs _ _))
def OL (K:WD):R2:=λx y H Q=>∃p xs i v,x=.ref p/\y=.int i/\gc K H p xs/\my xs i=some v/\Q v H
def OM (K:WD):R2:=λx y H Q=>∃p xs i v,x=.ref p/\y=.int i/\gU K H p xs/\my xs i=some v/\Q v H
def ON:R2:=λx y H Q=>∃z i c,x=.str z/\y=.int i/\z.length<=WC/\my z.cps.toList i=some c/\Q (.str ⟨#[c]⟩) H
theorem HX:Hj X (OL X.K):=by
 intro value slice pins s σ H x y v u Q I rx ry h hs;obtain⟨p,xs,i,z,rfl,rfl,hq,he,q⟩:=h;cases rx;obtain⟨t,rfl⟩:=ry;obtain⟨au,r,pl,hz⟩:=I.list hq;obtain⟨j,h1,h2,h3,h4,h5⟩:=vo he;obtain⟨w,ew,yW⟩:=r.get h2;have hl:=r.length;have hn:=nG;have fin:EP X pins σ Q w s:=⟨z,H,I,yW,q⟩;by_cases h0:0<=i
 ·have hj:i.toNat=j:=by
   rw[seqIndex_of h0 h5] at h1;exact W6 h1
  exact item_listR pl.isList h0 (by lia) (by rw[hj];simpa using ew) fin hs
 ·have hj:(i+(au.toArray.size:Int)).toNat=j:=by
   rw[seqIndex_neg (by lia) h4] at h1;rw[WJ,←hl];exact W6 h1
  exact subscriptTail_builtinR (x:=w) pl.isList.typeIs slot_list_getitem.lookup
   (wpAny_getItem_list_neg (Q:=λr s'=>r=w/\EP X pins σ Q r s') pl.isList (by lia) (by rw[WJ]<;>lia) (by lia) (by rw[hj];simpa using ew) ⟨rfl,fin⟩) hs
theorem LS:Hj X (OM X.K):=by
 intro value slice pins s σ H x y v u Q I rx ry h hs;obtain⟨p,xs,i,z,rfl,rfl,hq,he,q⟩:=h;cases rx;obtain⟨t,rfl⟩:=ry;obtain⟨au,r,pl,hz⟩:=I.tuple hq;obtain⟨j,h1,h2,h3,h4,h5⟩:=vo he;obtain⟨w,ew,yW⟩:=r.get h2;have hl:=r.length;have hn:=nG;have fin:EP X pins σ Q w s:=⟨z,H,I,yW,q⟩;exact subscriptTail_builtinR (x:=w) pl.typeIs slot_tuple_getitem.lookup
  (getItem_tuple (j:=j) (Q:=λr s'=>r=w/\EP X pins σ Q r s') pl (by lia) (by lia) (by rw[WJ,←hl];exact h1) (by simpa using ew) ⟨rfl,fin⟩) hs
theorem LU:Hj X ON:=by
 intro value slice pins s σ H x y v u Q I rx ry h hs;obtain⟨z,i,c,rfl,rfl,hz,he,q⟩:=h;obtain⟨t,rfl⟩:=rx;obtain⟨t',rfl⟩:=ry;obtain⟨j,h1,h2,h3,h4,h5⟩:=vo he;have hl:z.cps.toList.length=z.length:=by simp[Str.length]
 rw[hl] at h1 h4 h5;have hn:=nG;exact tail_any (typeIs_str s z t) slot_str_getitem.lookup (getItem_str (c:=c) (by
  have e1:decide (i < -(2 ^ 63:Int))=false:=hJ (by lia);have e2:decide (i≥2 ^ 63)=false:=hJ (by lia);rw[e1,e2,Bool.or_false]) (by rw[h1];simpa using h2) ⟨.str ⟨#[c]⟩,H,I.tok _,⟨_,rfl⟩,q⟩) hs
def TB (K:WD):R2:=λx y H Q=>OL K x y H Q\/OM K x y H Q\/ON x y H Q
theorem bF:Hj X (TB X.K):=HX.or (LS.or LU)
theorem zg (au:List WG)(n j:Nat)(u:WG):aaa (·.setIfInBounds j u) {cls:=.type "list",data:=.seq au.toArray n}={cls:=.type "list",data:=.seq (au.set j u).toArray n}:=by
 simp[aaa]
theorem az.lst (I:az X pins σ H s)(h:H p=some (.lst xs)) :
  ∃(au:List WG) (n:Nat),aW xs au/\s.heap.get? p=some {cls:=.type "list",data:=.seq au.toArray n}/\xs.length<=WC:=by
 obtain⟨z,au,n,r,e⟩:=I.hok p _ h;exact⟨au,n,r,e,z⟩
theorem az.lstUpd {ys:List V}{its':List WG}{n':Nat}{f:Obj->Obj}(I:az X pins σ H s)(h:H p=some (.lst xs))(ho:s.heap.get? p=some {cls:=.type "list",data:=.seq au.toArray n})(hf:f {cls:=.type "list",data:=.seq au.toArray n}={cls:=.type "list",data:=.seq its'.toArray n'})(r:aW ys its')(hz:ys.length<=WC)(t:Nat) :
  az X pins σ (cD H p (.lst ys)) {s with heap:=s.heap.update p f,toks:=t}:=by
 have e:(s.heap.update p f).get? p=some {cls:=.type "list",data:=.seq its'.toArray n'}:=by
  rw[YW f ho (by rw[hf]<;>rfl),hf]
 refine I.write (x:=p) (e:=p) (by rw[h];trivial) (.inl rfl) (λb u hb q=>(Heap.get?_update_other _ _ (Ne.symm hb)).trans q) ⟨_,e⟩ ?_;exact⟨hz,its',n',r,e⟩
def OO:V->V->V->Hp->(Hp->Prop)->Prop:=λo i v H Q=>∃p xs k j,o=.ref p/\i=.int k/\H p=some (.lst xs)/\Dy xs.length k=some j/\Q (cD H p (.lst (xs.set j v)))
theorem D8:Ol X OO:=by
 intro pins s σ H o i v ov iv u Q I ro ri rv h;obtain⟨p,xs,k,j,rfl,rfl,hp,hj,q⟩:=h;cases ro;obtain⟨t,rfl⟩:=ri;obtain⟨au,n,r,ho,hz⟩:=I.lst hp;obtain⟨h1,h2,h3,h4⟩:=AG hj;have hl:=r.length;have hn:=nG;have I':az X pins σ (cD H p (.lst (xs.set j v))) {s with heap:=s.heap.update p (aaa (·.setIfInBounds j u))}:=
  I.lstUpd hp ho (zg au n j u) (r.set rv j) (by rw[Yl];exact hz) s.toks
 by_cases h0:0<=k
 ·have hk:k.toNat=j:=by
   rw[seqIndex_of h0 h4] at h1;exact W6 h1
  exact PySem.W.ki_setAt ho h0 (by lia) (by rw[WJ,←hl];exact h4) (by rw[hk];exact⟨_,I',q⟩)
 ·have hk:(k+(au.toArray.size:Int)).toNat=j:=by
   rw[seqIndex_neg (by lia) h3] at h1;rw[WJ,←hl];exact W6 h1
  exact PySem.W.ki_setBack ho (by lia) (by rw[WJ,←hl];exact h3) (by lia) (by rw[hk];exact⟨_,I',q⟩)
theorem vp (lo hi:Option Int)(n:Nat):(aa3 lo hi none n).1=((HT.sIx n 0 lo:Nat):Int)/\(aa3 lo hi none n).2.1=((HT.sIx n n hi:Nat):Int)/\(aa3 lo hi none n).2.2=1:=by
 refine⟨?_,?_,rfl⟩
 ·cases lo with
  |none=>simp[aa3,HT.sIx]
  |some i=>
   simp only[aa3,HT.sIx,abq,show (1:Int)>0 by decide,if_true];by_cases h:i<0
   ·simp only[h,if_true]<;>lia
   ·simp only[h,if_false]<;>lia
 ·cases hi with
  |none=>simp[aa3,HT.sIx]
  |some i=>
   simp only[aa3,HT.sIx,abq,show (1:Int)>0 by decide,if_true];by_cases h:i<0
   ·simp only[h,if_true]<;>lia
   ·simp only[h,if_false]<;>lia
theorem tE (au:List WG)(lo hi:Option Int):slicePick au.toArray lo hi none=((au.drop (HT.sIx au.length 0 lo)).take (HT.sIx au.length au.length hi-HT.sIx au.length 0 lo)).toArray:=by
 obtain⟨h1,h2,h3⟩:=vp lo hi au.toArray.size;unfold slicePick;rw[h1,h2,h3];simp only[sliceRange_one,pick_run,WJ]<;>rfl
def HY (K:WD):V->Option Int->Option Int->Hp->VK->Prop:=λx lo hi H Q=>∃a xs,x=.ref a/\gc K H a xs/\∀p,H p=none->Q (.ref p) (cD H p (.lst (qL xs lo hi)))
theorem HZ:D6 X (HY X.K):=by
 intro pins s σ H x v vl vu lo hi sl Q I rx hs pl pu h;obtain⟨a,xs,rfl,hx,q⟩:=h;cases rx;obtain⟨au,r,ht,hz⟩:=I.list hx;have c7:=r.length;refine⟨"list",_,slot_list_getitem.lookup,ht.isList.typeIs,?_⟩;refine wpAny_getItem_list_slice ht.isList hs pl pu .none (by simp) ?_ (by rw[WJ]<;>lia);rw[tE,←c7];refine⟨.ref s.heap.objs.size,_,I.laid (t':=s.toks) (o:=.lst (qL xs lo hi)) (λb ob q=>Wz _ q) (WK _) ?_,rfl,q _ (I.hok.fresh (WK _))⟩;exact⟨XG (oC xs lo hi) hz,_,0,(r.drop (HT.sIx xs.length 0 lo)).take (HT.sIx xs.length xs.length hi-HT.sIx xs.length 0 lo),WL _ rfl⟩
theorem aN:eE X (.type "tuple") (λxs H Q=>∃p ys,xs=[.ref p]/\((gc X.K H p ys/\∀l,H l=none->Q (.ref l) (cD H l (.tup ys)))\/(gU X.K H p ys/\Q (.ref p) H))):=by
 intro pins s σ H xs us Q I r h;obtain⟨p,ys,rfl,h⟩:=h;obtain⟨u,rfl,rx⟩:=jf r;cases rx;rcases h with⟨hq,q⟩|⟨hq,q⟩
 ·obtain⟨au,r',pl,hz⟩:=I.list hq;have c7:=r'.length;refine call_tuple_list pl.isList (λh' kp=>?_) (by simp only[WJ]<;>lia);have I1:az X pins σ H {s with heap:=h'}:=I.kept (t':=s.toks) kp;have I2:az X pins σ (cD H h'.objs.size (.tup ys)) {s with heap:=h'.push {cls:=.type "tuple",data:=.seq au.toArray}}:=
   I1.laid (t':=s.toks) (λb o e=>Wz _ e) (WK _) (show bO X.prog X.w _ _ _ (.tup ys) from ⟨hz,au,r',IsTup.new _ _,_,WL _ rfl⟩)
  exact⟨.ref h'.objs.size,_,I2,rfl,q _ (I1.hok.fresh (WK _))⟩
 ·obtain⟨au,r',pl,hz⟩:=I.tuple hq;exact call_tuple_same pl ⟨.ref p,H,I,rfl,q⟩
def R3 (K:WD)(T:String)(x:V)(H:Hp):Prop:=match x with
 | .str _=>T="str"
 | .int _=>T="int"
 | .ref p=>(T="list"/\∃xs,gc K H p xs)\/(T="tuple"/\((∃o,K.lookup p=some o/\o.cls=.type "tuple"/\o.dict=none)\/∃xs,H p=some (.tup xs))) \/
   (T="dict"/\((∃aL,H p=some (.dK aL))\/∃aL,H p=some (.dT aL)))\/(T="set"/\∃S n,H p=some (.set S n))
 |_=>False
theorem LV {T:String}{x:V}{v:WG}(I:az X pins σ H s)(r:aO x v)(ty:R3 X.K T x H) :
  s.TypeIs v T/\∀a,v=.ref a->∃ob,s.heap.get? a=some ob/\ob.dict=none:=by
 cases x with
 |str z=>
  obtain⟨t,rfl⟩:=r;cases (show T="str" from ty);exact⟨typeIs_str s z t,λ_ e=>nomatch e⟩
 |int i=>
  obtain⟨t,rfl⟩:=r;cases (show T="int" from ty);exact⟨typeIs_int s i t,λ_ e=>nomatch e⟩
 |ref p=>
  cases r;rcases ty with⟨rfl,xs,hq⟩|⟨rfl,⟨o,hk,hc,hd⟩|⟨xs,hq⟩⟩|⟨rfl,hk⟩|⟨rfl,S,n,hk⟩
  ·obtain⟨au,_,pl,_⟩:=I.list hq;refine⟨pl.isList.typeIs,λa e=>?_⟩;cases e;obtain⟨o,n,e,c,hd,_⟩:=pl;exact⟨o,e,hd⟩
  ·refine⟨⟨o,I.kIn p o hk,hc⟩,λa e=>?_⟩;cases e;exact⟨o,I.kIn _ o hk,hd⟩
  ·obtain⟨_,au,_,⟨o,e,c,_⟩,n2,e2⟩:=I.hok p _ hq;refine⟨⟨o,e,c⟩,λa e'=>?_⟩;cases e';exact⟨_,e2,rfl⟩
  ·have z:∃o,s.heap.get? p=some o/\o.ExactDict:=by
    rcases hk with⟨aL,hk⟩|⟨aL,hk⟩
    ·obtain⟨_,_,_,_,o,_,_,e,ex,_⟩:=I.hok p _ hk;exact⟨o,e,ex⟩
    ·obtain⟨_,_,_,_,o,_,_,e,ex,_⟩:=I.hok p _ hk;exact⟨o,e,ex⟩
   obtain⟨o,e,ex⟩:=z;refine⟨⟨o,e,ex.1⟩,λa e2=>?_⟩;cases e2;exact⟨o,e,ex.2.1⟩
  ·obtain⟨o,_,_,_,e,ex,_⟩:=I.hok p _ hk;refine⟨⟨o,e,ex.1⟩,λa e2=>?_⟩;cases e2;exact⟨o,e,ex.2.1⟩
 |_=>exact Z_ ty
def TC (K:WD)(T:String)(r:V->List V->Hp->VK->Prop)(to:TE)(t:TA):TE:=λσ H Q=>to σ H λx H1=>R3 K T x H1/\t σ H1 λxs H2=>r x xs H2 Q
variable {o e:YV}{es:List YV}{to:TE}{t:TA}{name:Str}{gz cpos:Pos}{T id:String}{r:V->List V->Hp->VK->Prop}
theorem OP (pa:PlainAttrs T)(slot:Slot T name id)(S0:typeOf (.builtin id)=pure (.type "method_descriptor"))(hm:JO X id r)(ho:PE X o to)(ha:PA X (e::es) t)
  (G6:abA o name X.env (aaj o X.env)=aaj o X.env:=by rfl)
  (NC:((Zy cpos (W7 (e::es) X.env)).all (λx=> !x.1)&&(backToKw cpos (keywordEach [] X.env)).all (λx=>x.1.isSome)
   && decide ((e::es).length+([]:List acb).length+(if ([]:List acb).isEmpty then 0 else 1)<30))=true:=by rfl)
  (G7:(gz.endLine==cpos.line)=true:=by rfl) (hs:W7 (e::es) X.env=(false,aaj e X.env)::W7 es X.env:=by rfl) (Aw:(Zy cpos (W7 es X.env)).any (·.1)=false:=by rfl) :
  PE X (.Call (.Attribute o name gz) (e::es) [] cpos) (TC X.K T r to t):=by
 intro pins s σ H Q I h;refine wpAny_Call_method_late G6 NC G7 rfl (dC (ho pins s σ H _ I h) λv s1 ⟨x,H1,I1,r1,ty,q1⟩=>?_);obtain⟨h1,h2⟩:=LV I1 r1 ty;refine⟨T,id,pa,slot,S0,h1,h2,?_⟩;have hA:=ha cpos pins s1 σ H1 _ I1 q1;rw[hs] at hA ⊢;refine aaZ (by show (false||(Zy cpos (W7 es X.env)).any (·.1))=false;rw[Aw]<;>rfl) (Calls.evalArgs_plain ?_);exact dC hA λus s2 ⟨vs,H2,I2,r2,q2⟩=>hm pins s2 σ H2 x vs v us Q I2 r1 r2 q2
end
end L2
namespace L2
def R4 (X:Cx)(id:String)(r:V->List V->Hp->VK->Prop):Prop:=
 ∀(pins:List (W8×Obj)) (s:WT) (σ:St) (H:Hp) (x:V) (xs:List V) (v:WG) (us:List WG) (Q:VK),az X pins σ H s->aO x v->aW xs us->r x xs H Q->
  WX (Xg X.prog X.w) X.A (call (.builtin id) (v::us)) (EP X pins σ Q) X.xe s
theorem aW.one:∀{x:V} {us:List WG},aW [x] us->∃u,us=[u]/\aO x u
 |_,_,.cons r .nil=>⟨_,rfl,r⟩
theorem aW.eraseIdx:∀{xs:List V} {us:List WG} (i:Nat),aW xs us->aW (xs.eraseIdx i) (us.eraseIdx i)
 |_,_,_,.nil=>.nil
 |_,_,0,.cons _ t=>t
 |_,_,i+1,.cons r t=>.cons r (aW.eraseIdx i t)
theorem uw {α:Type}:∀(l:List α) (i:Nat),(l.eraseIdx i).length<=l.length
 | [],_=>WK _
 |_::_,0=>Nat.le_succ _
 |_::r,i+1=>Nat.succ_le_succ (uw r i)
section
variable {l:W8}{ys zs:List V}
theorem az.lset {t':Nat}{its':List WG}{f:Array WG->Array WG}(I:az X pins σ H s)(hH:H l=some (.lst xs))(e:s.heap.get? l=some {cls:=.type "list",data:=.seq au.toArray n})(hf:f au.toArray=its'.toArray)(hv:aW ys its')(hz:ys.length<=WC) :
  az X pins σ (cD H l (.lst ys)) {s with heap:=s.heap.update l (aaa f),toks:=t'}:=by
 have q:=PySem.IsL.update e f;rw[hf] at q;refine I.write (x:=l) (e:=l) (by rw[hH];exact trivial) (.inl rfl) (λb' u hb hu=>(Heap.get?_update_other s.heap (aaa f) (Ne.symm hb)).trans hu) ⟨_,q⟩ ?_;exact⟨hz,its',_,hv,q⟩
theorem az.lnew {t':Nat}(I:az X pins σ H s)(hv:aW ys au)(hz:ys.length<=WC) :
  az X pins σ (cD H s.heap.objs.size (.lst ys)) {s with heap:=s.heap.push {cls:=.type "list",data:=.seq au.toArray},toks:=t'}:=
 I.laid (λ_ _ q=>Wz _ q) (WK _) ⟨hz,au,0,hv,WL _ rfl⟩
theorem az.fresh (I:az X pins σ H s):H s.heap.objs.size=none:=I.hok.fresh (WK _)
theorem az.lstM (I:az X pins σ H s)(hH:H l=some (.lst xs)):xs.length<=WC/\∃(au:List WG) (n:Nat),aW xs au/\xs.length=au.length/\s.heap.get? l=some {cls:=.type "list",data:=.seq au.toArray n}:=by
 obtain⟨z,au,n,r,e⟩:=I.hok l _ hH;exact⟨z,au,n,r,r.length,e⟩
theorem xj (h:n<=WC):ZC n=false:=by
 unfold ZC;exact hJ (by lia)
end
def AI:V->List V->Hp->VK->Prop:=λx vs H Q=>∃l xs y,x=.ref l/\vs=[y]/\H l=some (.lst xs)/\xs.length<WC/\Q .non (cD H l (.lst (xs++[y])))
theorem kR:R4 X "list.append" AI:=by
 intro pins s σ H x vs v us Q I rx rv h;obtain⟨l,xs,y,rfl,rfl,hH,hz,q⟩:=h;cases rx;obtain⟨u,rfl,ru⟩:=rv.one;obtain⟨z,au,n,r,hl,e⟩:=I.lstM hH;refine call_meets F.slot_list_append ⟨_,e,rfl⟩ F.entry_list_append (F.args_list_append_2 _ _) (PySem.list_append l au.toArray n u (by rw[WJ];lia)) ⟨e,?_⟩;refine⟨.non,_,I.lset (its':=au++[u]) hH e (by simp) (r.append (.cons ru .nil)) ?_,rfl,q⟩;rw[WI,Ya];lia
def D9:V->List V->Hp->VK->Prop:=λx vs H Q=>∃l xs i k y,x=.ref l/\vs=[.int i]/\H l=some (.lst xs)/\ -(2 ^ 63)<=i/\i<2 ^ 63/\acq i xs.length=some k/\xs[k]? = some y/\Q y (cD H l (.lst (xs.eraseIdx k)))
theorem D_:R4 X "list.pop" D9:=by
 intro pins s σ H x vs v us Q I rx rv h;obtain⟨l,xs,i,k,y,rfl,rfl,hH,h1,h2,hk,hy,q⟩:=h;cases rx;obtain⟨u,rfl,ru⟩:=rv.one;obtain⟨t,rfl⟩:=ru;obtain⟨z,au,n,r,hl,e⟩:=I.lstM hH;obtain⟨w,hw,yW⟩:=r.get hy;refine call_meets F.slot_list_pop ⟨_,e,rfl⟩ F.entry_list_pop (F.args_list_pop_2 _ _)
  (MeetsSeq.list_pop_at l au.toArray n i t k w (fitsIndex_both h1 h2) (by rw[WJ,←hl];exact hk) (by rw[←W4];exact hw) (by rw[WJ];lia)) ⟨e,?_⟩
 refine⟨y,_,I.lset (its':=au.eraseIdx k) hH e ?_ (r.eraseIdx k) ?_,yW,q⟩
 ·show au.toArray.eraseIdxIfInBounds k=(au.eraseIdx k).toArray;rw[List.eraseIdxIfInBounds_toArray]
 ·have:=uw xs k;lia
section
variable {A:XD}
set_option maxRecDepth 100000 in
end
end L2
namespace Att
open PySem.W PySem.Calls
theorem pK {P:Params}:∀(ns:List Int) (vs:List WG),WellAll P h vs (ns.map WData.int)->abp vs ns:=by
 intro ns
 induction ns with
 |nil=>
  intro vs w;rw[XX] at w;cases w;exact .nil
 |cons n ns ih=>
  intro vs w;rw[WB] at w;cases w with
  |cons a b=>
   cases a;exact .cons _ _ (ih _ b)
theorem Cv {l:OpenLaw}(hn:l.most=some n){P:Params}{args:List WData}{ND:List WG}(JI:l.row.toRowW.claim.pre args=true)(S1:WellAll P h ND args) :
  ∃a vs ns,ND=[Value.ref a]/\args=[WData.list (ns.map WData.int)]/\h.get? a=some {cls:=.type "list",data:=.seq vs.toArray}/\abp vs ns/\ns.length<=n:=by
 have U4:WShape.hasAll [] args [.list .int]=true:=(pre_splitW JI).1;have hc:l.pre.holds [] {args:=args}=true:=(pre_splitW JI).2;obtain⟨d,r,rfl,h1,h2⟩:=hasAllW_cons U4;obtain rfl:=hasAllW_nil h2;obtain⟨xs,rfl,h3⟩:=hasW_list h1;obtain⟨ns,rfl⟩:=items_int h3;have c7:ns.length<=n:=by
  unfold OpenLaw.pre at hc;have h4:(WTm.not (.lt (.lit (.int (n:Int))) (.len (.arg 0)))).holds [] {args:=[.list (ns.map .int)]}=true:=by
   have h4:=(holds_andW hc).1;rw[hn] at h4;exact h4
  have h5:=condW_of h4 (w_not (w_lt w_lit (w_len_list (w_arg rfl))));rw[Ww] at h5;refine Nat.le_of_not_lt λq=>?_;have q':(n:Int)<((ns.length:Nat):Int):=by lia
  first
   | (rw[hG q'] at h5;exact absurd h5 (by decide))
   | (simp at h5;lia)
 cases S1 with
 |cons w1 w2=>
  cases w2;cases w1 with
  |list ho hall=>exact⟨_,_,ns,rfl,rfl,ho,pK ns _ hall,c7⟩
theorem Cw (l:OpenLaw)(args:List WData):l.row.toRowW.claim.post args (.bool true) args=true:=
 postW_of (r:=l.row.toRowW) (X:=(true==true))
  (show WShape.has [] (.bool true) .bool=true by first|rfl|decide|simp[WShape.has,WShape.arms,WShape.armsAll])
  (show (WTm.eq .res (.lit (.bool true))).value [] {args:=args,res:=some (.bool true),after:=args}=some (.bool (true==true)) from w_eq_bool (w_res rfl) w_lit) rfl
theorem attach_call {l:OpenLaw}{q:Zx}{d:DefRec}(hn:l.most=some n)(QE:d.params.defaults=[])(call:∀(w:ZU) (s₀ s₁:WT) (mg mb:Str->Option WG) (fa:W8) (o:Obj) (pm cd nF:WG) (a:W8) (vs:List WG) (ns:List Int),
   Ground q loose [] XP w s₀ mg mb s₁.heap->YP w s₁.heap->
   s₁.heap.get? fa=some o->o.data=.func (docDef d.name d.params d.body d.scope pm cd nF)->s₁.heap.CodeRec cd d.name->mg d.name=some (.ref fa)->
   s₁.heap.get? a=some {cls:=.type "list",data:=.seq vs.toArray}->abp vs ns->ns.length<=n->s₁.gens=#[]->
   codeAny (Xg l.prog w) callerA (.call (.ref fa) ⟨[.ref a],[]⟩) (λr s'=>r=.ok (.ret (.bool true))/\OldK s₁.heap s'.heap/\s'.os=s₁.os/\AllBare s'.gens) s₁) :
  WalkO q loose XP YP l.row.toRowW d [] (λf vs=>PySem.call f vs):=by
 intro w s₀ s₁ mg mb G Y fa o pm cd nF dV kV ho hd ny hD QF hg args ND as JI U5 Wa S1 Wb;obtain rfl:dV=.none:=Dflts.none hD QE;obtain rfl:kV=.none:=Dflts.noKw hD;obtain⟨a,vs,ns,rfl,rfl,NF,G8,c7⟩:=Cv hn JI S1;refine enter_call (abi (call w s₀ s₁ mg mb fa o pm cd nF a vs ns G Y ho (fd_plain hd) ny QF NF G8 c7 hg) λr s' hq=>?_);obtain⟨rfl,h2,h3,h4⟩:=hq;exact⟨.inl ⟨.bool true,.bool true,[],rfl,λ_=>rfl,.bool true,Cw l _,λ_=>⟨List.Pairwise.nil,λ_ hm=>(nomatch hm)⟩⟩,h2,h3,h4⟩
end Att
namespace L2
theorem nI:∀{vs:List WG} {ns:List Int},abp vs ns->aW (ns.map V.int) vs
 |_,_,.nil=>.nil
 |_,_,.cons n t h=>.cons ⟨t,rfl⟩ (nI h)
def H0 (H:Hp):Prop:=∀b,H b=none\/∃o xs,H b=some (.frz o (.lst xs))
theorem Ea {mb:Str->Option WG}{fa:W8}{s₁:WT}{vs:List WG}(KX:K.In s₁.heap)(Ug:s₁.heap.Ns XH mg)(hb:s₁.heap.Ns builtinsNs mb)(U6:∀x:Str,x≠"__name__"->mb x=XM x)(S2:s₁.heap.NoLimit)(hg:s₁.gens=#[])(ha:s₁.heap.get? a=some {cls:=.type "list",data:=.seq vs.toArray})(hi:abp vs ns)(hl:ns.length<=WC)(hr:eQ k callerA)(F:∀base:Zv,K.In base->base.Ns XH mg->lq P w K mg base CX k fa fd [x] sp)(QG:∀(s:WT) (u:WG),BindsTo s fd ⟨[u],[]⟩ [(x,u)])(Le:∀H:Hp,H0 H->gc K H a (ns.map V.int)->sp [.ref a] H (λv _=>v=.bl true) λ_ _ _=>False)(S3:∀H e s',CX [] H s₁ (λ_ _ _=>False) e s'->False) :
  codeAny (Xg P w) callerA (.call (.ref fa) ⟨[.ref a],[]⟩) (λr s'=>r=.ok (.ret (.bool true))/\OldK s₁.heap s'.heap/\s'.os=s₁.os/\AllBare s'.gens) s₁:=by
 have rv:=nI hi;have S4:=hi.length;have QH:∀H:Hp,H0 H->gc K H a (ns.map V.int)->kh P w H s₁.heap->(∀b,H b≠none->b=a)->(H a≠none->K.lookup a=none)->
   codeAny (Xg P w) callerA (.call (.ref fa) ⟨[.ref a],[]⟩) (λr s'=>r=.ok (.ret (.bool true))/\OldK s₁.heap s'.heap/\s'.os=s₁.os/\AllBare s'.gens) s₁:=by
  intro H hO hS hok hA hK;have Cc:∀{b:W8} {o:Obj},s₁.heap.get? b=some o->H b=none->(vk s₁.heap H).get? b=some o:=λe n=>DK e n;have QC:∀{b:W8} {o:Obj} {es:Array acz} {ep:Nat},s₁.heap.get? b=some o->o.data=.dict es ep->H b=none:=λ{b o es ep} e d=>by
   cases q:H b with
   |none=>rfl
   |some u=>
    have e':b=a:=hA b (by rw[q];simp);subst e';rw[ha] at e;cases e;have d':Data.seq vs.toArray _=Data.dict es ep:=d;cases d'
  have Ry:∀{b:W8} {m:Str->Option WG},s₁.heap.Ns b m->(vk s₁.heap H).Ns b m:=λ{b m} ⟨o,es,ep,e,d,r⟩=>⟨o,es,ep,Cc e (QC e d),d,r⟩;have Uh:K.In (vk s₁.heap H):=λb o e=>Cc (KX b o e) (by
   cases q:H b with
   |none=>rfl
   |some u=>
    have e':b=a:=hA b (by rw[q];simp);subst e';rw[hK (by rw[q];simp)] at e;cases e)
  have hM:Mod K mg (vk s₁.heap H):=⟨Uh,Ry Ug,⟨mb,Ry hb,U6⟩,let ⟨mc,h1,h2⟩:=S2;⟨mc,Ry h1,h2⟩⟩;have e0:HN P w K mg (vk s₁.heap H) callerA [] s₁ H:=⟨rfl,hM,λb o e=>Hx e,Nat.le_of_eq (Cj _ _),trivial,λb hb=>absurd (show b∈([]:List W8) from hb) (by simp),hok,.of_eq hg⟩;refine abi ((F _ Uh (Ry Ug)).run callerA [] s₁ H ⟨[.ref a],[]⟩ [.ref a] [.ref a] _ _ hr e0 (QG s₁ (.ref a)) (.cons rfl .nil) (Le H hO hS)) λr s' h=>?_;cases r with
  |error e=>exact (S3 H e s' h).elim
  |ok fl=>
   cases fl with
   |next=>exact Z_ h
   |brk=>exact Z_ h
   |cont=>exact Z_ h
   |ret u=>
    obtain⟨v,H',os,bare,un,hok',r',q⟩:=h;have q':v=.bl true:=q;subst q';obtain rfl:u=Value.bool true:=r';refine⟨rfl,OldK.of_keep λb o e=>?_,os,bare⟩;cases q:H b with
    |none=>exact un.keep b o e q (by intro z;exact absurd (show b∈([]:List W8) from z) (by simp)) (by simp)
    |some u=>
     rcases hO b with z|⟨ob,xs,z⟩
     ·rw[q] at z;cases z
     ·have z2:=un.frzs b ob _ z;obtain⟨e1,_⟩:=hok b _ z;obtain⟨e2,_⟩:=hok' b _ z2;rw[e] at e1;cases e1;exact e2
 cases hk:K.lookup a with
 |some o=>
  have e:=KX a o hk;rw[ha] at e;cases e;refine QH (λ_=>none) (λ_=>.inl rfl) (.inr ⟨_,vs.toArray,_,hk,rfl,rfl,rfl,by rw[WJ,S4];exact hl,by simpa using rv⟩) (λb u z=>by have z':(none:Option HO)=some u:=z;cases z') (λb z=>absurd rfl z) λz=>absurd rfl z
 |none=>
  refine QH (λb=>if b=a then some (.frz {cls:=.type "list",data:=.seq vs.toArray} (.lst (ns.map V.int))) else none) (λb=>?_) (.inl (.inr ⟨{cls:=.type "list",data:=.seq vs.toArray},hZ rfl⟩)) (λb u z=>?_) (λb z=>?_) λ_=>hk
  ·by_cases hb:b=a
   ·exact .inr ⟨_,_,hZ hb⟩
   ·exact .inl (hV hb)
  ·by_cases hb:b=a
   ·have z':=(hZ hb).symm.trans z;cases z';subst hb;exact⟨ha,by rw[Ww];exact hl,vs,_,rv,ha⟩
   ·have z':=(hV hb).symm.trans z;cases z'
  ·by_cases hb:b=a
   ·exact hb
   ·exact absurd (hV hb) z
end L2
namespace L2
theorem walk_of {l:PySem.W.OpenLaw}{q:Zx}{d:DefRec}{K:Params->WD}{CX:ZU->CXT}{sp:ZU->Sp}(hn:l.most=some n)(Ob:n<=WC)(QE:d.params.defaults=[])(hr:eQ k callerA)(hY:∀(w:ZU) (h:Zv),YP w h->(K w.params).In h)(F:∀(w:ZU) (mg:Str->Option WG) (fa:W8) (h:Zv),(K w.params).In h->h.Ns XH mg->mg d.name=some (.ref fa)->
   ∃fd:aby,(∀(s:WT) (u:WG),BindsTo s fd ⟨[u],[]⟩ [(x,u)])/\
    ∀base:Zv,(K w.params).In base->base.Ns XH mg->lq l.prog w (K w.params) mg base (CX w) k fa fd [x] (sp w))(Le:∀(w:ZU) (H:Hp) (a:W8) (ns:List Int),ns.length<=n->H0 H->gc (K w.params) H a (ns.map V.int)->sp w [.ref a] H (λv _=>v=.bl true) λ_ _ _=>False)(S3:∀(w:ZU) (H:Hp) (s:WT) (e:WG) (s':WT),CX w [] H s (λ_ _ _=>False) e s'->False) :
  PySem.W.WalkO q loose XP YP l.row.toRowW d [] (λf vs=>PySem.call f vs):=by
 refine Att.attach_call hn QE λw s₀ s₁ mg mb fa o pm cd nF a vs ns G Y ho hd ny QF NF G8 c7 hg=>?_;have KX:=hY w _ Y;obtain⟨fd,hb,hF⟩:=F w mg fa _ KX G.T.g QF;exact Ea KX G.T.g G.T.b G.T.builtins G.T.nolimit hg NF G8 (XG c7 Ob) hr hF hb (λH hO hS=>Le w H a ns c7 hO hS) λH e s'=>S3 w H s₁ e s'
end L2
namespace L2
noncomputable def eR (s:abx):Arguments:=match s with
 | .FunctionDef _ a _ _ _ _ _ _ _ _=>a
 |_=>{posonlyargs:=[],args:=[],vararg:=none,kwonlyargs:=[],kw_defaults:=[],kwarg:=none,defaults:=[]}
noncomputable def bX (s:abx):List abx:=match s with
 | .FunctionDef _ _ b _ _ _ _ _ _ _=>b
 |_=>[]
noncomputable def ah (s:abx):acj:=match s with
 | .FunctionDef _ _ _ _ _ _ sc _ _ _=>sc
 |_=>{kind:=.function,names:=[],isGenerator:=false,isCoroutine:=false}
abbrev xk:CXT:=λ_ _ _ _ _ _=>False
abbrev E0:XK:=λ_ _ _=>False
theorem OQ:zd xk X E0:=λ_ _ _ _ _ _ _ h=>h.elim
structure Hk (K:WD)(x qual:Str)(st:abx)(f:W8)(fd:aby):Prop where
 ex:∃(oc:WG) (od:Option W8) (kV nF pm:WG) (an:Option W8) (cN ct:WG) (Ld:Array (Option WG)),
  fd=YI x qual (eR st) (bX st) (ah st) .none kV nF pm an cN ct/\K.lookup f=some ⟨oc,od,.func fd,Ld⟩/\acd K cN qual=true
 kp:ZR K (.ref f)=true
section
variable {base:Zv}
theorem Hk.ok (F:Hk K x qual st f fd)(S:aJ N ps (ah st))(len:∀vs H Q E,sp vs H Q E->vs.length=ps.length)(iC:∀(cN:WG) (A:XD) (outer:List Env) (s:WT) (H:Hp) (vs:List V) (Q:VK) (E:XK),eQ k (A.deeper (ab3 qual (ah st) s.heap.objs.size f cN))->sp vs H Q E->
   ∃t,uk (pJ xk P w K mg base N qual (ah st) f cN A outer s H E).nox (bX st) t/\t {nx:=λ_ H'=>Q .non H',rt:=Q} (aaH N vs) H):lq P w K mg base xk (k+1) f fd ps sp:=by
 obtain⟨oc,od,kV,nF,pm,an,cN,ct,Ld,rfl,lk,ny⟩:=F.ex;refine OF lk ny S len λA outer s H vs Q E hr Le=>?_;obtain⟨t,h,q⟩:=iC cN A outer s H vs Q E hr Le;exact⟨t,h.nox,q⟩
theorem Hk.binds (F:Hk K x qual st f fd)(h:∀(kV nF pm:WG) (an:Option W8) (cN ct:WG) (us:List WG),us.length=ps.length->bindArgs (YI x qual (eR st) (bX st) (ah st) .none kV nF pm an cN ct) ⟨us,[]⟩=pure (ps.zip us)):uo K fd ps []:=by
 obtain⟨oc,od,kV,nF,pm,an,cN,ct,Ld,rfl,lk,ny⟩:=F.ex;exact .all (h kV nF pm an cN ct)
theorem Eb {oc:WG}{od an:Option W8}{Ld:Array (Option WG)}{kV nF pm cN ct:WG}(l:K.lookup f=some ⟨oc,od,.func (YI x qual (eR st) (bX st) (ah st) .none kV nF pm an cN ct),Ld⟩)(c:acd K cN qual=true)(k:ZR K (.ref f)=true):Hk K x qual st f (YI x qual (eR st) (bX st) (ah st) .none kV nF pm an cN ct):=⟨⟨oc,od,kV,nF,pm,an,cN,ct,Ld,rfl,l,c⟩,k⟩
end
theorem cH {A:XD}(hr:eQ k A):A.units+1<YH:=ZW (Nat.add_le_add_left (by decide:1<=64) _) hr.units
def aG (H H':Hp):Prop:=∀b o,H b=some o->H' b=some o
theorem aG.refl (H:Hp):aG H H:=λ_ _ h=>h
theorem aG.trans (a:aG H H1)(b:aG H1 H2):aG H H2:=λc o h=>b c o (a c o h)
theorem aG.seq (e:aG H H')(h:gc K H a xs):gc K H' a xs:=by
 rcases h with (h|⟨o,h⟩)|h
 ·exact .inl (.inl (e _ _ h))
 ·exact .inl (.inr ⟨o,e _ _ h⟩)
 ·exact .inr h
end L2
namespace L2
section
variable {κ:Type}[DecidableEq κ]
noncomputable def pL (aL:List (κ×V))(k:κ):Option V:=(aL.find? λkv=>decide (kv.1=k)).map (·.2)
noncomputable def mB (aL:List (κ×V))(k:κ)(v:V):List (κ×V):=
 if (aL.any λkv=>decide (kv.1=k))=true then aL.map (λkv=>if kv.1=k then (kv.1,v) else kv) else aL++[(k,v)]
theorem mC {p:κ×V}{r:List (κ×V)}{k:κ}(e:p.1=k):pL (p::r) k=some p.2:=by simp[pL,Ym,e]
theorem mE {p:κ×V}{r:List (κ×V)}{k:κ}(e:¬p.1=k):pL (p::r) k=pL r k:=by simp[pL,Ym,e]
theorem xl (k:κ):∀aL:List (κ×V),(aL.any λkv=>decide (kv.1=k))=(pL aL k).isSome
 | []=>rfl
 |p::r=>by
  rw[List.any_cons];by_cases e:p.1=k
  ·simp only[mC e,hG e,Bool.true_or,Option.isSome_some]
  ·rw[mE e,hJ e,Bool.false_or];exact xl k r
theorem oD (aL:List (κ×V))(k:κ)(v:V):(mB aL k v).length<=aL.length+1:=by
 unfold mB;split
 ·rw[Ww];lia
 ·rw[WI,WS,ZY];lia
theorem lK.isSome_eq {o:Option V}{u:Option WG}(r:lK o u):o.isSome=u.isSome:=by
 cases o with
 |none=>cases u with
  |none=>rfl
  |some _=>exact (show False from r).elim
 |some _=>cases u with
  |none=>exact (show False from r).elim
  |some _=>rfl
theorem lK.getD {o:Option V}{u:Option WG}{d:V}{d':WG}(r:lK o u)(rd:aO d d'):aO (o.getD d) (u.getD d'):=by
 cases o with
 |none=>cases u with
  |none=>exact rd
  |some _=>exact (show False from r).elim
 |some _=>cases u with
  |none=>exact (show False from r).elim
  |some _=>exact r
theorem KV.val {aL:List (κ×V)}{vs:List (κ×WG)}(r:KV aL vs)(k:κ):lK (pL aL k) (valueAt vs k):=by
 unfold KV at r
 induction r with
 |nil=>exact True.intro
 | @cons p q ps qs h t ih=>
  obtain⟨h1,h2⟩:=h;by_cases e:p.1=k
  ·have e':q.1=k:=h1.symm.trans e;have b:valueAt (q::qs) k=some q.2:=by simp[valueAt,Ym,e']
   rw[mC e,b];exact h2
  ·have e':¬q.1=k:=λz=>e (h1.trans z);have b:valueAt (q::qs) k=valueAt qs k:=by simp[valueAt,Ym,e']
   rw[mE e,b];exact ih
theorem KV.any {aL:List (κ×V)}{vs:List (κ×WG)}(r:KV aL vs)(k:κ):(aL.any λkv=>decide (kv.1=k))=vs.any λkv=>decide (kv.1=k):=by
 unfold KV at r
 induction r with
 |nil=>rfl
 |cons h t ih=>rw[List.any_cons,List.any_cons,ih,h.1]
theorem KV.repl {aL:List (κ×V)}{vs:List (κ×WG)}(r:KV aL vs)(k:κ){u:WG}(ry:aO y u) :
  KV (aL.map λkv=>if kv.1=k then (kv.1,y) else kv) (vs.map λkv=>if kv.1=k then (kv.1,u) else kv):=by
 unfold KV at r ⊢
 induction r with
 |nil=>exact .nil
 | @cons p q ps qs h t ih=>
  rw[WB,WB];refine .cons ?_ ih;obtain⟨h1,h2⟩:=h;by_cases e:p.1=k
  ·rw[hZ e,hZ (h1.symm.trans e)];exact⟨h1,ry⟩
  ·rw[hV e,hV (λz=>e (h1.trans z))];exact⟨h1,h2⟩
theorem KV.put {aL:List (κ×V)}{vs:List (κ×WG)}(r:KV aL vs)(k:κ){u:WG}(ry:aO y u):KV (mB aL k y) (stored vs k u):=by
 unfold mB stored;rw[r.any k];by_cases e:(vs.any λkv=>decide (kv.1=k))=true
 ·rw[hZ e,hZ e];exact r.repl k ry
 ·rw[hV e,hV e];exact Paired.snoc r ⟨rfl,ry⟩
theorem KV.length {aL:List (κ×V)}{vs:List (κ×WG)}(r:KV aL vs):aL.length=vs.length:=Z8 r
end
theorem xm {k:Key}{u:WG}(r:aO (kV k) u):(cF P w).is k u=true:=by
 cases k with
 |inl i=>obtain⟨t,e⟩:=(show ∃t,u=Value.int i t from r);subst e;exact xc P w i t
 |inr x=>obtain⟨t,e⟩:=(show ∃t,u=Value.str x t from r);subst e;exact xf P w x t
theorem ux {P:Zx}{w:ZU}:∀{ks:List Key} {us:List WG},aW (ks.map kV) us->ItemsAre (cF P w) ks us
 | [],_,r=>by rw[XX] at r;cases r;exact .nil
 |k::ks,_,r=>by
  rw[WB] at r;cases r with
  |cons h t=>exact .cons (xm h) (ux t)
abbrev KT (H:Hp):List (List Key×V)->List (List Key×W8×WG)->Prop:=ack λp q=>p.1=q.1/\H q.2.1=some (.tup (p.1.map kV))/\aO p.2 q.2.2
theorem KT.val {xs:List (List Key×W8×WG)}(r:KT H aL xs)(k:List Key):lK (pL aL k) ((atKey xs k).map (·.2)):=by
 induction r with
 |nil=>exact True.intro
 | @cons p q ps qs h t ih=>
  obtain⟨h1,_,h2⟩:=h;by_cases e:p.1=k
  ·have e':q.1=k:=h1.symm.trans e;have b:atKey (q::qs) k=some q.2:=by simp[atKey,Ym,e']
   rw[mC e,b];exact h2
  ·have e':¬q.1=k:=λz=>e (h1.trans z);have b:atKey (q::qs) k=atKey qs k:=by simp[atKey,Ym,e']
   rw[mE e,b];exact ih
theorem KT.repl {xs:List (List Key×W8×WG)}(r:KT H aL xs)(k:List Key){u:WG}(ry:aO y u) :
  KT H (aL.map λkv=>if kv.1=k then (kv.1,y) else kv) (xs.map (putAt k u)):=by
 induction r with
 |nil=>exact .nil
 | @cons p q ps qs h t ih=>
  rw[WB,WB];refine .cons ?_ ih;obtain⟨h1,h2,h3⟩:=h;unfold putAt;by_cases e:p.1=k
  ·rw[hZ e,hZ (h1.symm.trans e)];exact⟨h1,h2,ry⟩
  ·rw[hV e,hV (λz=>e (h1.trans z))];exact⟨h1,h2,h3⟩
theorem KT.put {xs:List (List Key×W8×WG)}(r:KT H aL xs)(k:List Key){u:WG}(hb:H b=some (.tup (k.map kV)))(ry:aO y u) :
  KT H (mB aL k y) (storedH xs k b u):=by
 have e:(aL.any λkv=>decide (kv.1=k))=(atKey xs k).isSome:=by
  rw[xl,(r.val k).isSome_eq,aa4]
 unfold mB storedH;rw[e];by_cases q:(atKey xs k).isSome=true
 ·rw[hZ q,hZ q];exact r.repl k ry
 ·rw[hV q,hV q];exact Paired.snoc r ⟨rfl,hb,ry⟩
theorem KT.keeps {xs:List (List Key×W8×WG)}(r:KT H aL xs)(ht:∀b ys,H b=some (.tup ys)->H' b=some (.tup ys)):KT H' aL xs:=
 Paired.mapP r λ_ _ z=>⟨z.1,ht _ _ z.2.1,z.2.2⟩
theorem JP {u:HO}(ok:kh P w H h)(e:Rd H a u):bO P w H h a u:=e.ok ok
theorem uy {aL:List (Key×V)}(ok:kh P w H h)(e:Rd H a (.dK aL)):aL.length<=WC/\(a==Yv)=false/\∃vs,KV aL vs/\h.DictOf (cF P w) a vs:=
 show bO P w H h a (.dK aL) from JP ok e
theorem OR {aL:List (Key×V)}(ok:kh P w H h)(e:H a=some (.dK aL)):aL.length<=WC/\(a==Yv)=false/\∃vs,KV aL vs/\h.DictOf (cF P w) a vs:=uy ok (.inl e)
theorem qM {ks:List Key}(ok:kh P w H h)(e:H a=some (.tup (ks.map kV))):(acm (cF P w)).is h ks a:=by
 obtain⟨_,au,r,⟨o,h1,h2,n,h3⟩,_⟩:=(show bO P w H h a (.tup (ks.map kV)) from ok a _ e);exact⟨o,au.toArray,n,h1,h2,h3,by simpa using ux r⟩
theorem uz (ok:kh P w H h)(e:Rd H a (.dT aL)):aL.length<=WC/\(a==Yv)=false/\
  ∃xs,KT H aL xs/\h.DictOfH (acm (cF P w)) a xs:=by
 obtain⟨z,y,xs,r,o,es,ep,h1,h2,h3,h4,h5⟩:=(show bO P w H h a (.dT aL) from JP ok e);refine⟨z,y,xs,r,o,es,ep,h1,h2,h3,h4,λx hx=>?_,h5⟩;have all:∀{l:List (List Key×V)} {m:List (List Key×W8×WG)},KT H l m->∀x∈m,(acm (cF P w)).is h x.1 x.2.1:=by
  intro l m q
  induction q with
  |nil=>intro x hx;exact nomatch hx
  | @cons p q ps qs hq t ih=>
   intro x hx;rcases WZ.mp hx with e|hx
   ·subst e;exact qM ok (by rw[←hq.1];exact hq.2.1)
   ·exact ih x hx
 exact all r x hx
theorem OS (ok:kh P w H h)(e:H a=some (.dT aL)):aL.length<=WC/\(a==Yv)=false/\
  ∃xs,KT H aL xs/\h.DictOfH (acm (cF P w)) a xs:=uz ok (.inl e)
def Ec (H:Hp)(a:W8)(y:V)(r:Option V):Prop:=
 (∃aL k,Rd H a (.dK aL)/\y=kV k/\r=pL aL k)\/∃aL k b,Rd H a (.dT aL)/\y=.ref b/\H b=some (.tup (k.map kV))/\r=pL aL k
def OT (H:Hp)(a:W8)(y v:V)(H':Hp):Prop:=
 (∃aL k,H a=some (.dK aL)/\y=kV k/\aL.length<WC/\H'=cD H a (.dK (mB aL k v))) \/
 ∃aL k b,H a=some (.dT aL)/\y=.ref b/\H b=some (.tup (k.map kV))/\aL.length<WC/\H'=cD H a (.dT (mB aL k v))
section
variable {u r:WG}{o:Option V}{A:XD}
theorem az.big (I:az X pins σ H s):Yv<s.heap.objs.size:=by
 have h:XH<s.heap.objs.size:=(I.mod.glob.keeps I.bk).lt;exact Nat.lt_trans (by decide) h
theorem Cy (hu:A.units+1<YH)(I:az X pins σ H s)(g:Ec H a y (some v))(ry:aO y u)(h:∀w' s',az X pins σ H s'->aO v w'->Q w' s') :
  WX (Xg X.prog X.w) A (abH (.ref a) u) Q E s:=by
 rcases g with⟨aL,k,e,ey,l⟩|⟨aL,k,b,e,ey,eb,l⟩
 ·subst ey;obtain⟨z,hd,vs,rel,dd⟩:=uy I.hok e;obtain⟨w',hw,yW⟩:=lK.some_of (v:=v) (o:=valueAt vs k) (by rw[l];exact rel.val k);exact wpAny_getItem_of (xm ry) dd.mapOf hw (h w' _ (I.tok _) yW)
 ·subst ey;cases (show u=Value.ref b from ry);obtain⟨z,hd,xs,rel,dd⟩:=uz I.hok e;obtain⟨w',hw,yW⟩:=lK.some_of (v:=v) (o:=(atKey xs k).map (·.2)) (by rw[l];exact rel.val k);obtain⟨p,hp,Dv⟩:=Option.map_eq_some_iff.mp hw;refine wpAny_getItem_heap (aaL hu) (qM I.hok eb) dd hp ?_;rw[Dv];exact h w' _ (I.tok _) yW
theorem R5 (hu:A.units+1<YH)(I:az X pins σ H s)(g:Ec H a y o)(ry:aO y u)(h:∀s',az X pins σ H s'->Q (.bool o.isSome) s') :
  WX (Xg X.prog X.w) A (Zc .In u (.ref a)) Q E s:=by
 rcases g with⟨aL,k,e,ey,l⟩|⟨aL,k,b,e,ey,eb,l⟩
 ·subst ey;obtain⟨z,hd,vs,rel,dd⟩:=uy I.hok e;refine wpAny_in_of (xm ry) hd dd.mapOf ?_;rw[←(rel.val k).isSome_eq,←l];exact h _ (I.tok _)
 ·subst ey;cases (show u=Value.ref b from ry);obtain⟨z,hd,xs,rel,dd⟩:=uz I.hok e;refine wpAny_in_heap (aaL hu) (qM I.hok eb) hd dd ?_;have q:=(rel.val k).isSome_eq;rw[aa4] at q;rw[←q,←l];exact h _ (I.tok _)
theorem qg {t':Nat}{ob:HO}(I:az X pins σ H s)(mu:NV (H a))(hs:Yh a s.heap h')(he:∃q,h'.get? a=some q)(new:bO X.prog X.w (cD H a ob) h' a ob) :
  az X pins σ (cD H a ob) {s with heap:=h',toks:=t'}:=
 I.write (x:=a) (e:=a) mu (.inl rfl) (λb q hb z=>(hs.2 b hb).trans z) he new
theorem LW {aL:List (Key×V)}{vs:List (Key×WG)}(z:aL.length<=WC)(hd:(a==Yv)=false)(rel:KV aL vs)(dd:h'.DictOf (cF P w) a vs) :
  bO P w H' h' a (.dK aL):=⟨z,hd,vs,rel,dd⟩
theorem Cz {Q:Unit->WT->Prop}(hu:A.units+1<YH)(I:az X pins σ H s)(g:OT H a y v H')(ry:aO y u)(rv:aO v r)(h:∀s',az X pins σ H' s'->Q () s') :
  WX (Xg X.prog X.w) A (setItem (.ref a) u r) Q E s:=by
 rcases g with⟨aL,k,e,ey,l,eH⟩|⟨aL,k,b,e,ey,eb,l,eH⟩
 ·subst ey eH;obtain⟨z,hd,vs,rel,dd⟩:=OR I.hok e;have hz:vs.length<=WC:=by rw[←rel.length];exact z
  have hl:(mB aL k v).length<=WC:=by have:=oD aL k v;lia
  refine wpAny_setItem_pairs (hsz:=hz) (xm ry) dd λh' Lf hs=>h _ ?_;have he:∃q,h'.get? a=some q:=let ⟨q,_,_,hq,_⟩:=Lf;⟨q,hq⟩
  exact qg I (by rw[e];exact True.intro) hs he (LW hl hd (rel.put k rv) Lf)
 ·subst ey eH;cases (show u=Value.ref b from ry);obtain⟨z,hd,xs,rel,dd⟩:=OS I.hok e;have hz:xs.length<=WC:=by rw[←Z8 rel];exact z
  have hl:(mB aL k v).length<=WC:=by have:=oD aL k v;lia
  refine wpAny_setItem_heap (hsz:=hz) (aaL hu) (qM I.hok eb) dd λh' Lf hs=>h _ ?_;obtain⟨q,es,ep,hq,h2,h3,h4,_,h5⟩:=Lf;refine qg I (by rw[e];exact True.intro) hs ⟨q,hq⟩ ⟨hl,hd,_,(rel.put k eb rv).keeps λc ys ec=>?_,q,es,ep,hq,h2,h3,h4,h5⟩;rw[aS (Oe ec e (λz=>nomatch z))];exact ec
end
def LX (i:YV):Prop:=∀ov iv,subscripted i false ov iv=operate [ov,iv] (abH ov iv)
theorem H9 {A:XD}{value slice:YV}{T id:String}(hl:typeLookup (.type T) "__getitem__"=pure (some (.builtin id)))(hs:LX slice)(h:WX (Xg prog w) A (aaj value env) (λo s₁=>WX (Xg prog w) A (aaj slice env) (λi s₂=>s₂.TypeIs o T/\WX (Xg prog w) A (abH o i) Q E s₂) E s₁) E s) :
  WX (Xg prog w) A (aaj (.Subscript value slice pos) env) Q E s:=by
 refine Subscript_ (XQ h (λo s₁ h₁=>XQ h₁ (λi s₂ h₂=>?_) λ_ _ x=>x) λ_ _ x=>x);obtain⟨hT,h₂⟩:=h₂;unfold subscriptTail;refine Wv ?_;rw[getitemInPython_of_ne hT.not_modules];refine Wv (ZZ hT hl ?_);have fin:WX (Xg prog w) A (subscripted slice false o i) (λr s₃=>WX (Xg prog w) A (letTemporaryGo value o r >>= λ_=>pure r) Q E s₃) E s₂:=by
  rw[hs o i];exact wpAny_operating (XQ h₂ (λr s₃ h₃=>Wv (wpAny_letTemporaryGo (Wy h₃))) λ_ _ x=>x)
 first
  |exact Wy (Wv fin)
  |exact Wv (Wy (Wv fin))
  |exact Wv fin
theorem xn {o:Option V}(I:az X pins σ H s)(g:Ec H a y o):s.TypeIs (.ref a) "dict":=by
 rcases g with⟨aL,k,e,_,_⟩|⟨aL,k,b,e,_,_,_⟩
 ·obtain⟨_,_,vs,_,dd⟩:=uy I.hok e;exact dd.typeIs
 ·obtain⟨_,_,xs,_,dd⟩:=uz I.hok e;exact dd.typeIs
theorem xo (h:Zv)(hb:Yv<h.objs.size):bO P w H (h.push {cls:=.type "dict",data:=.dict #[]}) h.objs.size (.dK []):=
 ⟨Ys _,beq_eq_false_iff_ne.mpr (Ne.symm (Xj hb)),[],.nil,Heap.DictOf.new h⟩
def LY:TE:=λ_ H Q=>∀p,H p=none->Q (.ref p) (cD H p (.dK []))
theorem Ed:PE X (.Dict [] [] pos) LY:=λpins s σ H Q I h=>
 wpAny_Dict_empty ⟨.ref s.heap.objs.size,_,I.laid (a:=s.heap.objs.size) (o:=.dK []) (t':=s.toks) (λ_ _ q=>Wz _ q) (WK _) (xo s.heap I.big),rfl,h _ (I.hok.fresh (WK _))⟩
structure M1 (X:Cx)(o:YV)(m:Str)(gz:Pos)(e:YV)(cpos:Pos):Prop where
 base:abA o m X.env (aaj o X.env)=aaj o X.env
 few:((Zy cpos (W7 [e] X.env)).all (λx=> !x.1)&&(backToKw cpos (keywordEach [] X.env)).all (λx=>x.1.isSome)
  && decide (([e]:List YV).length+([]:List acb).length+(if ([]:List acb).isEmpty then 0 else 1)<30))=true
 line:(gz.endLine==cpos.line)=true
 trees:Zy cpos (W7 [e] X.env)=[(false,aaj e X.env)]
structure M2 (X:Cx)(o:YV)(m:Str)(gz:Pos)(e f:YV)(cpos:Pos):Prop where
 base:abA o m X.env (aaj o X.env)=aaj o X.env
 few:((Zy cpos (W7 [e,f] X.env)).all (λx=> !x.1)&&(backToKw cpos (keywordEach [] X.env)).all (λx=>x.1.isSome)
  && decide (([e,f]:List YV).length+([]:List acb).length+(if ([]:List acb).isEmpty then 0 else 1)<30))=true
 line:(gz.endLine==cpos.line)=true
 trees:Zy cpos (W7 [e,f] X.env)=[(false,aaj e X.env),(false,aaj f X.env)]
def TF (H:Hp)(a:W8):Prop:=(∃aL,Rd H a (.dK aL))\/∃aL,Rd H a (.dT aL)
theorem LZ (I:az X pins σ H s)(d:TF H a) :
  s.TypeIs (.ref a) "dict"/\(∀b,Value.ref a=.ref b->∃ob,s.heap.get? b=some ob/\ob.dict=none)/\(a==Yv)=false:=by
 rcases d with⟨aL,e⟩|⟨aL,e⟩
 ·obtain⟨_,hd,vs,_,dd⟩:=uy I.hok e;refine⟨dd.typeIs,λb q=>?_,hd⟩;cases q;obtain⟨ob,_,_,h1,h2,_⟩:=dd;exact⟨ob,h1,h2.2.1⟩
 ·obtain⟨_,hd,xs,_,dd⟩:=uz I.hok e;refine⟨dd.typeIs,λb q=>?_,hd⟩;cases q;obtain⟨ob,_,_,h1,h2,_⟩:=dd;exact⟨ob,h1,h2.2.1⟩
section
variable {d:V}{u r:WG}{o:Option V}{A:XD}
theorem L1 (hu:A.units+1<YH)(I:az X pins σ H s)(g:Ec H a y o)(ry:aO y u)(rd:aO d r)(h:∀w' s',az X pins σ H s'->aO (o.getD d) w'->Q w' s') :
  WX (Xg X.prog X.w) A (call (.builtin "dict.get") [.ref a,u,r]) Q E s:=by
 rcases g with⟨aL,k,e,ey,l⟩|⟨aL,k,b,e,ey,eb,l⟩
 ·subst ey;obtain⟨z,hd,vs,rel,dd⟩:=uy I.hok e;refine call_meetsIn Z0 dd.typeIs aa0 (aaM _ _ _) (meets_dict_get_default (cF X.prog X.w) a (xm ry) hd r) ⟨_,dd.mapOf,h _ _ (I.tok _) ?_⟩;rw[l];exact (rel.val k).getD rd
 ·subst ey;cases (show u=Value.ref b from ry);obtain⟨z,hd,xs,rel,dd⟩:=uz I.hok e;refine call_meetsIn Z0 dd.typeIs aa0 (aaM _ _ _) (meetsH_dict_get_default (acm (cF X.prog X.w)) a b hd r) ⟨aaL hu,k,xs,qM I.hok eb,dd,h _ _ (I.tok _) ?_⟩;rw[l];exact (rel.val k).getD rd
end
end L2
namespace L2
end L2
namespace L2
theorem zh (hf:∀x,(x,NameKind.free)∈scope.names->∃c,env.cells.lookup x=some c) :
  ∃cl:List (Str×W8),closureFor scope env=pure cl/\(∀x c,cl.lookup x=some c->env.cells.lookup x=some c)/\∀x,(x,NameKind.free)∈scope.names->∃c,cl.lookup x=some c:=by
 have gen:∀(names:List (Str×acy)) (cs:List (Str×W8)),(∀x,(x,NameKind.free)∈names->∃c,env.cells.lookup x=some c)->(∀x c,cs.lookup x=some c->env.cells.lookup x=some c)->
   ∃cl:List (Str×W8),(forIn names cs λ(x:Str×acy) (r:List (Str×W8))=>(match x with|(name,kind)=>if (kind==NameKind.free)=true then (do let a ←cellOf env name;pure (ForInStep.yield ((name,a)::r))) else pure (ForInStep.yield r):Sem (ForInStep (List (Str×W8)))))=(pure cl:Sem _)/\
    (∀x c,cl.lookup x=some c->env.cells.lookup x=some c)/\(∀x c,cs.lookup x=some c->∃c',cl.lookup x=some c')/\∀x,(x,NameKind.free)∈names->∃c,cl.lookup x=some c:=by
  intro names
  induction names with
  |nil=>intro cs _ h;exact⟨cs,rfl,h,λx c e=>⟨c,e⟩,λx hx=>absurd hx (by simp)⟩
  |cons p r ih=>
   intro cs hn h;obtain⟨n,k⟩:=p;by_cases hk:k=NameKind.free
   ·subst hk;obtain⟨c,hc⟩:=hn n WM;have h':∀x c',((n,c)::cs).lookup x=some c'->env.cells.lookup x=some c':=λx c' e=>by
     rw[YJ] at e;by_cases hx:x==n
     ·rw[hx] at e;have:x=n:=by simpa using hx
      subst this;cases e;exact hc
     ·rw[aa5.mpr hx] at e;exact h x c' e
    obtain⟨cl,e1,e2,e3,e4⟩:=ih ((n,c)::cs) (λx hx=>hn x (WO _ hx)) h';refine⟨cl,?_,e2,λx c' e=>?_,λx hx=>?_⟩
    ·rw[Z1];have:cellOf env n=pure c:=by unfold cellOf;rw[hc]
     simp only[beq_self_eq_true,if_true,this];exact e1
    ·by_cases hx:x=n
     ·subst hx;exact e3 x c (by rw[YJ];simp)
     ·exact e3 x c' (by rw[YJ,show (x==n)=false from by simpa using hx];exact e)
    ·rcases WZ.mp hx with e|hx
     ·cases e;exact e3 n c (by rw[YJ];simp)
     ·exact e4 x hx
   ·obtain⟨cl,e1,e2,e3,e4⟩:=ih cs (λx hx=>hn x (WO _ hx)) h;refine⟨cl,?_,e2,e3,λx hx=>?_⟩
    ·rw[Z1];have:(k==NameKind.free)=false:=by simpa using hk
     simp only[this,Xm,if_false];exact e1
    ·rcases WZ.mp hx with e|hx
     ·cases e;exact absurd rfl hk
     ·exact e4 x hx
 obtain⟨cl,e1,e2,_,e4⟩:=gen scope.names [] hf (λx c e=>by simp at e);refine⟨cl,?_,e2,e4⟩;unfold closureFor;exact (congrArg (λm=>m >>= λr=>pure r) e1).trans rfl
structure qh where
 C:W8
 s:WT
 H:Hp
 fp:List W8
 pins:List (W8×Obj)
 cl:List (Str×W8)
noncomputable abbrev dX (X:Cx)(scope:acj)(N:List Str)(Y:qh):Cx where
 prog:=X.prog
 w:=X.w
 K:=X.K
 mg:=X.mg
 base:=X.base
 A:=X.A
 N:=N
 s₀:=Y.s
 H₀:=Y.H
 env:=compEnvC scope Y.cl Y.C X.env
 outer:=X.stack
 stack:=X.stack
 ex:=Y.fp
 fn:=λ_=>false
 calm:=X.calm
 pn:=X.pn++Y.pins
 xe:=λ_ _=>False
noncomputable def tF (lj:acj)(NX:List Str)(scope:acj)(N:List Str)(js:List (Option Nat)):Bool:=
 decide (scope.kind=.function)&&scope.names.all (λy=>decide (y.2≠.cell))&&scope.names.all (λy=>decide (y.2=.local->scope.names.lookup y.1=some .local))&&decide (js.length=N.length) &&
 (js.zip N).all (λp=>match p.1 with|none=>true|some j=>decide (NX[j]? = some p.2)&&decide (scope.names.lookup p.2=some .free)) &&
 scope.names.all (λy=>decide (y.2=.free->lj.names.lookup y.1=some .cell\/lj.names.lookup y.1=some .free))
structure mF (lj:acj)(NX:List Str)(scope:acj)(N:List Str)(js:List (Option Nat)):Prop where
 kind:scope.kind=.function
 nocell:∀y∈scope.names,y.2≠.cell
 loc:∀y∈scope.names,y.2=.local->scope.names.lookup y.1=some .local
 len:js.length=N.length
 cap:∀(i j:Nat) (x:Str),js[i]? = some (some j)->N[i]? = some x->NX[j]? = some x/\scope.names.lookup x=some .free
 free:∀x,(x,NameKind.free)∈scope.names->lj.names.lookup x=some .cell\/lj.names.lookup x=some .free
theorem tF.to {lj:acj}{NX:List Str}(h:tF lj NX scope N js=true):mF lj NX scope N js:=by
 unfold tF at h;simp only[W2] at h;obtain⟨⟨⟨⟨⟨h1,h2⟩,h3⟩,h4⟩,h5⟩,h6⟩:=h;refine⟨of_decide_eq_true h1,λy hy=>of_decide_eq_true (YK.mp h2 y hy),λy hy=>of_decide_eq_true (YK.mp h3 y hy),of_decide_eq_true h4,λi j x e1 e2=>?_,λx hx=>of_decide_eq_true (YK.mp h6 (x,NameKind.free) hx) rfl⟩;have hz:(js.zip N)[i]? = some (some j,x):=by
  rw[List.getElem?_zip_eq_some];exact⟨e1,e2⟩
 have q:=YK.mp h5 _ (Yg hz);simp only[W2] at q;exact⟨of_decide_eq_true q.1,of_decide_eq_true q.2⟩
noncomputable def uA (js:List (Option Nat))(σ:St):St:=js.map λo=>match o with
 |none=>none
 |some j=>match σ[j]? with
  |some v=>v
  |none=>none
theorem mG (vg:∀y∈scope.names,y.2≠.cell)(h:(relabel scope env).names.lookup x=some .cell\/(relabel scope env).names.lookup x=some .free):(x,NameKind.free)∈scope.names:=by
 have gen:∀k,(k=NameKind.cell\/k=NameKind.free)->(relabel scope env).names.lookup x=some k->(x,NameKind.free)∈scope.names:=λk hk e=>by
  have hm:=X1 e;obtain⟨⟨n,k0⟩,hy,q⟩:=WN.mp hm;dsimp only at q;split at q
  ·rename_i c;simp only[W2,beq_iff_eq] at c;cases q;obtain⟨⟨c1,_⟩,_⟩:=c;rw[c1] at hy;exact hy
  ·cases q;rcases hk with hk|hk
   ·exact absurd hk (vg _ hy)
   ·rw[hk] at hy;exact hy
 rcases h with h|h
 ·exact gen _ (.inl rfl) h
 ·exact gen _ (.inr rfl) h
theorem dQ {env:Env}{x:Str}:∀{names:List (Str×acy)},names.lookup x=some .free->
  (names.map λ(n,k)=>if (k==NameKind.free&&env.scope.kind==.function&&env.kindOf n==some .cell) then (n,NameKind.cell) else (n,k)).lookup x=some .cell \/
  (names.map λ(n,k)=>if (k==NameKind.free&&env.scope.kind==.function&&env.kindOf n==some .cell) then (n,NameKind.cell) else (n,k)).lookup x=some .free
 | [],h=>by simp at h
 | (n,k)::r,h=>by
  rw[WB];by_cases hx:x==n
  ·rw[YJ,hx] at h;cases h;by_cases c:(NameKind.free==NameKind.free&&env.scope.kind==.function&&env.kindOf n==some .cell)=true
   ·refine .inl ?_;show List.lookup x ((if (NameKind.free==NameKind.free&&env.scope.kind==.function&&env.kindOf n==some .cell)=true then (n,NameKind.cell) else (n,NameKind.free))::_)=_;rw[hZ c,YJ,hx]
   ·refine .inr ?_;show List.lookup x ((if (NameKind.free==NameKind.free&&env.scope.kind==.function&&env.kindOf n==some .cell)=true then (n,NameKind.cell) else (n,NameKind.free))::_)=_;rw[hV c,YJ,hx]
  ·have qB:=aa5.mpr hx;rw[YJ,qB] at h;have ih:=dQ (env:=env) (x:=x) (names:=r) h;have e:∀p:Str×acy,p.1=n->List.lookup x (p::(r.map λ(n,k)=>if (k==NameKind.free&&env.scope.kind==.function&&env.kindOf n==some .cell) then (n,NameKind.cell) else (n,k))) =
     List.lookup x (r.map λ(n,k)=>if (k==NameKind.free&&env.scope.kind==.function&&env.kindOf n==some .cell) then (n,NameKind.cell) else (n,k)):=λp hp=>by
    obtain⟨p1,p2⟩:=p;cases hp;rw[YJ,qB]
   rw[e _ (by dsimp only;split<;>rfl)];exact ih
def Ee (X:Cx)(s_:List YV)(t:TT):Prop:=
 ∀(pins:List (W8×Obj)) (s:WT) (σ:St) (H:Hp) (Q:Bool->Hp->Prop),az X pins σ H s->t σ H Q->
  WX (Xg X.prog X.w) X.A (forIn s_ true λc r=>if r=true then do let ok ←isTrue c X.env (aaj c X.env);pure (ForInStep.yield ok) else pure (ForInStep.yield r)) (TP X pins σ Q) X.xe s
def R6:TT:=λ_ H Q=>Q true H
theorem Ef:Ee X [] R6:=λ_ _ _ H _ I h=>wpAny_tests_nil ⟨H,I,h⟩
end L2
namespace L2
theorem km {A:XD}{R:Result->WT->Prop}{oz:YV}{it bq:WG}(I:Nat->WT->Prop)(turn:∀n s,I n s->WX (Xg prog w) A (aaB it) (λr s₁=>match r with
   |none=>R (.ok .next) s₁
   |some v=>WX (Xg prog w) A (abG oz it v) (λ_ Ui=>WX (Xg prog w) A (assign oz env v) (λ_ s₂=>
     WX (Xg prog w) A (forIn s_ true λc r=>if r=true then do let ok ←isTrue c env (aaj c env);pure (ForInStep.yield ok) else pure (ForInStep.yield r)) (λok s₃=>
      if ok=true then WX (Xg prog w) A (aaj elt env) (λx s₄=>
       WX (Xg prog w) A (call (.builtin "list.append") [bq,x]) (λ_ s₅=>∃m,m<n/\I m s₅) (λ_ _=>False) s₄) (λ_ _=>False) s₃
      else ∃m,m<n/\I m s₃) (λ_ _=>False) s₂) (λ_ _=>False) Ui) (λ_ _=>False) s₁) (λ_ _=>False) s)(n:Nat)(h:I n s) :
  codeAny (Xg prog w) A (.compLoop (.ListComp elt [⟨oz,iter,s_,0⟩] scope pos) 0 it bq env) R s:=by
 refine codeAny_loop rfl I (λn s hI=>?_) n h;show WX _ A ((compTurn (.ListComp elt [⟨oz,iter,s_,0⟩] scope pos) 0 it bq env).onRaise (λx=>do noteFrame x env;theTreesLotGoes x)) _ _ s;refine wpAny_noted ?_;rw[compTurn_list];have fe:∀{e:WG} {s':WT} {Z:Prop},(λ(_:WG) (_:WT)=>False) e s'->Z:=λh=>h.elim;refine Wv (abz (Wv (XQ (turn n s hI) (λr s₁ h₁=>?_) λ_ _ h'=>h'.elim)));cases r with
 |none=>exact Wy h₁
 |some v=>
  refine Wv (XQ h₁ (λ_ Ui U7=>?_) λ_ _ h'=>h'.elim);refine Wv (XQ U7 (λ_ s₂ h₂=>Wv (XQ h₂ (λok s₃ h₃=>?_) λ_ _ h'=>h'.elim)) λ_ _ h'=>h'.elim);cases ok with
  |false=>exact Wy ⟨rfl,h₃⟩
  |true=>
   exact Wv (Wv (XQ h₃ (λx s₄ h₄=>Wv (XQ h₄ (λ_ s₅ h₅=>Wy (Wy ⟨rfl,h₅⟩)) λ_ _ h'=>h'.elim)) λ_ _ h'=>h'.elim))
def OU (J:It)(js:List (Option Nat))(g:qh->TG)(tt:qh->TT)(te:qh->TE)(σ:St)(H1:Hp)(P:List V->Hp->Prop):Prop:=
 ∀Y:qh,∃W:Nat->Nat->List V->Hp->Prop,(∃m,W 0 m [] H1)/\∀i m ys H2,W i m ys H2->
  (J.stop i H2/\P ys H2) \/
  (J.go i H2/\ys.length<WC/\∃Nx:List V->Hp->Prop,(∀Lk H',Nx Lk H'->∃m',m'<m/\W (i+1) m' Lk H')/\∀x H3,J.yld i H2 x H3->g Y x (uA js σ) H3 λσ4 H4=>tt Y σ4 H4 λb H5=>
   if b=true then te Y σ4 H5 λy H6=>Nx (ys++[y]) H6 else Nx ys H5)
def Q4 (wi:TI)(js:List (Option Nat))(g:qh->TG)(tt:qh->TT)(te:qh->TE):TE:=λσ H Q=>wi σ H λJ H1=>
 OU J js g tt te σ H1 λys H2=>∀p,H2 p=none->Q (.ref p) (cD H2 p (.lst ys))
theorem qN {E:WG->WT->Prop}{s2:WT}{lj:acj}{g:qh->TG}{tt:qh->TT}{te:qh->TE}{J:It}{tn:Nat->Zv->Prop}{P:List V->Hp->Prop}{cl:List (Str×W8)}{RR:WG->W8->Result->WT->Prop}(I:az X pins σ H s2)(hc:X.calm=true)(T:y8 X.prog X.w X.K tg J fp it tn)(ki:tn 0 s2.heap)(f2:∀b∈fp,pH X pins H b)(wW:∀Y:qh,PG (dX X scope N Y) tg (g Y)/\Ee (dX X scope N Y) s_ (tt Y)/\PE (dX X scope N Y) elt (te Y))(S:mF lj X.N scope N js)(lB:X.env.scope=lj)(c1:∀x c,cl.lookup x=some c->X.env.cells.lookup x=some c)(c2:∀x,(x,NameKind.free)∈scope.names->∃c,cl.lookup x=some c)(h:OU J js g tt te σ H P)(hR:∀(bq C:W8) (ys:List V) (H':Hp) (s':WT),az X pins σ (cD H' bq (.lst ys)) s'->(∃m,s'.heap.Ns C m)->pH X pins (cD H' bq (.lst ys)) C->H' bq=none->P ys H'->RR (.ref bq) C (.ok .next) s') :
  WX (Xg X.prog X.w) X.A (newList []) (λbq s₃=>WX (Xg X.prog X.w) X.A (newFunctionEnv scope X.env.globals cl [] X.env.qual none .none (some X.env)) (λQI s₄=>
   codeAny (Xg X.prog X.w) X.A (.compStart (.ListComp elt [⟨tg,iter,s_,0⟩] scope pos) 0 (.ref it) bq {QI with scope:=relabel scope X.env}) (RR bq QI.locals) s₄) E s₃) E s2:=by
 refine Xi (wpAny_newFunctionEnv S.nocell (by intro y hy;simp at hy) (λh₁ NG JJ=>?_) S.kind);dsimp only at NG JJ ⊢;generalize hH2:s2.heap.push {cls:=.type "list",dict:=none,data:=.seq ([]:List WG).toArray}=H2 at NG JJ ⊢;have hC:H2.objs.size=s2.heap.objs.size+1:=by rw[←hH2,YU]
 have Rz:s2.heap.objs.size≠H2.objs.size:=by rw[hC];exact Xj (Nat.lt_succ_self _)
 have JK:s2.heap.objs.size<=H2.objs.size:=by rw[hC];exact Nat.le_succ _
 have below:∀b,b<s2.heap.objs.size->b≠H2.objs.size/\b≠s2.heap.objs.size:=λb hb=>⟨by rw[hC];exact Xj (aab hb),Xj hb⟩;have old:∀b o,s2.heap.get? b=some o->h₁.get? b=some o:=λb o e=>JJ.extBut b o (below b (WU e)).1 (Wz _ (hH2▸Wz _ e));have p9:h₁.PlainList s2.heap.objs.size #[]:=⟨_,JJ.extBut _ _ Rz (Wz _ (hH2▸WL _ rfl))⟩;have S5:∀b∈fp,b<s2.heap.objs.size:=λb hb=>by
  obtain⟨o,e,_⟩:=T.obj _ _ ki b hb;exact WU e
 generalize hCg:H2.objs.size=C at *;generalize hAg:s2.heap.objs.size=bq at *
 let Y:qh:=⟨C,s2,H,fp,pins,cl⟩
 have ok:(dX X scope N Y).Ok:=by
  refine⟨I.ok.mod,S.kind,I.ok.glob,I.ok.blt,?_,λx y c e1 e2=>I.ok.inj x y c (c1 x c e1) (c1 y c e2),λx hx=>c2 x (mG S.nocell hx),λx c e=>(by cases e),I.ok.hd,I.ok.frames,.inl rfl,λb hb=>⟨?_,λx c e=>?_⟩,I.bs,XG I.ok.bsz I.sz,λb o e hb=>?_,λb hb hf=>?_,I.stack,I.stkFree⟩
  ·show s2.heap.objs.size<=C;rw[hAg];exact JK
  ·exact (below b (S5 b hb)).1
  ·exact (f2 b hb).2.2.2.2.1 x c (c1 x c e)
  ·rcases (f2 b hb).2.2.2.1 with z|z
   ·exact I.ok.noex b o e z
   ·exact absurd (Xx (WU (I.ok.bs b o e).1) z) (YT _)
  ·rcases WZ.mp (I.stkSub b hf) with z|z
   ·exact (f2 b hb).2.1 z
   ·exact (f2 b hb).2.2.1 z
 have S6:∀x c,X.env.cells.lookup x=some c->c<bq:=λx c e=>by
  obtain⟨v,q⟩:=I.cell x c e;rw[←hAg];exact q.lt
 have Lg:∀p∈X.pn++pins,p.1<bq:=λp hp=>by rw[←hAg];exact WU (I.pin p hp).1
 have Wc:X.env.locals<bq:=by rw[←hAg];exact I.lt
 have QJ:∀b∈AB X.stack,b<bq:=λb hb=>by
  obtain⟨_,o,ho,_⟩:=I.stack.mem hb;rw[←hAg];exact WU ho
 have QK:∀p∈X.pn++pins,p.1∉AB X.stack:=λp hp hf=>by
  rcases WZ.mp (I.stkSub _ hf) with z|z
  ·exact (I.pin p hp).2.2.1 z
  ·exact (I.pin p hp).2.2.2.1 z
 have Cd:H bq=none:=by rw[←hAg];exact I.hok.fresh (WK _)
 have U8:H C=none:=I.hok.fresh (by rw[hAg];exact JK);have I4:∀tk:Nat,az (dX X scope N Y) [] (uA js σ) H {s2 with heap:=h₁,toks:=tk}:=λtk=>by
  refine⟨ok,rfl,I.bare,Un.kept old,⟨_,NG,λi x v e1 e2 e3=>?_⟩,λx c e=>?_,U8,λx c e=>I.freeC x c (c1 x c e),λp hp=>?_,I.hok.kept old,?_⟩
  ·
   have G9:(uA js σ)[i]? = some (some v):=e2;unfold uA at G9;rw[WQ] at G9;cases hj:js[i]? with
   |none=>rw[hj] at G9;cases G9
   |some o=>
    rw[hj] at G9;cases o with
    |none=>cases G9
    |some j=>
     have e4:(match σ[j]? with|some v=>v|none=>none)=some v:=W6 G9;obtain⟨nx,fr⟩:=S.cap i j x hj e1;have e5:σ[j]? = some (some v):=by
      cases q:σ[j]? with
      |none=>rw[q] at e4;cases e4
      |some z=>rw[q] at e4;rw[show z=some v from e4]
     obtain⟨m,hn,hl⟩:=I.loc;have kx:X.env.scope.names.lookup x=some .cell\/X.env.scope.names.lookup x=some .free:=by rw[lB];exact S.free x (X1 fr)
     obtain⟨u,r,lk⟩:=hl j x v nx e5 (.inr kx);refine⟨u,r,.inr ⟨dQ fr,?_⟩⟩;obtain⟨c,hcl⟩:=c2 x (X1 fr);rcases lk with⟨k,_⟩|⟨k,c',e',z⟩
     ·have k':X.env.scope.names.lookup x=some .local:=k;rcases kx with q|q<;>· rw[q] at k';cases k'
     ·have:c'=c:=by
       have:=c1 x c hcl;rw[e'] at this;exact W6 this
      subst this;obtain⟨o,ho,hd⟩:=z;exact⟨c',hcl,o,old _ _ ho,hd⟩
  ·obtain⟨v,o,ho,hd⟩:=I.cell x c (c1 x c e);exact⟨v,o,old _ _ ho,hd⟩
  ·have Hm:p∈X.pn++pins:=by simpa using hp
   obtain⟨q1,q2,q3,q4,q5⟩:=I.pin p Hm;exact⟨old _ _ q1,q2,λz=>absurd (Lg p Hm) (by rw[z];exact Nat.not_lt.mpr JK),QK p Hm,q5⟩
  ·show (uA js σ).length=N.length;unfold uA;rw[Ww];exact S.len
 obtain⟨hg,ht,he⟩:=wW Y;obtain⟨W,⟨m0,w0⟩,turn⟩:=h Y;have S7:∀{H':Hp} {pl:List (W8×Obj)},H' bq=none->(∀p∈pl,p.1≠bq)->pH (dX X scope N Y) pl H' bq:=λ{H' pl} hn hp=>by
  refine⟨hn,Rz,λz=>absurd (QJ _ z) (YT _),.inr (by show s2.heap.objs.size<=bq;rw[hAg];exact WK _),λx c e=>Xj (S6 x c (c1 x c e)),λp Hm=>?_⟩;rcases Xa.mp Hm with z|z
  ·exact Xj (Lg p z)
  ·exact hp p z
 have S8:∀{H':Hp} {pl:List (W8×Obj)},(∀b∈fp,H' b=none)->(∀p∈pl,p.1∉fp)->∀b∈fp,pH (dX X scope N Y) pl H' b:=λ{H' pl} hn hp b hb=>by
  refine⟨hn b hb,(below b (S5 b hb)).1,λz=>?_,.inl hb,λx c e=>(f2 b hb).2.2.2.2.1 x c (c1 x c e),λp Hm=>?_⟩
  ·rcases WZ.mp (I.stkSub b z) with q|q
   ·exact (f2 b hb).2.1 q
   ·exact (f2 b hb).2.2.1 q
  ·rcases Xa.mp Hm with z|z
   ·exact (f2 b hb).2.2.2.2.2 p z
   ·exact λe=>hp p z (by rw[e];exact hb)
 have Uj:bq∉fp:=λz=>absurd (S5 bq z) (by intro q;rw[hAg] at *;exact YT _ q);have S9:∀{i:Nat} {x:Str} {v:V},N[i]? = some x->(uA js σ)[i]? = some (some v)->∃u c o,aO v u/\scope.names.lookup x=some .free/\cl.lookup x=some c/\s2.heap.get? c=some o/\o.data=.cell (some u):=λ{i x v} e1 e2=>by
  unfold uA at e2;rw[WQ] at e2;cases hj:js[i]? with
  |none=>rw[hj] at e2;cases e2
  |some o=>
   rw[hj] at e2;cases o with
   |none=>cases e2
   |some j=>
    have e4:(match σ[j]? with|some v=>v|none=>none)=some v:=W6 e2;obtain⟨nx,fr⟩:=S.cap i j x hj e1;have e5:σ[j]? = some (some v):=by
     cases q:σ[j]? with
     |none=>rw[q] at e4;cases e4
     |some z=>rw[q] at e4;rw[show z=some v from e4]
    obtain⟨m,hn,hl⟩:=I.loc;have kx:X.env.scope.names.lookup x=some .cell\/X.env.scope.names.lookup x=some .free:=by rw[lB];exact S.free x (X1 fr)
    obtain⟨u,r,lk⟩:=hl j x v nx e5 (.inr kx);obtain⟨c,hcl⟩:=c2 x (X1 fr);rcases lk with⟨k,_⟩|⟨k,c',e',z⟩
    ·have k':X.env.scope.names.lookup x=some .local:=k;rcases kx with q|q<;>· rw[q] at k';cases k'
    ·have:c'=c:=by
      have:=c1 x c hcl;rw[e'] at this;exact W6 this
     subst this;obtain⟨o,ho,hd⟩:=z;exact⟨u,c',o,r,fr,hcl,ho,hd⟩
 have QL:∀{pl:List (W8×Obj)} {σ':St} {H':Hp} {s':WT},az (dX X scope N Y) pl σ' H' s'->az (dX X scope N Y) pl (uA js σ) H' s':=λ{pl σ' H' s'} K=>by
  refine⟨K.ok,K.os,K.bare,K.base,?_,K.cell,K.free,K.freeC,K.pin,K.hok,?_⟩
  ·obtain⟨m,hn,_⟩:=K.loc;refine⟨m,hn,λi x v e1 e2 e3=>?_⟩;obtain⟨u,c,o,r,fr,hcl,ho,hd⟩:=S9 e1 e2;refine⟨u,r,.inr ⟨dQ fr,c,hcl,?_⟩⟩;obtain⟨sl,q⟩:=K.base.any ho (I.freeC x c (c1 x c hcl)) λz=>(f2 c z).2.2.2.2.1 x c (c1 x c hcl) rfl;exact⟨_,q,hd⟩
  ·show (uA js σ).length=N.length;unfold uA;rw[Ww];exact S.len
 have loop:∀tk:Nat,codeAny (Xg X.prog X.w) X.A (.compLoop (.ListComp elt [⟨tg,iter,s_,0⟩] scope pos) 0 (.ref it) (.ref bq) (compEnvC scope cl C X.env)) (RR (.ref bq) C) {s2 with heap:=h₁,toks:=tk}:=by
  intro tk;refine km (λn s'=>∃(i:Nat) (ys:List V) (au:List WG) (H':Hp),az (dX X scope N Y) [] (uA js σ) H' s'/\tn i s'.heap/\(∀b∈fp,H' b=none)/\H' bq=none/\s'.heap.PlainList bq au.toArray/\aW ys au/\ys.length<=WC/\W i n ys H') ?_ m0
   ⟨0,[],[],H,I4 tk,T.keep _ _ _ ki (λb hb o e=>old b o e),λb hb=>(f2 b hb).1,Cd,p9,.nil,Ys _,w0⟩
  rintro n s3 ⟨i,ys,au,H3,I3,Hs,fr3,na3,⟨nn,ea⟩,rv3,hz3,w3⟩;have NH:∀p∈[(bq,({cls:=.type "list",data:=.seq au.toArray nn}:Obj))],p.1∉fp:=λp hp=>by
   have e:p=(bq,({cls:=.type "list",data:=.seq au.toArray nn}:Obj)):=by simpa using hp
   rw[e];exact Uj
  have Ip:az (dX X scope N Y) [(bq,({cls:=.type "list",data:=.seq au.toArray nn}:Obj))] (uA js σ) H3 s3:=I3.pins_of λp hp=>by
   have e:p=(bq,({cls:=.type "list",data:=.seq au.toArray nn}:Obj)):=by simpa using hp
   subst e;exact⟨ea,na3,Rz,λz=>absurd (QJ _ z) (YT _),λv z=>by cases z⟩
  rcases turn i n ys H3 w3 with⟨stop,p⟩|⟨go,Dt,Nx,hNx,step⟩
  ·refine XQ (T.done (dX X scope N Y) rfl rfl rfl hc i _ s3 _ H3 (λ_ _=>False) Ip (S8 fr3 NH) Hs stop) (λr s4 U9=>?_) λ_ _ z=>z;obtain⟨hr,J4⟩:=U9;subst hr;have pa:=(J4.pin (bq,({cls:=.type "list",data:=.seq au.toArray nn}:Obj)) (Xl _ WM)).1;have u:Un (AB X.stack) fp H (cD H3 bq (.lst ys)) s2.heap s4.heap:=
    ⟨J4.base.keep,J4.base.slot,λb o e nb hx=>by rw[aS (below b (by rw[←hAg];exact WU e)).2];exact J4.base.free b o e nb hx,J4.base.there,
     λb xs e=>by rw[aS (bK e Cd)];exact J4.base.tups b xs e,λb o w' e=>by rw[aS (bK e Cd)];exact J4.base.frzs b o w' e,λb ps e=>by rw[aS (bK e Cd)];exact J4.base.tbls b ps e⟩
   have hok:kh X.prog X.w (cD H3 bq (.lst ys)) s4.heap:=λb o e=>by
    by_cases hb:b=bq
    ·subst hb;rw[bg] at e;cases e;exact⟨hz3,au,nn,rv3,pa⟩
    ·rw[aS hb] at e;refine (J4.hok b o e).stay (λ_ _ _ q=>q) (λc q=>?_) λc xs q=>?_
     ·rw[aS (bK q na3)];exact q
     ·rw[aS (bK q na3)];exact q
   have S_:az X pins σ (cD H3 bq (.lst ys)) s4:=I.call' (ch:=fp) J4.os u hok J4.bare λb hb=>⟨(f2 b hb).2.2.2.1,(f2 b hb).2.1,(f2 b hb).2.2.2.2.1,(f2 b hb).2.2.2.2.2⟩;have U_:∃m,s4.heap.Ns C m:=by obtain⟨m,hn,_⟩:=J4.loc;exact⟨m,hn⟩
   exact hR bq C ys H3 s4 S_ U_ (I.fpOk (by rw[hAg];exact JK) (by rw[aS (Ne.symm Rz)];exact J4.free)) na3 p
  ·refine XQ (T.item (dX X scope N Y) rfl rfl rfl hc i _ s3 _ H3 (λ_ _=>False) Ip (S8 fr3 NH) Hs go) (λr s4 h4=>?_) λ_ _ z=>z;obtain⟨u,hr,h4⟩:=h4;subst hr;refine XQ h4 (λ_ s5 h5=>?_) λ_ _ z=>z;obtain⟨x,H5,I5,r5,y5,st5,fr5⟩:=h5;have SX:=I5.pinned (S8 fr5 NH) (T.obj _ _ st5);refine XQ (hg _ s5 _ H5 x u _ SX r5 (step x H5 y5)) (λ_ s6 h6=>?_) λ_ _ z=>z;obtain⟨σ6,H6,I6,q6⟩:=h6;refine XQ (ht _ s6 σ6 H6 _ I6 q6) (λb s7 h7=>?_) λ_ _ z=>z;obtain⟨H7,I7,q7⟩:=h7;have QM:∀{H8:Hp} {σ8:St} {s8:WT},az (dX X scope N Y) ([(bq,({cls:=.type "list",data:=.seq au.toArray nn}:Obj))]++qF fp s5.heap) σ8 H8 s8->
     s8.heap.get? bq=some ({cls:=.type "list",data:=.seq au.toArray nn}:Obj)/\H8 bq=none/\(∀b∈fp,H8 b=none)/\(∀b∈fp,∀o,s5.heap.get? b=some o->s8.heap.get? b=some o):=λ{H8 σ8 s8} K=>by
    have q:=K.pin (bq,({cls:=.type "list",data:=.seq au.toArray nn}:Obj)) (Xl _ (YF _ WM));refine⟨q.1,q.2.1,λb hb=>?_,λb hb o e=>(K.pin (b,o) (Xl _ (Xl _ (jB hb e)))).1⟩;obtain⟨o,e,d⟩:=T.obj _ _ st5 b hb;exact (K.pin (b,o) (Xl _ (Xl _ (jB hb e)))).2.1
   have G_:∀{H8:Hp} {σ8:St} {s8:WT} {pl:List (W8×Obj)},az (dX X scope N Y) pl σ8 H8 s8->az (dX X scope N Y) [] σ8 H8 s8:=λK=>K.pins_of λp hp=>absurd hp (by simp);cases b with
   |false=>
    rw[hV (by simp)] at q7;obtain⟨m',hm,w7⟩:=hNx _ _ q7;obtain⟨p1,p2,p3,p4⟩:=QM I7;exact⟨m',hm,i+1,ys,au,H7,QL (G_ I7),T.keep _ _ _ st5 p4,p3,p2,⟨nn,p1⟩,rv3,hz3,w7⟩
   |true=>
    rw[hZ rfl] at q7;refine XQ (he _ s7 σ6 H7 _ I7 q7) (λv s8 h8=>?_) λ_ _ z=>z;obtain⟨y,H8,I8,r8,q8⟩:=h8;obtain⟨m',hm,w8⟩:=hNx _ _ q8;obtain⟨p1,p2,p3,p4⟩:=QM I8;refine wpAny_list_append_plain (items:=au.toArray) ⟨nn,p1⟩ (λh' Va sb=>?_) (by rw[WJ,←rv3.length];exact hz3);obtain⟨f0,f1,f2',f3,f4,f5⟩:=S7 (H':=H8) (pl:=[]) p2 (by simp);have I9:az (dX X scope N Y) [] σ6 H8 {s8 with heap:=h'}:=(G_ I8).turned (t':=s8.toks) (λb o hb e=>(sb.2 b hb).trans e) f0 f1 f3 f4 f5;refine⟨m',hm,i+1,ys++[y],au++[v],H8,QL I9,T.keep _ _ _ st5 (λb hb o e=>(sb.2 b (λz=>Uj (z▸hb))).trans (p4 b hb o e)),p3,p2,?_,rv3.append (.cons r8 .nil),?_,w8⟩
    ·rw[show (au++[v]).toArray=au.toArray.push v from by simp];exact Va
    ·rw[WI,Ya];exact Dt
 exact codeAny_compStart_list (loop _) (T.self _ _ _ _ _ (T.keep _ _ _ ki (λb hb o e=>old b o e)) (loop _))
theorem qO {lj:acj}(I:az X pins σ H s)(S:mF lj X.N scope N js)(lB:X.env.scope=lj) :
  ∃cl:List (Str×W8),closureFor scope X.env=pure cl/\(∀x c,cl.lookup x=some c->X.env.cells.lookup x=some c)/\∀x,(x,NameKind.free)∈scope.names->∃c,cl.lookup x=some c:=
 zh λx hx=>I.ok.has x (by
  have:=S.free x hx;rw[←lB] at this;exact this)
theorem JQ {g:qh->TG}{tt:qh->TT}{te:qh->TE}(lj:acj)(NX N:List Str)(js:List (Option Nat))(hc:X.calm=true)(hi:PI X tg iter wi)(wW:∀Y:qh,PG (dX X scope N Y) tg (g Y)/\Ee (dX X scope N Y) s_ (tt Y)/\PE (dX X scope N Y) elt (te Y))(lB:X.env.scope=lj:=by rfl)(JL:X.N=NX:=by rfl)(hS:tF lj NX scope N js=true:=by decide+kernel)(hs:∀x,YR iter X.env x=pure x:=by intro _;rfl):PE X (.ListComp elt [⟨tg,iter,s_,0⟩] scope pos) (Q4 wi js g tt te):=by
 intro pins s σ H Q I h;have S:mF lj X.N scope N js:=by rw[JL];exact tF.to hS
 obtain⟨cl,e1,e2,e3⟩:=qO I S lB;rw[eval_ListComp];refine wpAny_comprehension_free (use:=none) rfl hs e1 S.kind S.loc (dC (hi pins s σ H _ I h) λv s1 h1=>dC h1 λRx s2 h2=>?_);obtain⟨it,fp,tn,J,H2,e,I2,T,ki,f2,q⟩:=h2;subst e;refine qN (RR:=λbq C=>compPost (Xg X.prog X.w) X.A X.xe none (EP X pins σ Q) bq C) I2 hc T ki f2 wW S lB e2 e3 q ?_;intro bq C ys H' s' I' ns fC na p;obtain⟨m,hn⟩:=ns;obtain⟨f0,f1,f2',f3,f4,f5⟩:=fC;exact⟨m,hn,λh' sb=>⟨.ref bq,_,I'.turned (t':=s'.toks) (λb o hb e=>(sb.2 b hb).trans e) f0 f1 f3 f4 f5,rfl,p bq na⟩⟩
theorem Eg {ka p_:Pos}{g:qh->TG}{tt:qh->TT}{te:qh->TE}(lj:acj)(NX N:List Str)(js:List (Option Nat))(hN:X.N.Nodup)(hx:X.N[i]? = some x)(hl:Hi X.env.scope x)(hc:X.calm=true)(hi:PI X tg iter wi)(wW:∀Y:qh,PG (dX X scope N Y) tg (g Y)/\Ee (dX X scope N Y) s_ (tt Y)/\PE (dX X scope N Y) elt (te Y))(lB:X.env.scope=lj:=by rfl)(JL:X.N=NX:=by rfl)(hS:tF lj NX scope N js=true:=by decide+kernel)(hw:aaI (.ListComp elt [⟨tg,iter,s_,0⟩] scope p_) (some (.Name x ka)) pos.line X.env=pure true:=by rfl)(hf:X.fn x=true\/X.env.scope.names.lookup x=some .local:=by first|exact .inl rfl|exact .inr rfl|assumption)(hs:∀x,YR iter X.env x=pure x:=by intro _;rfl) :
  PS X (.Assign [.Name x ka] (.ListComp elt [⟨tg,iter,s_,0⟩] scope p_) pos) (DR (Q4 wi js g tt te) (xh i)):=by
 intro pins s σ H D I h;have S:mF lj X.N scope N js:=by rw[JL];exact tF.to hS
 obtain⟨cl,e1,e2,e3⟩:=qO I S lB;rw[exec_Assign_Name_used _ _ _ _ hw];refine Wv (abz (Wv ?_));show WX _ X.A (do let _ ←comprehension (.ListComp elt [⟨tg,iter,s_,0⟩] scope p_) scope X.env _ (newList []) false (aaj iter X.env) (some (assign (.Name x ka) X.env))) _ _ s;refine Wv (XQ (wpAny_comprehension_free (use:=some (assign (.Name x ka) X.env)) (Q:=λ_ s'=>SP X pins D .next s') rfl hs e1 S.kind S.loc
  (dC (hi pins s σ H _ I h) λv s1 h1=>dC h1 λRx s2 h2=>?_)) (λ_ s' hq=>Wy (Wy hq)) λ_ _ e=>e)
 obtain⟨it,fp,tn,J,H2,e,I2,T,ki,f2,q⟩:=h2;subst e;refine qN (RR:=λbq C=>compPost (Xg X.prog X.w) X.A X.xe (some (assign (.Name x ka) X.env)) (λ_ s'=>SP X pins D .next s') bq C) I2 hc T ki f2 wW S lB e2 e3 q ?_;intro bq C ys H' s' I' ns fC na p;obtain⟨m,hn⟩:=ns;obtain⟨f0,f1,f2',f3,f4,f5⟩:=fC;show WX _ X.A (assign (.Name x ka) X.env (.ref bq)) _ _ _;refine wpAny_assign_Name (uj I' hN hx hl (v:=.ref bq) rfl (λLc Vb Vc=>?_) hf);obtain⟨a,sb,ha⟩:=Vc;have aC:C≠a:=by
  rcases ha with ha|ha
  ·rw[ha];exact f1
  ·exact λz=>f4 x a ha z.symm
 refine⟨m,hn.sameBut sb aC,λh' Vd=>⟨_,_,Vb.turned (t':=Lc.toks) (λb o hb e=>(Vd.2 b hb).trans e) f0 f1 f3 f4 f5,?_⟩⟩;exact p bq na
def OV (J:It)(g:TG)(tb:TS)(D:pG)(σ:St)(H1:Hp):Prop:=∃W:Nat->Nat->St->Hp->Prop,(∃m,W 0 m σ H1)/\∀i m σ H,W i m σ H->
 (J.stop i H/\D.nx σ H)\/(J.go i H/\∃N:St->Hp->Prop,(∀σ' H',N σ' H'->∃m',m'<m/\W (i+1) m' σ' H')/\∀x H',J.yld i H x H'->g x σ H' λσ2 H2=>tb {D with nx:=N,ct:=N,bk:=D.nx} σ2 H2)
def OW (wi:TI)(g:TG)(tb:TS):TS:=λD σ H=>wi σ H λJ H1=>OV J g tb D σ H1
theorem H_ {g:TG}{tb:TS}(hp:acB (Xg X.prog X.w) X.A X.env X.xe)(hc:X.calm=true)(hi:PI X tg iter wi)(hg:PG X tg g)(hb:uk X body tb)(hs:∀x,YR iter X.env x=pure x:=by intro _;rfl):PS X (.For tg iter body [] pos) (OW wi g tb):=LF hp hc hi hg hb hs
end L2
namespace L2
inductive D where
 |non|bl (b:Bool)|int (i:Int)|str (x:Str)|tup (xs:List D)|lst (xs:List D)
instance:Inhabited D:=⟨.non⟩
mutual
def aM (K:WD)(H:Hp):D->V->Prop
 | .non,v=>v=.non
 | .bl b,v=>v=.bl b
 | .int i,v=>v=.int i
 | .str x,v=>v=.str x
 | .tup ds,v=>∃a xs,v=.ref a/\gU K H a xs/\fT K H ds xs
 | .lst ds,v=>∃a xs,v=.ref a/\gc K H a xs/\fT K H ds xs
def fT (K:WD)(H:Hp):List D->List V->Prop
 | [],xs=>xs=[]
 |d::ds,xs=>∃x r,xs=x::r/\aM K H d x/\fT K H ds r
end
mutual
noncomputable def mm:D->D->Bool
 | .non,.non=>true
 | .bl a,.bl b=>a==b
 | .bl a,.int b=>(if a then 1 else 0)==b
 | .int a,.bl b=>a==(if b then 1 else 0)
 | .int a,.int b=>a==b
 | .str a,.str b=>a==b
 | .tup xs,.tup ys=>nJ xs ys
 | .lst xs,.lst ys=>nJ xs ys
 |_,_=>false
noncomputable def nJ:List D->List D->Bool
 | [],[]=>true
 |x::xs,y::ys=>mm x y&&nJ xs ys
 |_,_=>false
end
mutual
noncomputable def dg:D->Nat
 | .tup xs=>g9 xs+1
 | .lst xs=>g9 xs+1
 |_=>0
noncomputable def g9:List D->Nat
 | []=>0
 |x::xs=>max (dg x) (g9 xs)
end
theorem fT.length {K:WD}{H:Hp}:∀{ds:List D} {xs:List V},fT K H ds xs->ds.length=xs.length
 | [],_,h=>by unfold fT at h;subst h;rfl
 |d::ds,_,h=>by
  unfold fT at h;obtain⟨x,r,rfl,_,q⟩:=h;rw[WS,WS,fT.length q]
theorem fT.get {K:WD}{H:Hp}:∀{ds:List D} {xs:List V} {i:Nat} {d:D} {x:V},fT K H ds xs->ds[i]? = some d->xs[i]? = some x->aM K H d x
 | [],_,_,_,_,_,e,_=>by simp at e
 |d::ds,_,i,d',x',h,e1,e2=>by
  unfold fT at h;obtain⟨x,r,rfl,p,q⟩:=h;cases i with
  |zero=>simp at e1 e2;subst e1 e2;exact p
  |succ i=>exact fT.get q (by simpa using e1) (by simpa using e2)
theorem fA:∀{ds:List D} {i:Nat} {d:D},ds[i]? = some d->dg d<=g9 ds
 | [],_,_,e=>by simp at e
 |d::ds,i,d',e=>by
  unfold g9;cases i with
  |zero=>simp at e;subst e;exact Nat.le_max_left _ _
  |succ i=>exact XG (fA (ds:=ds) (by simpa using e)) (Nat.le_max_right _ _)
noncomputable def dh (xs ys:List D)(j:Nat):Bool:=match xs[j]?,ys[j]? with
 |some a,some b=>mm a b
 |_,_=>true
theorem fU:∀(xs ys:List D),((WY (min xs.length ys.length)).all (dh xs ys)&&xs.length==ys.length)=nJ xs ys
 | [],[]=>by simp[nJ]
 | [],_::_=>by simp[nJ]
 |_::_,[]=>by simp[nJ]
 |x::xs,y::ys=>by
  have ih:=fU xs ys;unfold nJ;rw[←ih,WS,WS,Nat.add_min_add_right,List.range_succ_eq_map,aaN,List.all_map];have e0:dh (x::xs) (y::ys) 0=mm x y:=rfl;have e1:(dh (x::xs) (y::ys)∘Nat.succ)=dh xs ys:=by funext j;simp[dh,Function.comp]
  rw[e0,e1,Bool.and_assoc];congr 1;congr 1;rw[Yj];simp
theorem qP {xs ys:List D}(h:xs.length≠ys.length):nJ xs ys=false:=by
 rw[←fU,show (xs.length==ys.length)=false from by simpa using h,abd]
mutual
theorem qQ:∀d:D,mm d d=true
 | .non=>rfl
 | .bl b=>by unfold mm;simp
 | .int b=>by unfold mm;simp
 | .str b=>by unfold mm;simp
 | .tup xs=>by unfold mm;exact nK xs
 | .lst xs=>by unfold mm;exact nK xs
theorem nK:∀ds:List D,nJ ds ds=true
 | []=>rfl
 |d::ds=>by unfold nJ;rw[qQ d,nK ds];rfl
end
theorem OX {ys:List V}(I:az X pins σ H s)(h:gc X.K H a xs)(h':gU X.K H a ys):False:=by
 obtain⟨au,_,p,_⟩:=I.list h;obtain⟨its',_,q,_⟩:=I.tuple h';exact absurd rfl (SeqAt.ne_of_list_tuple p.isList q)
theorem xp (I:az X pins σ H s):∀n d1 d2 x,dg d1<=n->aM X.K H d1 x->aM X.K H d2 x->mm d1 d2=true:=by
 have lists:∀n,(∀d1 d2 x,dg d1<=n->aM X.K H d1 x->aM X.K H d2 x->mm d1 d2=true)->∀(ds es:List D) (xs:List V),g9 ds<=n->fT X.K H ds xs->fT X.K H es xs->nJ ds es=true:=by
  intro n ih ds
  induction ds with
  |nil=>
   intro es xs _ h1 h2;unfold fT at h1;subst h1;cases es with
   |nil=>rfl
   |cons e es=>unfold fT at h2;obtain⟨x,r,e',_⟩:=h2;cases e'
  |cons d ds ihd=>
   intro es xs hd h1 h2;unfold fT at h1;obtain⟨x,r,rfl,p,q⟩:=h1;cases es with
   |nil=>unfold fT at h2;cases h2
   |cons e es=>
    unfold fT at h2;obtain⟨x',r',e',p',q'⟩:=h2;cases e';unfold g9 at hd;unfold nJ;rw[ih d e x (XG (Nat.le_max_left _ _) hd) p p',ihd es r (XG (Nat.le_max_right _ _) hd) q q'];rfl
 intro n
 induction n with
 |zero=>
  intro d1 d2 x hd h1 h2;have fl:∀d,aM X.K H d x->(∃a,x=.ref a)\/(d=.non/\x=.non)\/(∃b,d=.bl b/\x=.bl b)\/(∃b,d=.int b/\x=.int b)\/∃b,d=.str b/\x=.str b:=λd h=>by
   cases d with
   |non=>unfold aM at h;exact .inr (.inl ⟨rfl,h⟩)
   |bl b=>unfold aM at h;exact .inr (.inr (.inl ⟨b,rfl,h⟩))
   |int b=>unfold aM at h;exact .inr (.inr (.inr (.inl ⟨b,rfl,h⟩)))
   |str b=>unfold aM at h;exact .inr (.inr (.inr (.inr ⟨b,rfl,h⟩)))
   |tup ds=>unfold aM at h;obtain⟨a,_,e,_⟩:=h;exact .inl ⟨a,e⟩
   |lst ds=>unfold aM at h;obtain⟨a,_,e,_⟩:=h;exact .inl ⟨a,e⟩
  have nr:¬∃a,x=.ref a:=λh00=>by
   obtain⟨a,e⟩:=h00;subst e;cases d1 with
   |tup ds=>unfold dg at hd;lia
   |lst ds=>unfold dg at hd;lia
   |_=>unfold aM at h1;cases h1
  have f1:=fl d1 h1;have f2:=fl d2 h2;rcases f1 with f1|⟨rfl,rfl⟩|⟨b,rfl,rfl⟩|⟨b,rfl,rfl⟩|⟨b,rfl,rfl⟩
  ·exact absurd f1 nr
  all_goals
   rcases f2 with f2|⟨rfl,f2⟩|⟨c,rfl,f2⟩|⟨c,rfl,f2⟩|⟨c,rfl,f2⟩
   ·exact absurd f2 nr
   all_goals first|(cases f2;exact qQ _)|cases f2
 |succ n ih=>
  intro d1 d2 x hd h1 h2;cases d1 with
  |tup ds=>
   unfold aM at h1;obtain⟨a,xs,rfl,hs,hr⟩:=h1;cases d2 with
   |tup es=>
    unfold aM at h2;obtain⟨a',xs',e,hs',hr'⟩:=h2;cases e;have:=I.tuple_inj hs hs';subst this;unfold mm;exact lists n ih ds es xs (by unfold dg at hd;lia) hr hr'
   |lst es=>
    unfold aM at h2;obtain⟨a',xs',e,hs',hr'⟩:=h2;cases e;exact (OX I hs' hs).elim
   |_=>unfold aM at h2;cases h2
  |lst ds=>
   unfold aM at h1;obtain⟨a,xs,rfl,hs,hr⟩:=h1;cases d2 with
   |lst es=>
    unfold aM at h2;obtain⟨a',xs',e,hs',hr'⟩:=h2;cases e;have:=I.list_inj hs hs';subst this;unfold mm;exact lists n ih ds es xs (by unfold dg at hd;lia) hr hr'
   |tup es=>
    unfold aM at h2;obtain⟨a',xs',e,hs',hr'⟩:=h2;cases e;exact (OX I hs hs').elim
   |_=>unfold aM at h2;cases h2
  |_=>exact ih _ d2 x (by unfold dg;exact Ys _) h1 h2
theorem vq (I:az X pins σ H s):∀(n:Nat) (d1 d2:D) (x y:V) (u v:WG) (A:XD),dg d1<=n->A.units+n<YH->aM X.K H d1 x->aM X.K H d2 y->aO x u->aO y v->aaD A s u v (mm d1 d2):=by
 intro n
 induction n with
 |zero=>
  intro d1 d2 x y u v A hd hu h1 h2 r1 r2;have du:A.units<YH:=by lia
  cases d1 with
  |non=>
   unfold aM at h1;subst h1;cases r1;cases d2 with
   |non=>
    unfold aM at h2;subst h2;cases r2;exact abI _
   |bl b2=>
    unfold aM at h2;subst h2;cases r2;exact SeqAt.EqAt.none_bool b2
   |int b2=>
    unfold aM at h2;subst h2;obtain⟨t2,rfl⟩:=r2;exact SeqAt.EqAt.none_int b2 t2
   |str b2=>
    unfold aM at h2;subst h2;obtain⟨t2,rfl⟩:=r2;exact SeqAt.EqAt.none_str b2 t2
   |tup b2=>
    unfold aM at h2;obtain⟨a2,xs2,rfl,b_,fj⟩:=h2;cases r2;obtain⟨its2,rv2,p2,ke⟩:=I.tuple b_;exact SeqAt.EqAt.none_tuple p2 du
   |lst b2=>
    unfold aM at h2;obtain⟨a2,xs2,rfl,b_,fj⟩:=h2;cases r2;obtain⟨its2,rv2,p2,ke⟩:=I.list b_;exact SeqAt.EqAt.none_list p2.isList du
  |bl b1=>
   unfold aM at h1;subst h1;cases r1;cases d2 with
   |non=>
    unfold aM at h2;subst h2;cases r2;exact SeqAt.EqAt.bool_none b1
   |bl b2=>
    unfold aM at h2;subst h2;cases r2;exact SeqAt.EqAt.bool_bool b1 b2
   |int b2=>
    unfold aM at h2;subst h2;obtain⟨t2,rfl⟩:=r2;exact SeqAt.EqAt.bool_int b1 b2 t2
   |str b2=>
    unfold aM at h2;subst h2;obtain⟨t2,rfl⟩:=r2;exact SeqAt.EqAt.bool_str b1 b2 t2
   |tup b2=>
    unfold aM at h2;obtain⟨a2,xs2,rfl,b_,fj⟩:=h2;cases r2;obtain⟨its2,rv2,p2,ke⟩:=I.tuple b_;exact SeqAt.EqAt.bool_tuple b1 p2 du
   |lst b2=>
    unfold aM at h2;obtain⟨a2,xs2,rfl,b_,fj⟩:=h2;cases r2;obtain⟨its2,rv2,p2,ke⟩:=I.list b_;exact SeqAt.EqAt.bool_list b1 p2.isList du
  |int b1=>
   unfold aM at h1;subst h1;obtain⟨t1,rfl⟩:=r1;cases d2 with
   |non=>
    unfold aM at h2;subst h2;cases r2;exact SeqAt.EqAt.int_none b1 t1
   |bl b2=>
    unfold aM at h2;subst h2;cases r2;exact SeqAt.EqAt.int_bool b1 t1 b2
   |int b2=>
    unfold aM at h2;subst h2;obtain⟨t2,rfl⟩:=r2;exact SeqAt.EqAt.int_int b1 t1 b2 t2
   |str b2=>
    unfold aM at h2;subst h2;obtain⟨t2,rfl⟩:=r2;exact SeqAt.EqAt.int_str b1 t1 b2 t2
   |tup b2=>
    unfold aM at h2;obtain⟨a2,xs2,rfl,b_,fj⟩:=h2;cases r2;obtain⟨its2,rv2,p2,ke⟩:=I.tuple b_;exact SeqAt.EqAt.int_tuple b1 t1 p2 du
   |lst b2=>
    unfold aM at h2;obtain⟨a2,xs2,rfl,b_,fj⟩:=h2;cases r2;obtain⟨its2,rv2,p2,ke⟩:=I.list b_;exact SeqAt.EqAt.int_list b1 t1 p2.isList du
  |str b1=>
   unfold aM at h1;subst h1;obtain⟨t1,rfl⟩:=r1;cases d2 with
   |non=>
    unfold aM at h2;subst h2;cases r2;exact SeqAt.EqAt.str_none b1 t1
   |bl b2=>
    unfold aM at h2;subst h2;cases r2;exact SeqAt.EqAt.str_bool b1 t1 b2
   |int b2=>
    unfold aM at h2;subst h2;obtain⟨t2,rfl⟩:=r2;exact SeqAt.EqAt.str_int b1 t1 b2 t2
   |str b2=>
    unfold aM at h2;subst h2;obtain⟨t2,rfl⟩:=r2;exact SeqAt.EqAt.str_str b1 t1 b2 t2
   |tup b2=>
    unfold aM at h2;obtain⟨a2,xs2,rfl,b_,fj⟩:=h2;cases r2;obtain⟨its2,rv2,p2,ke⟩:=I.tuple b_;exact SeqAt.EqAt.str_tuple b1 t1 p2 du
   |lst b2=>
    unfold aM at h2;obtain⟨a2,xs2,rfl,b_,fj⟩:=h2;cases r2;obtain⟨its2,rv2,p2,ke⟩:=I.list b_;exact SeqAt.EqAt.str_list b1 t1 p2.isList du
  |tup ds=>unfold dg at hd;lia
  |lst ds=>unfold dg at hd;lia
 |succ n ih=>
  intro d1 d2 x y u v A hd hu h1 h2 r1 r2;have du:A.units<YH:=by lia
  cases d1 with
  |tup ds=>
   unfold aM at h1;obtain⟨a1,xs1,rfl,mj,hr1⟩:=h1;cases r1;obtain⟨its1,rv1,p1,hz1⟩:=I.tuple mj;cases d2 with
   |non=>
    unfold aM at h2;subst h2;cases r2;exact SeqAt.EqAt.tuple_none p1 du
   |bl b2=>
    unfold aM at h2;subst h2;cases r2;exact SeqAt.EqAt.tuple_bool b2 p1 du
   |int b2=>
    unfold aM at h2;subst h2;obtain⟨t2,rfl⟩:=r2;exact SeqAt.EqAt.tuple_int b2 t2 p1 du
   |str b2=>
    unfold aM at h2;subst h2;obtain⟨t2,rfl⟩:=r2;exact SeqAt.EqAt.tuple_str b2 t2 p1 du
   |tup es=>
    unfold aM at h2;obtain⟨a2,xs2,rfl,b_,fj⟩:=h2;cases r2;obtain⟨its2,rv2,p2,ke⟩:=I.tuple b_;by_cases vi:a1=a2
    ·subst vi;rw[xp I (n+1) (.tup ds) (.tup es) (.ref a1) hd (by unfold aM;exact⟨a1,xs1,rfl,mj,hr1⟩) (by unfold aM;exact⟨a1,xs2,rfl,b_,fj⟩)];exact abI _
    ·refine ab4 vi ?_;have l1:its1.toArray.size=ds.length:=by rw[WJ,←rv1.length,hr1.length]
     have l2:its2.toArray.size=es.length:=by rw[WJ,←rv2.length,fj.length]
     have k1:xs1.length=ds.length:=hr1.length.symm;have k2:xs2.length=es.length:=fj.length.symm;have he:∀j (h1:j<its1.toArray.size) (h2:j<its2.toArray.size),aaD A.in1 s its1.toArray[j] its2.toArray[j] (dh ds es j):=λj g1 g2=>by
      have q1:ds[j]? = some ds[j]:=Wx (by lia);have q2:es[j]? = some es[j]:=Wx (by lia);have e1:xs1[j]? = some xs1[j]:=Wx (by lia);have e2:xs2[j]? = some xs2[j]:=Wx (by lia);obtain⟨u1,z1,w1⟩:=rv1.get e1;obtain⟨u2,z2,w2⟩:=rv2.get e2;have y1:its1.toArray[j]=u1:=by
       have:=WE.mp z1;obtain⟨_,q⟩:=this;simpa using q
      have y2:its2.toArray[j]=u2:=by
       have:=WE.mp z2;obtain⟨_,q⟩:=this;simpa using q
      rw[y1,y2];have:dh ds es j=mm ds[j] es[j]:=by unfold dh;rw[q1,q2]
      rw[this];refine ih ds[j] es[j] xs1[j] xs2[j] u1 u2 A.in1 ?_ (by show A.units+1+n<YH;lia) (hr1.get q1 e1) (fj.get q2 e2) w1 w2;have:=fA q1;unfold dg at hd;lia
     have q:=acr (A:=A) p1 p2 du he;rw[l1,l2,fU] at q;unfold mm;exact q
   |lst es=>
    unfold aM at h2;obtain⟨a2,xs2,rfl,b_,fj⟩:=h2;cases r2;obtain⟨its2,rv2,p2,ke⟩:=I.list b_;exact SeqAt.EqAt.tuple_list p1 p2.isList du
  |lst ds=>
   unfold aM at h1;obtain⟨a1,xs1,rfl,mj,hr1⟩:=h1;cases r1;obtain⟨its1,rv1,p1,hz1⟩:=I.list mj;cases d2 with
   |non=>
    unfold aM at h2;subst h2;cases r2;exact SeqAt.EqAt.list_none p1.isList du
   |bl b2=>
    unfold aM at h2;subst h2;cases r2;exact SeqAt.EqAt.list_bool b2 p1.isList du
   |int b2=>
    unfold aM at h2;subst h2;obtain⟨t2,rfl⟩:=r2;exact SeqAt.EqAt.list_int b2 t2 p1.isList du
   |str b2=>
    unfold aM at h2;subst h2;obtain⟨t2,rfl⟩:=r2;exact SeqAt.EqAt.list_str b2 t2 p1.isList du
   |tup es=>
    unfold aM at h2;obtain⟨a2,xs2,rfl,b_,fj⟩:=h2;cases r2;obtain⟨its2,rv2,p2,ke⟩:=I.tuple b_;exact SeqAt.EqAt.list_tuple p1.isList p2 du
   |lst es=>
    unfold aM at h2;obtain⟨a2,xs2,rfl,b_,fj⟩:=h2;cases r2;obtain⟨its2,rv2,p2,ke⟩:=I.list b_;by_cases vi:a1=a2
    ·subst vi;rw[xp I (n+1) (.lst ds) (.lst es) (.ref a1) hd (by unfold aM;exact⟨a1,xs1,rfl,mj,hr1⟩) (by unfold aM;exact⟨a1,xs2,rfl,b_,fj⟩)];exact abI _
    ·refine ab4 vi ?_;have l1:its1.toArray.size=ds.length:=by rw[WJ,←rv1.length,hr1.length]
     have l2:its2.toArray.size=es.length:=by rw[WJ,←rv2.length,fj.length]
     have k1:xs1.length=ds.length:=hr1.length.symm;have k2:xs2.length=es.length:=fj.length.symm;have he:∀j (h1:j<its1.toArray.size) (h2:j<its2.toArray.size),aaD A.in1 s its1.toArray[j] its2.toArray[j] (dh ds es j):=λj g1 g2=>by
      have q1:ds[j]? = some ds[j]:=Wx (by lia);have q2:es[j]? = some es[j]:=Wx (by lia);have e1:xs1[j]? = some xs1[j]:=Wx (by lia);have e2:xs2[j]? = some xs2[j]:=Wx (by lia);obtain⟨u1,z1,w1⟩:=rv1.get e1;obtain⟨u2,z2,w2⟩:=rv2.get e2;have y1:its1.toArray[j]=u1:=by
       have:=WE.mp z1;obtain⟨_,q⟩:=this;simpa using q
      have y2:its2.toArray[j]=u2:=by
       have:=WE.mp z2;obtain⟨_,q⟩:=this;simpa using q
      rw[y1,y2];have:dh ds es j=mm ds[j] es[j]:=by unfold dh;rw[q1,q2]
      rw[this];refine ih ds[j] es[j] xs1[j] xs2[j] u1 u2 A.in1 ?_ (by show A.units+1+n<YH;lia) (hr1.get q1 e1) (fj.get q2 e2) w1 w2;have:=fA q1;unfold dg at hd;lia
     unfold mm;by_cases hl:ds.length=es.length
     ·have q:=SeqAt.RcAt.lists (A:=A) p1.isList p2.isList (by rw[l1,l2,hl]) du he;rw[l1] at q;have z:=fU ds es;rw[hl,ab5,beq_self_eq_true,Bool.and_true] at z;rw[hl,z] at q;exact q
     ·rw[qP hl];exact acs (A:=A) p1.isList p2.isList (by rw[l1,l2];simpa using hl) du
  |non=>exact ih _ d2 x y u v A (by unfold dg;exact Ys _) (by lia) h1 h2 r1 r2
  |bl b1=>exact ih _ d2 x y u v A (by unfold dg;exact Ys _) (by lia) h1 h2 r1 r2
  |int b1=>exact ih _ d2 x y u v A (by unfold dg;exact Ys _) (by lia) h1 h2 r1 r2
  |str b1=>exact ih _ d2 x y u v A (by unfold dg;exact Ys _) (by lia) h1 h2 r1 r2
theorem L3 (I:az X pins σ H s)(n:Nat)(d1 d2:D)(x y:V)(u v:WG)(A:XD)(hd:dg d1<=n)(hu:A.units+n<YH)(h1:aM X.K H d1 x)(h2:aM X.K H d2 y)(r1:aO x u)(r2:aO y v):SeqAt.RcAt A s u v (mm d1 d2):=by
  have du:A.units<YH:=by lia
  cases d1 with
  |non=>
   unfold aM at h1;subst h1;cases r1;cases d2 with
   |non=>
    unfold aM at h2;subst h2;cases r2;exact SeqAt.RcAt.none_none
   |bl b2=>
    unfold aM at h2;subst h2;cases r2;exact SeqAt.RcAt.none_bool b2
   |int b2=>
    unfold aM at h2;subst h2;obtain⟨t2,rfl⟩:=r2;exact SeqAt.RcAt.none_int b2 t2
   |str b2=>
    unfold aM at h2;subst h2;obtain⟨t2,rfl⟩:=r2;exact SeqAt.RcAt.none_str b2 t2
   |tup es=>
    unfold aM at h2;obtain⟨a2,xs2,rfl,b_,fj⟩:=h2;cases r2;obtain⟨its2,rv2,p2,ke⟩:=I.tuple b_;exact SeqAt.RcAt.none_tuple p2 du
   |lst es=>
    unfold aM at h2;obtain⟨a2,xs2,rfl,b_,fj⟩:=h2;cases r2;obtain⟨its2,rv2,p2,ke⟩:=I.list b_;exact SeqAt.RcAt.none_list p2.isList du
  |bl b1=>
   unfold aM at h1;subst h1;cases r1;cases d2 with
   |non=>
    unfold aM at h2;subst h2;cases r2;exact SeqAt.RcAt.bool_none b1
   |bl b2=>
    unfold aM at h2;subst h2;cases r2;exact SeqAt.RcAt.bool_bool b1 b2
   |int b2=>
    unfold aM at h2;subst h2;obtain⟨t2,rfl⟩:=r2;exact SeqAt.RcAt.bool_int b1 b2 t2
   |str b2=>
    unfold aM at h2;subst h2;obtain⟨t2,rfl⟩:=r2;exact SeqAt.RcAt.bool_str b1 b2 t2
   |tup es=>
    unfold aM at h2;obtain⟨a2,xs2,rfl,b_,fj⟩:=h2;cases r2;obtain⟨its2,rv2,p2,ke⟩:=I.tuple b_;exact SeqAt.RcAt.bool_tuple b1 p2 du
   |lst es=>
    unfold aM at h2;obtain⟨a2,xs2,rfl,b_,fj⟩:=h2;cases r2;obtain⟨its2,rv2,p2,ke⟩:=I.list b_;exact SeqAt.RcAt.bool_list b1 p2.isList du
  |int b1=>
   unfold aM at h1;subst h1;obtain⟨t1,rfl⟩:=r1;cases d2 with
   |non=>
    unfold aM at h2;subst h2;cases r2;exact SeqAt.RcAt.int_none b1 t1
   |bl b2=>
    unfold aM at h2;subst h2;cases r2;exact SeqAt.RcAt.int_bool b1 t1 b2
   |int b2=>
    unfold aM at h2;subst h2;obtain⟨t2,rfl⟩:=r2;exact SeqAt.RcAt.int_int b1 t1 b2 t2
   |str b2=>
    unfold aM at h2;subst h2;obtain⟨t2,rfl⟩:=r2;exact SeqAt.RcAt.int_str b1 t1 b2 t2
   |tup es=>
    unfold aM at h2;obtain⟨a2,xs2,rfl,b_,fj⟩:=h2;cases r2;obtain⟨its2,rv2,p2,ke⟩:=I.tuple b_;exact SeqAt.RcAt.int_tuple b1 t1 p2 du
   |lst es=>
    unfold aM at h2;obtain⟨a2,xs2,rfl,b_,fj⟩:=h2;cases r2;obtain⟨its2,rv2,p2,ke⟩:=I.list b_;exact SeqAt.RcAt.int_list b1 t1 p2.isList du
  |str b1=>
   unfold aM at h1;subst h1;obtain⟨t1,rfl⟩:=r1;cases d2 with
   |non=>
    unfold aM at h2;subst h2;cases r2;exact SeqAt.RcAt.str_none b1 t1
   |bl b2=>
    unfold aM at h2;subst h2;cases r2;exact SeqAt.RcAt.str_bool b1 t1 b2
   |int b2=>
    unfold aM at h2;subst h2;obtain⟨t2,rfl⟩:=r2;exact SeqAt.RcAt.str_int b1 t1 b2 t2
   |str b2=>
    unfold aM at h2;subst h2;obtain⟨t2,rfl⟩:=r2;exact SeqAt.RcAt.str_str b1 t1 b2 t2
   |tup es=>
    unfold aM at h2;obtain⟨a2,xs2,rfl,b_,fj⟩:=h2;cases r2;obtain⟨its2,rv2,p2,ke⟩:=I.tuple b_;exact SeqAt.RcAt.str_tuple b1 t1 p2 du
   |lst es=>
    unfold aM at h2;obtain⟨a2,xs2,rfl,b_,fj⟩:=h2;cases r2;obtain⟨its2,rv2,p2,ke⟩:=I.list b_;exact SeqAt.RcAt.str_list b1 t1 p2.isList du
  |tup ds=>
   unfold aM at h1;obtain⟨a1,xs1,rfl,mj,hr1⟩:=h1;cases r1;obtain⟨its1,rv1,p1,hz1⟩:=I.tuple mj;cases d2 with
   |non=>
    unfold aM at h2;subst h2;cases r2;exact SeqAt.RcAt.tuple_none p1 du
   |bl b2=>
    unfold aM at h2;subst h2;cases r2;exact SeqAt.RcAt.tuple_bool b2 p1 du
   |int b2=>
    unfold aM at h2;subst h2;obtain⟨t2,rfl⟩:=r2;exact SeqAt.RcAt.tuple_int b2 t2 p1 du
   |str b2=>
    unfold aM at h2;subst h2;obtain⟨t2,rfl⟩:=r2;exact SeqAt.RcAt.tuple_str b2 t2 p1 du
   |tup es=>
    unfold aM at h2;obtain⟨a2,xs2,rfl,b_,fj⟩:=h2;cases r2;obtain⟨its2,rv2,p2,ke⟩:=I.tuple b_;have l1:its1.toArray.size=ds.length:=by rw[WJ,←rv1.length,hr1.length]
    have l2:its2.toArray.size=es.length:=by rw[WJ,←rv2.length,fj.length]
    have k1:xs1.length=ds.length:=hr1.length.symm;have k2:xs2.length=es.length:=fj.length.symm;have he:∀j (h1:j<its1.toArray.size) (h2:j<its2.toArray.size),aaD A.in1 s its1.toArray[j] its2.toArray[j] (dh ds es j):=λj g1 g2=>by
     have q1:ds[j]? = some ds[j]:=Wx (by lia);have q2:es[j]? = some es[j]:=Wx (by lia);have e1:xs1[j]? = some xs1[j]:=Wx (by lia);have e2:xs2[j]? = some xs2[j]:=Wx (by lia);obtain⟨u1,z1,w1⟩:=rv1.get e1;obtain⟨u2,z2,w2⟩:=rv2.get e2;have y1:its1.toArray[j]=u1:=by
      obtain⟨_,q⟩:=WE.mp z1;simpa using q
     have y2:its2.toArray[j]=u2:=by
      obtain⟨_,q⟩:=WE.mp z2;simpa using q
     rw[y1,y2];have:dh ds es j=mm ds[j] es[j]:=by unfold dh;rw[q1,q2]
     rw[this];have dl:=fA q1;unfold dg at hd;exact vq I (n-1) ds[j] es[j] xs1[j] xs2[j] u1 u2 A.in1 (by lia) (by show A.units+1+(n-1)<YH;lia) (hr1.get q1 e1) (fj.get q2 e2) w1 w2
    have q:=acr (A:=A) p1 p2 du he;rw[l1,l2,fU] at q;unfold mm;exact q
   |lst es=>
    unfold aM at h2;obtain⟨a2,xs2,rfl,b_,fj⟩:=h2;cases r2;obtain⟨its2,rv2,p2,ke⟩:=I.list b_;exact SeqAt.RcAt.tuple_list p1 p2.isList du
  |lst ds=>
   unfold aM at h1;obtain⟨a1,xs1,rfl,mj,hr1⟩:=h1;cases r1;obtain⟨its1,rv1,p1,hz1⟩:=I.list mj;cases d2 with
   |non=>
    unfold aM at h2;subst h2;cases r2;exact SeqAt.RcAt.list_none p1.isList du
   |bl b2=>
    unfold aM at h2;subst h2;cases r2;exact SeqAt.RcAt.list_bool b2 p1.isList du
   |int b2=>
    unfold aM at h2;subst h2;obtain⟨t2,rfl⟩:=r2;exact SeqAt.RcAt.list_int b2 t2 p1.isList du
   |str b2=>
    unfold aM at h2;subst h2;obtain⟨t2,rfl⟩:=r2;exact SeqAt.RcAt.list_str b2 t2 p1.isList du
   |tup es=>
    unfold aM at h2;obtain⟨a2,xs2,rfl,b_,fj⟩:=h2;cases r2;obtain⟨its2,rv2,p2,ke⟩:=I.tuple b_;exact SeqAt.RcAt.list_tuple p1.isList p2 du
   |lst es=>
    unfold aM at h2;obtain⟨a2,xs2,rfl,b_,fj⟩:=h2;cases r2;obtain⟨its2,rv2,p2,ke⟩:=I.list b_;have l1:its1.toArray.size=ds.length:=by rw[WJ,←rv1.length,hr1.length]
    have l2:its2.toArray.size=es.length:=by rw[WJ,←rv2.length,fj.length]
    have k1:xs1.length=ds.length:=hr1.length.symm;have k2:xs2.length=es.length:=fj.length.symm;have he:∀j (h1:j<its1.toArray.size) (h2:j<its2.toArray.size),aaD A.in1 s its1.toArray[j] its2.toArray[j] (dh ds es j):=λj g1 g2=>by
     have q1:ds[j]? = some ds[j]:=Wx (by lia);have q2:es[j]? = some es[j]:=Wx (by lia);have e1:xs1[j]? = some xs1[j]:=Wx (by lia);have e2:xs2[j]? = some xs2[j]:=Wx (by lia);obtain⟨u1,z1,w1⟩:=rv1.get e1;obtain⟨u2,z2,w2⟩:=rv2.get e2;have y1:its1.toArray[j]=u1:=by
      obtain⟨_,q⟩:=WE.mp z1;simpa using q
     have y2:its2.toArray[j]=u2:=by
      obtain⟨_,q⟩:=WE.mp z2;simpa using q
     rw[y1,y2];have:dh ds es j=mm ds[j] es[j]:=by unfold dh;rw[q1,q2]
     rw[this];have dl:=fA q1;unfold dg at hd;exact vq I (n-1) ds[j] es[j] xs1[j] xs2[j] u1 u2 A.in1 (by lia) (by show A.units+1+(n-1)<YH;lia) (hr1.get q1 e1) (fj.get q2 e2) w1 w2
    unfold mm;by_cases hl:ds.length=es.length
    ·have q:=SeqAt.RcAt.lists (A:=A) p1.isList p2.isList (by rw[l1,l2,hl]) du he;rw[l1] at q;have z:=fU ds es;rw[hl,ab5,beq_self_eq_true,Bool.and_true] at z;rw[hl,z] at q;exact q
    ·rw[qP hl];exact acs (A:=A) p1.isList p2.isList (by rw[l1,l2];simpa using hl) du
theorem Eh (I:az X pins σ H s)(n:Nat)(d1 d2:D)(x y:V)(u v:WG)(A:XD)(hd:dg d1<=n)(hu:A.units+n<YH)(h1:aM X.K H d1 x)(h2:aM X.K H d2 y)(r1:aO x u)(r2:aO y v):SeqAt.RcNeAt A s u v (!mm d1 d2):=by
  have du:A.units<YH:=by lia
  cases d1 with
  |non=>
   unfold aM at h1;subst h1;cases r1;cases d2 with
   |non=>
    unfold aM at h2;subst h2;cases r2;exact SeqAt.RcNeAt.none_none
   |bl b2=>
    unfold aM at h2;subst h2;cases r2;exact SeqAt.RcNeAt.none_bool b2
   |int b2=>
    unfold aM at h2;subst h2;obtain⟨t2,rfl⟩:=r2;exact SeqAt.RcNeAt.none_int b2 t2
   |str b2=>
    unfold aM at h2;subst h2;obtain⟨t2,rfl⟩:=r2;exact SeqAt.RcNeAt.none_str b2 t2
   |tup es=>
    unfold aM at h2;obtain⟨a2,xs2,rfl,b_,fj⟩:=h2;cases r2;obtain⟨its2,rv2,p2,ke⟩:=I.tuple b_;exact SeqAt.RcNeAt.none_tuple p2 du
   |lst es=>
    unfold aM at h2;obtain⟨a2,xs2,rfl,b_,fj⟩:=h2;cases r2;obtain⟨its2,rv2,p2,ke⟩:=I.list b_;exact SeqAt.RcNeAt.none_list p2.isList du
  |bl b1=>
   unfold aM at h1;subst h1;cases r1;cases d2 with
   |non=>
    unfold aM at h2;subst h2;cases r2;exact SeqAt.RcNeAt.bool_none b1
   |bl b2=>
    unfold aM at h2;subst h2;cases r2;exact SeqAt.RcNeAt.bool_bool b1 b2
   |int b2=>
    unfold aM at h2;subst h2;obtain⟨t2,rfl⟩:=r2;exact SeqAt.RcNeAt.bool_int b1 b2 t2
   |str b2=>
    unfold aM at h2;subst h2;obtain⟨t2,rfl⟩:=r2;exact SeqAt.RcNeAt.bool_str b1 b2 t2
   |tup es=>
    unfold aM at h2;obtain⟨a2,xs2,rfl,b_,fj⟩:=h2;cases r2;obtain⟨its2,rv2,p2,ke⟩:=I.tuple b_;exact SeqAt.RcNeAt.bool_tuple b1 p2 du
   |lst es=>
    unfold aM at h2;obtain⟨a2,xs2,rfl,b_,fj⟩:=h2;cases r2;obtain⟨its2,rv2,p2,ke⟩:=I.list b_;exact SeqAt.RcNeAt.bool_list b1 p2.isList du
  |int b1=>
   unfold aM at h1;subst h1;obtain⟨t1,rfl⟩:=r1;cases d2 with
   |non=>
    unfold aM at h2;subst h2;cases r2;exact SeqAt.RcNeAt.int_none b1 t1
   |bl b2=>
    unfold aM at h2;subst h2;cases r2;exact SeqAt.RcNeAt.int_bool b1 t1 b2
   |int b2=>
    unfold aM at h2;subst h2;obtain⟨t2,rfl⟩:=r2;exact SeqAt.RcNeAt.int_int b1 t1 b2 t2
   |str b2=>
    unfold aM at h2;subst h2;obtain⟨t2,rfl⟩:=r2;exact SeqAt.RcNeAt.int_str b1 t1 b2 t2
   |tup es=>
    unfold aM at h2;obtain⟨a2,xs2,rfl,b_,fj⟩:=h2;cases r2;obtain⟨its2,rv2,p2,ke⟩:=I.tuple b_;exact SeqAt.RcNeAt.int_tuple b1 t1 p2 du
   |lst es=>
    unfold aM at h2;obtain⟨a2,xs2,rfl,b_,fj⟩:=h2;cases r2;obtain⟨its2,rv2,p2,ke⟩:=I.list b_;exact SeqAt.RcNeAt.int_list b1 t1 p2.isList du
  |str b1=>
   unfold aM at h1;subst h1;obtain⟨t1,rfl⟩:=r1;cases d2 with
   |non=>
    unfold aM at h2;subst h2;cases r2;exact SeqAt.RcNeAt.str_none b1 t1
   |bl b2=>
    unfold aM at h2;subst h2;cases r2;exact SeqAt.RcNeAt.str_bool b1 t1 b2
   |int b2=>
    unfold aM at h2;subst h2;obtain⟨t2,rfl⟩:=r2;exact SeqAt.RcNeAt.str_int b1 t1 b2 t2
   |str b2=>
    unfold aM at h2;subst h2;obtain⟨t2,rfl⟩:=r2;exact SeqAt.RcNeAt.str_str b1 t1 b2 t2
   |tup es=>
    unfold aM at h2;obtain⟨a2,xs2,rfl,b_,fj⟩:=h2;cases r2;obtain⟨its2,rv2,p2,ke⟩:=I.tuple b_;exact SeqAt.RcNeAt.str_tuple b1 t1 p2 du
   |lst es=>
    unfold aM at h2;obtain⟨a2,xs2,rfl,b_,fj⟩:=h2;cases r2;obtain⟨its2,rv2,p2,ke⟩:=I.list b_;exact SeqAt.RcNeAt.str_list b1 t1 p2.isList du
  |tup ds=>
   unfold aM at h1;obtain⟨a1,xs1,rfl,mj,hr1⟩:=h1;cases r1;obtain⟨its1,rv1,p1,hz1⟩:=I.tuple mj;cases d2 with
   |non=>
    unfold aM at h2;subst h2;cases r2;exact SeqAt.RcNeAt.tuple_none p1 du
   |bl b2=>
    unfold aM at h2;subst h2;cases r2;exact SeqAt.RcNeAt.tuple_bool b2 p1 du
   |int b2=>
    unfold aM at h2;subst h2;obtain⟨t2,rfl⟩:=r2;exact SeqAt.RcNeAt.tuple_int b2 t2 p1 du
   |str b2=>
    unfold aM at h2;subst h2;obtain⟨t2,rfl⟩:=r2;exact SeqAt.RcNeAt.tuple_str b2 t2 p1 du
   |tup es=>
    unfold aM at h2;obtain⟨a2,xs2,rfl,b_,fj⟩:=h2;cases r2;obtain⟨its2,rv2,p2,ke⟩:=I.tuple b_;have l1:its1.toArray.size=ds.length:=by rw[WJ,←rv1.length,hr1.length]
    have l2:its2.toArray.size=es.length:=by rw[WJ,←rv2.length,fj.length]
    have k1:xs1.length=ds.length:=hr1.length.symm;have k2:xs2.length=es.length:=fj.length.symm;have he:∀j (h1:j<its1.toArray.size) (h2:j<its2.toArray.size),aaD A.in1 s its1.toArray[j] its2.toArray[j] (dh ds es j):=λj g1 g2=>by
     have q1:ds[j]? = some ds[j]:=Wx (by lia);have q2:es[j]? = some es[j]:=Wx (by lia);have e1:xs1[j]? = some xs1[j]:=Wx (by lia);have e2:xs2[j]? = some xs2[j]:=Wx (by lia);obtain⟨u1,z1,w1⟩:=rv1.get e1;obtain⟨u2,z2,w2⟩:=rv2.get e2;have y1:its1.toArray[j]=u1:=by
      obtain⟨_,q⟩:=WE.mp z1;simpa using q
     have y2:its2.toArray[j]=u2:=by
      obtain⟨_,q⟩:=WE.mp z2;simpa using q
     rw[y1,y2];have:dh ds es j=mm ds[j] es[j]:=by unfold dh;rw[q1,q2]
     rw[this];have dl:=fA q1;unfold dg at hd;exact vq I (n-1) ds[j] es[j] xs1[j] xs2[j] u1 u2 A.in1 (by lia) (by show A.units+1+(n-1)<YH;lia) (hr1.get q1 e1) (fj.get q2 e2) w1 w2
    have q:=SeqAt.RcNeAt.tuples (A:=A) p1 p2 du he;rw[l1,l2,fU] at q;unfold mm;exact q
   |lst es=>
    unfold aM at h2;obtain⟨a2,xs2,rfl,b_,fj⟩:=h2;cases r2;obtain⟨its2,rv2,p2,ke⟩:=I.list b_;exact SeqAt.RcNeAt.tuple_list p1 p2.isList du
  |lst ds=>
   unfold aM at h1;obtain⟨a1,xs1,rfl,mj,hr1⟩:=h1;cases r1;obtain⟨its1,rv1,p1,hz1⟩:=I.list mj;cases d2 with
   |non=>
    unfold aM at h2;subst h2;cases r2;exact SeqAt.RcNeAt.list_none p1.isList du
   |bl b2=>
    unfold aM at h2;subst h2;cases r2;exact SeqAt.RcNeAt.list_bool b2 p1.isList du
   |int b2=>
    unfold aM at h2;subst h2;obtain⟨t2,rfl⟩:=r2;exact SeqAt.RcNeAt.list_int b2 t2 p1.isList du
   |str b2=>
    unfold aM at h2;subst h2;obtain⟨t2,rfl⟩:=r2;exact SeqAt.RcNeAt.list_str b2 t2 p1.isList du
   |tup es=>
    unfold aM at h2;obtain⟨a2,xs2,rfl,b_,fj⟩:=h2;cases r2;obtain⟨its2,rv2,p2,ke⟩:=I.tuple b_;exact SeqAt.RcNeAt.list_tuple p1.isList p2 du
   |lst es=>
    unfold aM at h2;obtain⟨a2,xs2,rfl,b_,fj⟩:=h2;cases r2;obtain⟨its2,rv2,p2,ke⟩:=I.list b_;have l1:its1.toArray.size=ds.length:=by rw[WJ,←rv1.length,hr1.length]
    have l2:its2.toArray.size=es.length:=by rw[WJ,←rv2.length,fj.length]
    have k1:xs1.length=ds.length:=hr1.length.symm;have k2:xs2.length=es.length:=fj.length.symm;have he:∀j (h1:j<its1.toArray.size) (h2:j<its2.toArray.size),aaD A.in1 s its1.toArray[j] its2.toArray[j] (dh ds es j):=λj g1 g2=>by
     have q1:ds[j]? = some ds[j]:=Wx (by lia);have q2:es[j]? = some es[j]:=Wx (by lia);have e1:xs1[j]? = some xs1[j]:=Wx (by lia);have e2:xs2[j]? = some xs2[j]:=Wx (by lia);obtain⟨u1,z1,w1⟩:=rv1.get e1;obtain⟨u2,z2,w2⟩:=rv2.get e2;have y1:its1.toArray[j]=u1:=by
      obtain⟨_,q⟩:=WE.mp z1;simpa using q
     have y2:its2.toArray[j]=u2:=by
      obtain⟨_,q⟩:=WE.mp z2;simpa using q
     rw[y1,y2];have:dh ds es j=mm ds[j] es[j]:=by unfold dh;rw[q1,q2]
     rw[this];have dl:=fA q1;unfold dg at hd;exact vq I (n-1) ds[j] es[j] xs1[j] xs2[j] u1 u2 A.in1 (by lia) (by show A.units+1+(n-1)<YH;lia) (hr1.get q1 e1) (fj.get q2 e2) w1 w2
    unfold mm;by_cases hl:ds.length=es.length
    ·have q:=SeqAt.RcNeAt.lists (A:=A) p1.isList p2.isList (by rw[l1,l2,hl]) du he;rw[l1] at q;have z:=fU ds es;rw[hl,ab5,beq_self_eq_true,Bool.and_true] at z;rw[hl,z] at q;exact q
    ·rw[qP hl];exact SeqAt.RcNeAt.lists_lengths (A:=A) p1.isList p2.isList (by rw[l1,l2];simpa using hl) du
def L4 (K:WD)(f:Bool->Bool):R2:=λx y H Q=>∃d1 d2,aM K H d1 x/\aM K H d2 y/\dg d1<=30/\Q (.bl (f (mm d1 d2))) H
theorem R7 (hu:X.A.units+64<YH):lL X (Zc .Eq) (L4 X.K id):=by
 intro pins s σ H x y v u Q I rx ry h;obtain⟨d1,d2,h1,h2,hd,q⟩:=h;exact L3 I 30 d1 d2 x y v u X.A hd (by lia) h1 h2 rx ry X.prog X.w X.xe _ ⟨.bl _,H,I,rfl,q⟩
theorem Ei (hu:X.A.units+64<YH):lL X (Zc .NotEq) (L4 X.K not):=by
 intro pins s σ H x y v u Q I rx ry h;obtain⟨d1,d2,h1,h2,hd,q⟩:=h;exact Eh I 30 d1 d2 x y v u X.A hd (by lia) h1 h2 rx ry X.prog X.w X.xe _ ⟨.bl _,H,I,rfl,q⟩
end L2
namespace L2
noncomputable def iK (n m:String):Bool:=(n==m)||(n=="bool"&&m=="int")
theorem OY (K:WD){n m:String}(hn:n∈["NoneType","bool","int","str","list","tuple","dict"])(hm:m∈["bool","int","str","list","tuple","dict"]) :
  PySem.W.kitOne K (.type n) (.type m)=some (iK n m):=by
 simp only[WZ,Y1,or_false] at hn hm;rcases hn with rfl|rfl|rfl|rfl|rfl|rfl|rfl<;>rcases hm with rfl|rfl|rfl|rfl|rfl|rfl<;>kernel_rfl
inductive yY (K:WD)(H:Hp):V->String->Prop where
 |non:yY K H .non "NoneType"
 |bl (x:Bool):yY K H (.bl x) "bool"
 |int (i:Int):yY K H (.int i) "int"
 |str (x:Str):yY K H (.str x) "str"
 |lst {a:W8} {xs:List V} (e:H a=some (.lst xs)):yY K H (.ref a) "list"
 |frz {a:W8} {o:Obj} {xs:List V} (e:H a=some (.frz o (.lst xs))):yY K H (.ref a) "list"
 |tup {a:W8} {xs:List V} (e:H a=some (.tup xs)):yY K H (.ref a) "tuple"
 |dK {a:W8} {aL:List (Key×V)} (e:H a=some (.dK aL)):yY K H (.ref a) "dict"
 |dT {a:W8} {aL:List (List Key×V)} (e:H a=some (.dT aL)):yY K H (.ref a) "dict"
theorem yY.mem {x:V}{n:String}(h:yY K H x n):n∈["NoneType","bool","int","str","list","tuple","dict"]:=by
 cases h<;>simp
theorem yY.ty {x:V}{n:String}(h:yY K H x n):nH K H x (.type n):=by
 cases h with
 |non=>exact .non
 |bl=>exact .bl _
 |int=>exact .int _
 |str=>exact .str _
 |lst e=>exact .lst e
 |frz e=>exact .frz e
 |tup e=>exact .tup e
 |dK e=>exact .dK e
 |dT e=>exact .dT e
theorem xq {m:String}(hm:m∈["bool","int","str","list","tuple","dict"]):eE X (.builtin "isinstance") (λxs H Q=>∃x n,xs=[x,.ty m]/\yY X.K H x n/\Q (.bl (iK n m)) H):=by
 intro pins s σ H xs us Q I r h;obtain⟨x,n,rfl,ty,q⟩:=h;obtain⟨u,w',rfl,rx,rt⟩:=D4 r;cases rt;exact Ct I rx ty.ty (OY X.K ty.mem hm) λtk=>⟨.bl _,H,I.tok tk,rfl,q⟩
theorem oE:eE X (.type "range") (λxs H Q=>∃j,xs=[.int j]/\∀p,H p=none->Q (.ref p) (cD H p (.rng 0 j))):=by
 intro pins s σ H xs us Q I r h;obtain⟨j,rfl,q⟩:=h;obtain⟨u,rfl,rx⟩:=jf r;obtain⟨t,rfl⟩:=rx;refine call_range_1 ⟨.ref s.heap.objs.size,cD H s.heap.objs.size (.rng 0 j),I.laid (λb u e=>Wz _ e) (WK _) ?_,rfl,q _ (I.hok.fresh (WK _))⟩;exact⟨_,_,_,WL _ rfl⟩
theorem qR {a:Int}{bq:Array WG}(h:ItemsOf (λi v=>∃t,v=Value.int (a+i*1) t) bq n):aW ((WY n).map λi=>V.int (a+(i:Nat))) bq.toList:=by
 obtain⟨hs,hi⟩:=h;have gen:∀(l:List WG) (k:Nat),(∀(i:Nat) v,l[i]? = some v->∃t,v=Value.int (a+((k+i:Nat):Int)*1) t)->aW ((List.range' k l.length).map λi=>V.int (a+(i:Nat))) l:=by
  intro l
  induction l with
  |nil=>intro k _;exact .nil
  |cons v r ih=>
   intro k hk;rw[WS,List.range'_succ,WB];refine .cons ?_ (ih (k+1) λi v e=>?_)
   ·obtain⟨t,e⟩:=hk 0 v rfl;exact⟨t,by rw[e];simp⟩
   ·obtain⟨t,e'⟩:=hk (i+1) v (by simpa using e);refine⟨t,?_⟩;rw[e',show k+(i+1)=k+1+i by lia]
 have q:=gen bq.toList 0 (λi v e=>by
  obtain⟨t,e'⟩:=hi i v (by simpa using e);exact⟨t,by rw[e',Zj]⟩)
 rw[WH,hs] at q;rw[List.range_eq_range'];exact q
theorem tG (hc:X.calm=true):eE X (.type "list") (λxs H Q=>∃p lo hi,xs=[.ref p]/\H p=some (.rng lo hi)/\(-(2 ^ 62)<=lo/\lo<2 ^ 62/\ -(2 ^ 62)<=hi/\hi<2 ^ 62)/\(hi-lo).toNat<=2 ^ 20/\
  ∀l,H l=none->Q (.ref l) (cD H l (.lst ((WY (hi-lo).toNat).map λi=>V.int (lo+(i:Nat)))))):=by
 intro pins s σ H xs us Q I r h;obtain⟨p,lo,hi,rfl,hp,⟨h1,h2,h3,h4⟩,hz,q⟩:=h;obtain⟨u,rfl,rx⟩:=jf r;cases rx;obtain⟨t,u,v,e⟩:=I.hok p _ hp;refine call_list_range (n:=(hi-lo).toNat) (I.ok.hd hc) (c:=1) (show IsRange s.heap p lo hi 1 t u v from e) (small_one h1 h2 h3 h4) (by rw[rangeSize_one];split<;>lia) (by lia) λh' tk NI c' hk NJ p9=>?_;have hl:((WY (hi-lo).toNat).map λi=>V.int (lo+(i:Nat))).length<=WC:=by
  rw[Ww,Xf,YA];lia
 refine⟨.ref s.heap.objs.size,_,I.laid hk (WK _) (show bO X.prog X.w _ _ _ (.lst _) from ⟨hl,NI.toList,c',qR p9,by simpa using NJ⟩),rfl,q _ (I.hok.fresh (WK _))⟩
def Ej (i j:Int):Prop:=0<j/\j<18446744073709551616
theorem zj (h:n<18446744073709551616):n.log2<9000:=by
 by_cases h0:n=0
 ·subst h0;decide
 ·have:=(Nat.log2_lt h0 (k:=64)).mpr (by lia);lia
theorem dD:lL X (aar .FloorDiv) (rI Ej λi j=>.int (i / j)):=Q3 λi j _ _ _ _ _ hc q=>by
 refine floordiv_int (by have:=hc.1;lia) ?_ (.inl (PyProof.noPylong_of_log2 (zj (by have:=hc.1;have:=hc.2;lia))));rw[Int.fdiv_eq_ediv_of_nonneg _ (by have:=hc.1;lia)];exact q
theorem AJ:XM "list"=some (.type "list"):=by decide+kernel
theorem bG:XM "tuple"=some (.type "tuple"):=by decide+kernel
theorem L5:XM "int"=some (.type "int"):=by decide+kernel
theorem xr:XM "range"=some (.type "range"):=by decide+kernel
theorem jE:XM "len"=some (.builtin "len"):=by decide+kernel
theorem L6:XM "max"=some (.builtin "max"):=by decide+kernel
theorem Ek:XM "min"=some (.builtin "min"):=by decide+kernel
theorem vt:XM "abs"=some (.builtin "abs"):=by decide+kernel
theorem tH:XM "isinstance"=some (.builtin "isinstance"):=by decide+kernel
theorem uB:XM "sorted"=some (.builtin "sorted"):=by decide+kernel
end L2
namespace HT
open L2
section
variable {A:XD}
theorem getItem_tuple_whole {t sl:W8}{items:Array WG}{vl vu:WG}{lo:Option Int}(ht:IsTup s.heap t items)(hs:s.heap.IsSliceOf sl vl vu .none)(pl:IsPart vl lo)(pu:IsPart vu hi)(hw:sIx items.size 0 lo=0/\sIx items.size items.size hi=items.size)(h:Q (.ref t) s):WX (Xg prog w) A (abH (.ref t) (.ref sl)) Q E s:=by
 obtain⟨os,Hv,hcs,hds⟩:=id hs;have SY:s.TypeIs (.ref sl) "slice":=⟨os,Hv,hcs⟩;unfold abH
 try with_reducible refine X0 ?_
 first|refine Wv (Wy ?_)|skip
 refine Wv (wpAny_sequenceKey ht.typeIs (by decide) ?_);refine Wv (Xy (name:=Yw "__getitem__") ht.typeIs YS
  (Xn YS ht.typeIs entry_tuple_getitem ?_ (args_tuple_getitem _ _)))
 show WX _ _ (aag (.ref t) >>= _) _ _ s;refine Wv (tupleItemsOf_ ht ?_);refine Wv (abk SY ?_);rw[hZ (by decide)];refine Wv (jg hs pl pu ?_);obtain⟨w1,w2⟩:=hw;rw[w1,w2];show WX _ _ (if (((0:Nat):Int)==0&&(1:Int)==1&&(items.size-0)==items.size)=true then _ else _) _ _ s;rw[hZ (by simp)];have Hn:WX (Xg prog w) A.in1 (abV (.ref t)) (λb s'=>b=true/\s'=s) E s:=by
  unfold abV;exact Wv (abk ht.typeIs (Wy ⟨by decide,rfl⟩))
 refine Wv (XQ Hn (λb s' hb=>?_) λ_ _ e=>e);obtain⟨rfl,rfl⟩:=hb;rw[hZ rfl];exact Wv (Zz (Wy ⟨_,rfl,Wy h⟩))
end
end HT
namespace L2
theorem qS (h:H p=none)(o:HO):aG H (cD H p o):=λb u q=>by rw[aS (bK q h)];exact q
section
open AutoSeq1 (wpAny_loadPart')
theorem lr {A:XD}{Q:List WG->WT->Prop}{r:W8}{a b c:Int}{t u v:Tok}(hh:A.handled=none)(hr:IsRange s.heap r a b c t u v)(Ax:Builtin.Range.small a b c=true)(hn:aaJ a b c=n)(c7:n<=2 ^ 24)(hQ:∀h' tk (bq:Array WG),(∀b o',s.heap.get? b=some o'->h'.get? b=some o')->ItemsOf (λi v=>∃t,v=.int (a+i*c) t) bq n->Q bq.toList {s with heap:=h',toks:=tk}) :
  WX (Xg prog w) A (collect (.ref r)) Q E s:=by
 unfold collect;refine Wv (wpAny_runValue (Ze F.entry_proto_collect ?_));rw[YG F.plain_proto_collect _];show WX _ A.in1 (newList [] >>= λl=>again (.builtin "list.__iadd__" ⟨[l,.ref r],[]⟩)) _ _ s;refine Wv (Xi ?_);refine Wy ⟨plainId_quiet F.plain_list_iadd _,Ze F.entry_list_iadd ?_⟩;rw[YG F.plain_list_iadd _];have hS:(s.heap.push {cls:=.type "list",data:=.seq ([]:List WG).toArray}).get? s.heap.objs.size=some {cls:=.type "list",data:=.seq #[] 0}:=WL _ rfl;show WX _ A.in1 (abJ (.ref s.heap.objs.size) (.ref r) (.ref s.heap.objs.size)) _ _ _;refine XQ (wpAny_extend_range (A:=A) (R:=λres s'=>res=.ok (.ret (.ref s.heap.objs.size))/\WX (Xg prog w) A (load s.heap.objs.size >>= λo=>match o.data with|.seq xs _=>pure xs.toList|_=>aaw "internal:collect") Q E s')
  hh (Wz _ hr) Ax hn c7 s.heap.objs.size _ 0 hS λh' tk NI c' hk NJ p9=>⟨rfl,?_⟩) (λfin s' h=>?_) λe s' h=>absurd h.1 (by simp)
 ·refine Wv (wpAny_load NJ (Wy ?_));exact hQ h' tk NI (λb o' hb=>hk b o' (Xj (WU hb)) (Wz _ hb)) p9
 ·cases fin with
  |done f=>
   obtain⟨e,q⟩:=h;cases e;exact q
  |again c'=>exact⟨h.1,abi h.2 λr Lc hr=>by obtain⟨rfl,q⟩:=hr;exact q⟩
theorem j6 (l:W8)(a b c:Int)(t u v:Tok)(n:Nat)(Ax:Builtin.Range.small a b c=true)(hn:aaJ a b c=n)(c7:n<=2 ^ 20) :
  Meets (Builtin.«tuple.__new__» ⟨[.type "tuple",.ref l],[]⟩)
   (λA R s=>A.handled=none/\IsRange s.heap l a b c t u v/\∀(h':Zv) (tk:Nat) (bq:Array WG),(∀b o',s.heap.get? b=some o'->h'.get? b=some o')->ItemsOf (λi v=>∃t,v=.int (a+i*c) t) bq n->
    R (.ok (.ret (.ref h'.objs.size))) {s with heap:=h'.push {cls:=.type "tuple",data:=.seq bq},toks:=tk}):=
 .of_wp λprog w A R s h=>by
  obtain⟨hp,g,d,tk,os⟩:=s;obtain⟨hh,ht,h⟩:=h;have Ve:=sub_tuple_self;have Uk:=init_tuple_lookup;have Wd:=madeHere_tuple;have hT:Shared.TypeIs ⟨hp,g,d,tk,os⟩ (.ref l) "range":=⟨_,ht,rfl⟩;wp_walk using abk hT,lr (A:=A.in1) hh ht Ax hn (by lia);intro h' Ta bq hk p9;show WX _ _ (Yx bq.toList.toArray >>= λv=>ret v) _ _ _;unfold Yx;refine Wv (Xi ?_ (by show bq.toList.toArray.size<=WC;rw[YA];simp;have:=p9.1;lia));refine Wy ⟨_,rfl,?_⟩;have e:bq.toList.toArray=bq:=by simp
  rw[e];exact h h' Ta bq hk p9
theorem qT (hc:X.calm=true):eE X (.type "tuple") (λxs H Q=>∃p lo hi,xs=[.ref p]/\H p=some (.rng lo hi)/\(-(2 ^ 62)<=lo/\lo<2 ^ 62/\ -(2 ^ 62)<=hi/\hi<2 ^ 62)/\(hi-lo).toNat<=2 ^ 20/\
  ∀l,H l=none->Q (.ref l) (cD H l (.tup ((WY (hi-lo).toNat).map λi=>V.int (lo+(i:Nat)))))):=by
 intro pins s σ H xs us Q I r h;obtain⟨p,lo,hi,rfl,hp,⟨h1,h2,h3,h4⟩,hz,q⟩:=h;obtain⟨u,rfl,rx⟩:=jf r;cases rx;obtain⟨t,u,v,e⟩:=I.hok p _ hp;refine callType_new F.called_tuple (by decide) (F.typeCall_tuple_1 _) (F.newCall_tuple_1 _) (λobj=>F.args_object_init_2 obj _) F.entry_tuple_new
  (j6 p lo hi 1 t u v (hi-lo).toNat (small_one h1 h2 h3 h4) (by rw[rangeSize_one];split<;>lia) hz) ⟨I.ok.hd hc,e,λh' tk bq hk p9=>⟨⟨_,WL _ rfl,rfl⟩,?_⟩⟩
 have hl:((WY (hi-lo).toNat).map λi=>V.int (lo+(i:Nat))).length<=WC:=by
  rw[Ww,Xf,YA];lia
 have I1:az X pins σ H {s with heap:=h',toks:=tk}:=I.kept hk;refine⟨.ref h'.objs.size,_,I1.laid (t':=tk) (λb o e=>Wz _ e) (WK _) (show bO X.prog X.w _ _ _ (.tup _) from ⟨hl,bq.toList,qR p9,by simpa using IsTup.new h' bq,0,by simpa using WL h' rfl⟩),rfl,q _ (I1.hok.fresh (WK _))⟩
end
end L2
namespace HT
open L2
end HT
namespace L2
def xt:V->List V->Hp->VK->Prop:=λx vs H Q=>∃l b xs zs,x=.ref l/\vs=[.ref b]/\H l=some (.lst xs)/\H b=some (.tup zs)/\xs.length+zs.length<=WC/\Q .non (cD H l (.lst (xs++zs)))
theorem zk:R4 X "list.extend" xt:=by
 intro pins s σ H x vs v us Q I rx rv h;obtain⟨l,b,xs,zs,rfl,rfl,hH,hB,hz,q⟩:=h;cases rx;obtain⟨u,rfl,ru⟩:=rv.one;cases ru;obtain⟨z,au,n,r,hl,e⟩:=I.lstM hH;obtain⟨z2,its2,r2,_,n2,e2⟩:=I.hok b _ hB;have Ho:=r2.length;have hsz:au.toArray.size+its2.toArray.size<=WC:=by rw[WJ,WJ];lia
 have Ha:¬(!au.toArray.isEmpty&&ZC (au.toArray.size+its2.toArray.size))=true:=by
  rw[xj hsz,abd];exact WA
 refine call_meets F.slot_list_extend ⟨_,e,rfl⟩ F.entry_list_extend (F.args_list_extend_2 _ _)
  (AutoSeq1.list_extend_list_tuple_0 l au.toArray n b its2.toArray n2 Ha (by rw[WJ];lia) (by lia)) ⟨e,e2,?_⟩
 refine⟨.non,_,I.lset (its':=au++its2) hH e (by simp) (r.append r2) ?_,rfl,q⟩;rw[WI];lia
theorem vx:eE X (.builtin "sorted") (λxs H Q=>∃(p:W8) (ns:List Int),xs=[.ref p]/\(gc X.K H p (ns.map V.int)\/gU X.K H p (ns.map V.int))/\ns.length<64/\
  ∀(l:W8) (vh:List Int),H l=none->vh.Perm ns->vh.Pairwise (·<=·)->Q (.ref l) (cD H l (.lst (vh.map V.int)))):=by
 intro pins s σ H xs us Q I r h;obtain⟨p,ns,rfl,hq,h64,q⟩:=h;obtain⟨u,rfl,rx⟩:=jf r;cases rx;have QN:∃(T:String) (o:Obj) (au:List WG) (n:Nat),(T="list"\/T="tuple")/\s.heap.get? p=some o/\o.cls=.type T/\o.data=.seq au.toArray n/\abp au ns:=by
  rcases hq with hq|hq
  ·obtain⟨au,rv,pl,hz⟩:=I.list hq;obtain⟨o,e,c,n,d⟩:=pl.isList;exact⟨"list",o,au,n,.inl rfl,e,c,d,jD rv⟩
  ·obtain⟨au,rv,pl,hz⟩:=I.tuple hq;obtain⟨o,e,c,n,d⟩:=pl;exact⟨"tuple",o,au,n,.inr rfl,e,c,d,jD rv⟩
 obtain⟨T,o,au,n,hT,ho,hc,hd,hI⟩:=QN;have c7:au.length=ns.length:=hI.length;refine ace kind_sorted plain_sorted entry_sorted (args_sorted1 _) ?_;unfold Builtin.«sorted»;refine Wv (m:=checkCount "sorted" 1 1 _) (Wy ?_);refine Wv (acu p hT ho hc hd (λh1 k1=>?_) (by rw[WJ,YA];lia));refine Wv (wpAny_newList ?_);have NK:(h1.push (ab6 "list" au.toArray 0)).get? h1.objs.size=some (ab6 "list" au.toArray 0):=WL _ rfl;have NL:(h1.push {cls:=.type "list",data:=.seq (au.toArray.toList).toArray}).get? h1.objs.size=some (ab6 "list" au.toArray 0):=by simpa using NK
 refine Wv (X0 (Xn slot_list_sort ⟨_,NL,rfl⟩ entry_list_sort (list_sort_tree NL hI (by lia) λout vh a1 a2 a3=>⟨_,rfl,?_⟩) (args_list_sort _)));refine Wy ⟨_,rfl,?_⟩;obtain⟨e,he⟩:=sortedHeap_at (out:=out) NL;have keep:∀b o,h1.get? b=some o->(sortedHeap (h1.push {cls:=.type "list",data:=.seq (au.toArray.toList).toArray}) h1.objs.size au out).get? b=some o:=λb o e=>by
  have hb:=WU e;rw[sortedHeap_old (Xj hb) (by rw[YU];exact aab hb)];exact Wz _ e
 have I1:az X pins σ H {s with heap:=h1}:=I.kept (t':=s.toks) k1;have Ho:(vh.map V.int).length<=WC:=by rw[Ww,a2.length_eq,YA];lia
 exact⟨.ref h1.objs.size,_,I1.laid (t':=s.toks) keep (WK _) (show bO X.prog X.w _ _ _ (.lst _) from ⟨Ho,out.toList,e,nI a1,by simpa using he⟩),rfl,q _ vh (I1.hok.fresh (WK _)) a2 a3⟩
def El (K:WD):V->Option Int->Option Int->Hp->VK->Prop:=λx lo hi H Q=>∃a xs,x=.ref a/\H a=some (.tup xs)/\∀r H',aG H H'->H' r=some (.tup (qL xs lo hi))->Q (.ref r) H'
theorem Ia:D6 X (El X.K):=by
 have base:D6 X (OH X.K):=LQ;intro pins s σ H x v vl vu lo hi sl Q I rx hs pl pu h;obtain⟨a,xs,rfl,qB,q⟩:=h;have hx:gU X.K H a xs:=gU.of qB;by_cases hw:HT.sIx xs.length 0 lo=0/\HT.sIx xs.length xs.length hi=xs.length
 ·cases rx;obtain⟨au,r,ht,hz⟩:=I.tuple hx;have hl:au.toArray.size=xs.length:=by rw[WJ,r.length]
  refine⟨"tuple",_,PyProof.Rows.slot_tuple_getitem.lookup,ht.typeIs,HT.getItem_tuple_whole ht hs pl pu (by rw[hl];exact hw) ⟨.ref a,H,I,rfl,q a H (aG.refl _) ?_⟩⟩;have e:qL xs lo hi=xs:=by unfold qL;rw[hw.1,hw.2];simp
  rw[e];exact qB
 ·exact base pins s σ H _ v vl vu lo hi sl Q I rx hs pl pu ⟨a,xs,rfl,hx,hw,λp hp=>q p _ (qS hp _) bg⟩
def Em:R2:=λx y H Q=>∃a b xs ys,x=.ref a/\y=.ref b/\H a=some (.tup xs)/\H b=some (.tup ys)/\xs.length+ys.length<=WC/\∀r H',aG H H'->H' r=some (.tup (xs++ys))->Q (.ref r) H'
theorem En:lL X (aar .Add) Em:=by
 intro pins s σ H x y v u Q I rx ry h;obtain⟨a,b,xs,ys,rfl,rfl,DJ,Du,hz,q⟩:=h;have ha:gU X.K H a xs:=gU.of DJ;have hb:gU X.K H b ys:=gU.of Du;by_cases hx:xs=[]
 ·subst hx;cases rx;cases ry;obtain⟨au,r1,p1,_⟩:=I.tuple ha;obtain⟨its2,r2,p2,_⟩:=I.tuple hb;have e1:au=[]:=(aW.nil_iff r1).mpr rfl;subst e1;obtain⟨⟨cls,dd,data,sl⟩,ho,hc,n,hd⟩:=id p1;obtain⟨⟨cls2,dd2,data2,sl2⟩,ho2,hc2,n2,hd2⟩:=id p2;simp only at hc hd hc2 hd2;subst hc hd hc2 hd2;exact concat_meets ⟨_,ho,rfl⟩ ⟨_,ho2,rfl⟩ noFill_tuple_add seq_tuple_add aaY aaK (aaC _ _)
   (tuple_addW0 a b ([]:List WG).toArray its2.toArray n n2 dd dd2 sl sl2 (by simp)) ⟨ho,ho2,⟨.ref b,H,I,rfl,q b H (aG.refl _) (by simpa using Du)⟩⟩
 ·refine HW pins s σ H _ _ v u Q I rx ry ⟨a,b,xs,ys,rfl,rfl,ha,hb,hx,hz,λe=>?_,λ_ p hp=>q p _ (qS hp _) bg⟩;subst e;exact q a H (aG.refl _) (by simpa using DJ)
end L2
namespace L2
structure Fn (P:Zx)(w:ZU)(K:WD)(mg:Str->Option WG)(base:Zv)(x:Str)(k:Nat)(ps:List Str)(sp:Sp):Prop where
 ex:∃(f:W8) (fd:aby),mg x=some (.ref f)/\ZR K (.ref f)=true/\uo K fd ps []/\lq P w K mg base xk k f fd ps sp
structure Df (K:WD)(mg:Str->Option WG)(x:Str)(st:abx):Prop where
 ex:∃(f:W8) (fd:aby),mg x=some (.ref f)/\Hk K x x st f fd
section
variable {base:Zv}
theorem Df.fn (d:Df K mg x st)(S:aJ N ps (ah st))(hb:∀(kV nF pm:WG) (an:Option W8) (cN ct:WG) (us:List WG),us.length=ps.length->bindArgs (YI x x (eR st) (bX st) (ah st) .none kV nF pm an cN ct) ⟨us,[]⟩=pure (ps.zip us))(len:∀vs H Q E,sp vs H Q E->vs.length=ps.length)(iC:∀(f:W8) (cN:WG) (A:XD) (outer:List Env) (s:WT) (H:Hp) (vs:List V) (Q:VK) (E:XK),eQ k (A.deeper (ab3 x (ah st) s.heap.objs.size f cN))->sp vs H Q E->
   ∃t,uk (pJ xk P w K mg base N x (ah st) f cN A outer s H E).nox (bX st) t/\t {nx:=λ_ H'=>Q .non H',rt:=Q} (aaH N vs) H):Fn P w K mg base x (k+1) ps sp:=by
 obtain⟨f,fd,m,F⟩:=d.ex;exact⟨f,fd,m,F.kp,F.binds hb,F.ok S len (iC f)⟩
end
section
variable {p:Pos}{e:YV}{es:List YV}{t:TA}
theorem xu (F:Fn X.prog X.w X.K X.mg X.base x k ps sp)(hr:eQ k X.A)(ha:PA X (e::es) t)(hg:Gl X x:=by rfl)(Av:(x==("__debug__":Str))=false:=by decide)
  (he:W7 (e::es) X.env=(false,aaj e X.env)::W7 es X.env:=by rfl) (qC:(Zy pos (W7 es X.env)).any (·.1)=false:=by rfl) :
  PE X (.Call (.Name x p) (e::es) [] pos) (JN sp [] E0 t):=by
 obtain⟨f,fd,hm,hk,hb,G⟩:=F.ex;exact HP G hr hg hm hk hb .nil OQ ha Av he qC
end
theorem aG.seqT (e:aG H H')(h:gU K H a xs):gU K H' a xs:=by
 rcases h with (h|⟨o,h⟩)|h
 ·exact .inl (.inl (e _ _ h))
 ·exact .inl (.inr ⟨o,e _ _ h⟩)
 ·exact .inr h
mutual
theorem aG.rep {K:WD}{H H':Hp}(e:aG H H'):∀{d:D} {v:V},aM K H d v->aM K H' d v
 | .non,v,h=>by unfold aM at h ⊢;exact h
 | .bl b,v,h=>by unfold aM at h ⊢;exact h
 | .int b,v,h=>by unfold aM at h ⊢;exact h
 | .str b,v,h=>by unfold aM at h ⊢;exact h
 | .tup ds,v,h=>by
  unfold aM at h ⊢;obtain⟨a,xs,r,q,z⟩:=h;exact⟨a,xs,r,e.seqT q,aG.reps e z⟩
 | .lst ds,v,h=>by
  unfold aM at h ⊢;obtain⟨a,xs,r,q,z⟩:=h;exact⟨a,xs,r,e.seq q,aG.reps e z⟩
theorem aG.reps {K:WD}{H H':Hp}(e:aG H H'):∀{ds:List D} {vs:List V},fT K H ds vs->fT K H' ds vs
 | [],vs,h=>by unfold fT at h ⊢;exact h
 |d::ds,vs,h=>by
  unfold fT at h ⊢;obtain⟨x,r,q,p,z⟩:=h;exact⟨x,r,q,aG.rep e p,aG.reps e z⟩
end
end L2
namespace L2
inductive U where
 |non|bl (b:Bool)|int (i:Int)|str (x:Str)|tup (xs:List U)|lst (xs:List U)|dct (ks vs:List U)|scr (xs:List U)
instance:Inhabited U:=⟨.non⟩
inductive R (α:Type) where
 |ok (a:α)|exc (c:String) (u:U)|stk
noncomputable def R.bind {α β:Type}:R α->(α->R β)->R β
 | .ok a,f=>f a
 | .exc c u,_=>.exc c u
 | .stk,_=>.stk
noncomputable abbrev Ev:=List (Option U)
inductive SR where
 |nx (ρ:Ev)|rt (u:U) (ρ:Ev)|bk (ρ:Ev)|ct (ρ:Ev)|exc (c:String) (u:U)|stk
end L2
variable {us ks:List L2.U}{u s1:L2.U}{es:List (List L2.U×W8×L2.V)}{ρ:L2.Ev}{sg:L2.U->L2.Ev->L2.R L2.Ev}{x0 o5 x1 o7:Option L2.U}
namespace L2
open Sem (wp)
mutual
noncomputable def vy:U->U->Bool
 | .non,.non=>true
 | .bl a,.bl b=>decide (a=b)
 | .int a,.int b=>decide (a=b)
 | .str a,.str b=>decide (a=b)
 | .tup a,.tup b=>nM a b
 | .lst a,.lst b=>nM a b
 | .dct a b,.dct c d=>nM a c&&nM b d
 | .scr a,.scr b=>nM a b
 |_,_=>false
noncomputable def nM:List U->List U->Bool
 | [],[]=>true
 |x::xs,y::ys=>vy x y&&nM xs ys
 |_,_=>false
end
mutual
theorem Eo:∀{a b:U},vy a b=true->a=b
 | .non,b,h=>by cases b<;>first|rfl|(unfold vy at h;cases h)
 | .bl a,b,h=>by cases b<;>unfold vy at h<;>first|(cases h;done)|rw[of_decide_eq_true h]
 | .int a,b,h=>by cases b<;>unfold vy at h<;>first|(cases h;done)|rw[of_decide_eq_true h]
 | .str a,b,h=>by cases b<;>unfold vy at h<;>first|(cases h;done)|rw[of_decide_eq_true h]
 | .tup a,b,h=>by cases b<;>unfold vy at h<;>first|(cases h;done)|rw[kS h]
 | .lst a,b,h=>by cases b<;>unfold vy at h<;>first|(cases h;done)|rw[kS h]
 | .scr a,b,h=>by cases b<;>unfold vy at h<;>first|(cases h;done)|rw[kS h]
 | .dct a c,b,h=>by
  cases b<;>unfold vy at h<;>first|(cases h;done)|skip
  rw[W2] at h;rw[kS h.1,kS h.2]
theorem kS:∀{a b:List U},nM a b=true->a=b
 | [],[],_=>rfl
 | [],_::_,h=>by unfold nM at h;cases h
 |_::_,[],h=>by unfold nM at h;cases h
 |x::xs,y::ys,h=>by
  unfold nM at h;rw[W2] at h;rw[Eo h.1,kS h.2]
end
mutual
theorem xv:∀(a:U),vy a a=true
 | .non=>rfl
 | .bl a=>by unfold vy;exact hG rfl
 | .int a=>by unfold vy;exact hG rfl
 | .str a=>by unfold vy;exact hG rfl
 | .tup a=>by unfold vy;exact gX a
 | .lst a=>by unfold vy;exact gX a
 | .scr a=>by unfold vy;exact gX a
 | .dct a b=>by unfold vy;rw[gX a,gX b];rfl
theorem gX:∀(a:List U),nM a a=true
 | []=>by unfold nM;rfl
 |x::xs=>by unfold nM;rw[xv x,gX xs];rfl
end
noncomputable instance UN:DecidableEq U:=λa b=>if h:vy a b=true then .isTrue (Eo h) else .isFalse λe=>h (by rw[e];exact xv b)
mutual
def fV (h:Zv):U->WG->Prop
 | .int i,v=>∃t,v=.int i t
 | .tup us,v=>∃a items,v=.ref a/\h.IsTuple a items/\cR h us items.toList
 |_,_=>False
def cR (h:Zv):List U->List WG->Prop
 | [],vs=>vs=[]
 |u::us,vs=>∃v r,vs=v::r/\fV h u v/\cR h us r
end
mutual
noncomputable def hK:U->Int
 | .int i=>hashInt i
 | .tup us=>reduceHash (Yn (xa us))
 |_=>0
noncomputable def xa:List U->List Int
 | []=>[]
 |u::us=>hK u::xa us
end
mutual
noncomputable def JR:U->Nat
 | .tup us=>nN us+1
 |_=>1
noncomputable def nN:List U->Nat
 | []=>0
 |u::us=>JR u+nN us
end
mutual
noncomputable def yZ:U->Nat
 | .tup us=>tJ us+1
 |_=>0
noncomputable def tJ:List U->Nat
 | []=>0
 |u::us=>max (yZ u) (tJ us)
end
theorem zm {x y:Array WG}(h1:h.IsTuple a x)(h2:h.IsTuple a y):x=y:=by
 obtain⟨o,e,_,n,d⟩:=h1;obtain⟨o',e',_,n',d'⟩:=h2;rw[e] at e';cases e';rw[d] at d';cases d';rfl
mutual
theorem fV.inj {h:Zv}:∀{x y:U} {v:WG},fV h x v->fV h y v->x=y
 | .int i,y,v,h1,h2=>by
  unfold fV at h1;obtain⟨t,rfl⟩:=h1;cases y<;>unfold fV at h2<;>first|exact h2.elim|skip
  ·obtain⟨u,e⟩:=h2;cases e;rfl
  ·obtain⟨_,_,e,_⟩:=h2;cases e
 | .str i,y,v,h1,h2=>by unfold fV at h1;exact h1.elim
 | .tup us,y,v,h1,h2=>by
  unfold fV at h1;obtain⟨a,au,rfl,q,z⟩:=h1;cases y<;>unfold fV at h2<;>first|exact h2.elim|skip
  ·obtain⟨u,e⟩:=h2;cases e
  ·obtain⟨a',its',e,q',z'⟩:=h2;cases e;have:=zm q q';subst this;rw[cR.inj z z']
 | .non,y,v,h1,h2=>by unfold fV at h1;exact h1.elim
 | .bl _,y,v,h1,h2=>by unfold fV at h1;exact h1.elim
 | .lst _,y,v,h1,h2=>by unfold fV at h1;exact h1.elim
 | .dct _ _,y,v,h1,h2=>by unfold fV at h1;exact h1.elim
 | .scr _,y,v,h1,h2=>by unfold fV at h1;exact h1.elim
theorem cR.inj {h:Zv}:∀{x y:List U} {vs:List WG},cR h x vs->cR h y vs->x=y
 | [],y,vs,h1,h2=>by
  unfold cR at h1;subst h1;cases y with
  |nil=>rfl
  |cons=>unfold cR at h2;obtain⟨_,_,e,_⟩:=h2;cases e
 |u::us,y,vs,h1,h2=>by
  unfold cR at h1;obtain⟨v,r,rfl,p,q⟩:=h1;cases y with
  |nil=>unfold cR at h2;cases h2
  |cons=>
   unfold cR at h2;obtain⟨v',r',e,p',q'⟩:=h2;cases e;rw[fV.inj p p',cR.inj q q']
end
mutual
theorem fV.keep {h h':Zv}(k:∀a au,h.IsTuple a au->h'.IsTuple a au):∀{x:U} {v:WG},fV h x v->fV h' x v
 | .int i,v,h1=>by unfold fV at h1 ⊢;exact h1
 | .str i,v,h1=>by unfold fV at h1;exact h1.elim
 | .tup us,v,h1=>by
  unfold fV at h1 ⊢;obtain⟨a,au,e,q,z⟩:=h1;exact⟨a,au,e,k a au q,cR.keep k z⟩
 | .non,v,h1=>by unfold fV at h1;exact h1.elim
 | .bl _,v,h1=>by unfold fV at h1;exact h1.elim
 | .lst _,v,h1=>by unfold fV at h1;exact h1.elim
 | .dct _ _,v,h1=>by unfold fV at h1;exact h1.elim
 | .scr _,v,h1=>by unfold fV at h1;exact h1.elim
theorem cR.keep {h h':Zv}(k:∀a au,h.IsTuple a au->h'.IsTuple a au):∀{x:List U} {vs:List WG},cR h x vs->cR h' x vs
 | [],vs,h1=>by unfold cR at h1 ⊢;exact h1
 |u::us,vs,h1=>by
  unfold cR at h1 ⊢;obtain⟨v,r,e,p,q⟩:=h1;exact⟨v,r,e,fV.keep k p,cR.keep k q⟩
end
theorem cR.length {h:Zv}:∀{us:List U} {vs:List WG},cR h us vs->us.length=vs.length
 | [],vs,h1=>by unfold cR at h1;subst h1;rfl
 |u::us,vs,h1=>by
  unfold cR at h1;obtain⟨v,r,rfl,p,q⟩:=h1;rw[WS,WS,cR.length q]
theorem cR.get {h:Zv}:∀{us:List U} {vs:List WG} {i:Nat} {u:U} {v:WG},cR h us vs->us[i]? = some u->vs[i]? = some v->fV h u v
 | [],_,_,_,_,_,e,_=>by simp at e
 |w::us,_,i,u,v,h,e1,e2=>by
  unfold cR at h;obtain⟨x,r,rfl,p,q⟩:=h;cases i with
  |zero=>simp at e1 e2;subst e1 e2;exact p
  |succ i=>exact cR.get q (by simpa using e1) (by simpa using e2)
theorem mH:∀{us:List U} {i:Nat} {u:U},us[i]? = some u->yZ u<=tJ us
 | [],_,_,e=>by simp at e
 |w::us,i,u,e=>by
  unfold tJ;cases i with
  |zero=>simp at e;subst e;exact Nat.le_max_left _ _
  |succ i=>exact XG (mH (us:=us) (by simpa using e)) (Nat.le_max_right _ _)
theorem qU:∀(a b:List U),xa (a++b)=xa a++xa b
 | [],b=>by unfold xa;rfl
 |x::a,b=>by rw[aas,xa,xa,qU a b];rfl
theorem oF:∀(a b:List U),nN (a++b)=nN a+nN b
 | [],b=>by rw[YX];show _=0+_;lia
 |x::a,b=>by rw[aas,nN,nN,oF a b];lia
theorem L7:∀(n:Nat) (u:U) (v:WG) (A:XD) (E:WG->WT->Prop) (s:WT) (Q:Int->WT->Prop),yZ u<=n->A.units+n<YH->fV s.heap u v->Q (hK u) {s with toks:=s.toks+JR u} ->
  WX (Xg prog w) A (pyHash v) Q E s:=by
 intro n
 induction n with
 |zero=>
  intro u v A E s Q hd hu hk h;cases u<;>unfold fV at hk<;>first|exact hk.elim|skip
  ·obtain⟨t,rfl⟩:=hk;unfold hK JR at h;exact wpAny_pyHash_int h
  ·unfold yZ at hd;lia
 |succ n ih=>
  intro u v A E s Q hd hu hk h;cases u<;>unfold fV at hk<;>first|exact hk.elim|skip
  ·obtain⟨t,rfl⟩:=hk;unfold hK JR at h;exact wpAny_pyHash_int h
  ·rename_i us;unfold yZ at hd;obtain⟨a,items,rfl,ht,hi⟩:=hk;have hT:s.TypeIs (.ref a) "tuple":=let ⟨o,e,c,_⟩:=ht;⟨o,e,c⟩
   obtain⟨o,ho,_,nn,hdat⟩:=ht;unfold pyHash
   first|unfold pyHashByItsType|skip
   first|refine Wv (wpAny_cRoomFor_or (.inr (by lia)) ?_)|skip
   refine Wv (ZZ hT F.slot_tuple_hash.lookup ?_);show WX _ _ (if (some (Value.builtin "tuple.__hash__")==some Value.none)=true then _ else _) Q E s;rw[hV (by rw[beq_builtin_none];exact WA)];refine Wv (ZZ hT F.slot_tuple_hash.lookup ?_);show WX _ _ (callSpecialIfBoundUnlessNone? (.ref a) "__hash__" _ >>= _) Q E s;refine Wv (wpAny_callSpecialIfBoundUnlessNone?_slot hT F.slot_tuple_hash (Xn F.slot_tuple_hash hT F.entry_tuple_hash ?_ (F.args_tuple_hash_1 _)));show WX _ _ (aag (.ref a) >>= _) _ _ s;refine Wv (wpAny_tupleItemsOf ho hdat ?_);refine Wv ?_;rw[←ab7];refine wpAny_forIn_list _
    (λrest (b:Array Int) s'=>∃done left,us=done++left/\cR s.heap left rest/\b.toList=xa done/\s'={s with toks:=s.toks+nN done})
    _ ?_ ?_ _ _ ⟨[],us,rfl,hi,by unfold xa;rfl,by unfold nN;rfl⟩
   ·rintro x rest b s' ⟨done,left,rfl,hl,hb,rfl⟩;cases left with
    |nil=>unfold cR at hl;cases hl
    |cons k ks'=>
     unfold cR at hl;obtain⟨v',r',e,h1,hl'⟩:=hl;cases e;have Tb:yZ k<=n:=by
      have:=mH (us:=done++k::ks') (i:=done.length) (u:=k) (by simp);lia
     refine Wv (ih k x A.in1 E _ _ Tb (by show A.units+1+n<YH;lia) h1 ?_);have e2:xa (done++[k])=xa done++[hK k]:=by rw[qU];unfold xa xa;rfl
     have e3:nN (done++[k])=nN done+JR k:=by rw[oF];show _+(JR k+nN [])=_;unfold nN;lia
     first
      |exact Wy ⟨done++[k],ks',by simp,hl',by simp[hb,e2],by simp[e3,ZM]⟩
      |exact Wv (Wy (Wy ⟨done++[k],ks',by simp,hl',by simp[hb,e2],by simp[e3,ZM]⟩))
   ·rintro b s' ⟨done,left,rfl,hl,hb,rfl⟩;cases left with
    |cons k ks'=>unfold cR at hl;obtain⟨_,_,e,_⟩:=hl;cases e
    |nil=>
     rw[Xr] at h;show WX _ _ (retInt (Yn b.toList)) _ _ _;rw[hb];refine wpAny_ret_mkInt ?_;show WX _ _ (if (decide (-(2:Int) ^ 63<=Yn (xa done))&&decide (Yn (xa done)<2 ^ 63))=true then _ else _) Q E _;unfold hK JR reduceHash at h;by_cases hr:(decide (-(2:Int) ^ 63<=Yn (xa done))&&decide (Yn (xa done)<2 ^ 63))=true
     ·rw[hZ hr];rw[hZ hr] at h;exact Wy (by simpa [ZM] using h)
     ·rw[hV hr];rw[hV hr] at h;exact Wv (Zz (Wy (by simpa [ZM] using h)))
theorem R8:∀(n:Nat) (x y:U) (u v:WG) (A:XD),yZ x<=n->A.units+n<YH->fV s.heap x u->fV s.heap y v->aaD A s u v (decide (x=y)):=by
 intro n
 induction n with
 |zero=>
  intro x y u v A hd hu h1 h2;have du:A.units<YH:=by lia
  cases x<;>(try (unfold fV at h1;exact h1.elim))
  case int i=>
   unfold fV at h1;obtain⟨t,rfl⟩:=h1;cases y<;>(try (unfold fV at h2;exact h2.elim))
   case int j=>
    unfold fV at h2;obtain⟨t',rfl⟩:=h2;have:=SeqAt.EqAt.int_int (A:=A) (s:=s) i t j t';have e:decide (U.int i=U.int j)=(i==j):=by rw[Yj];simp
    rw[e];exact this
   case tup us=>
    unfold fV at h2;obtain⟨a,au,rfl,ht,_⟩:=h2;rw[hJ (by intro z;cases z)];exact SeqAt.EqAt.int_tuple i t ht du
  case tup us=>unfold yZ at hd;lia
 |succ n ih=>
  intro x y u v A hd hu h1 h2;have du:A.units<YH:=by lia
  cases x<;>(try (unfold fV at h1;exact h1.elim))
  case int i=>exact ih _ y u v A (by unfold yZ;lia) (by lia) h1 h2
  case tup us=>
   unfold yZ at hd;have Lh:=h1;unfold fV at h1;obtain⟨a,au,rfl,p1,z1⟩:=h1;cases y<;>(try (unfold fV at h2;exact h2.elim))
   case int j=>
    unfold fV at h2;obtain⟨t',rfl⟩:=h2;rw[hJ (by intro z;cases z)];exact SeqAt.EqAt.tuple_int j t' p1 du
   case tup ws=>
    have Li:=h2;unfold fV at h2;obtain⟨b,its2,rfl,p2,z2⟩:=h2;by_cases vi:a=b
    ·subst vi;rw[fV.inj Lh Li,hG rfl];exact abI _
    ·refine ab4 vi ?_;have l1:au.size=us.length:=by rw[z1.length,WH]
     have l2:its2.size=ws.length:=by rw[z2.length,WH]
     have he:∀j (g1:j<au.size) (g2:j<its2.size),aaD A.in1 s au[j] its2[j] (decide (us[j]? = ws[j]?)):=λj g1 g2=>by
      have q1:us[j]? = some us[j]:=Wx (by lia);have q2:ws[j]? = some ws[j]:=Wx (by lia);have y1:au.toList[j]? = some au[j]:=by rw[W4];exact Xc g1
      have y2:its2.toList[j]? = some its2[j]:=by rw[W4];exact Xc g2
      have e:decide (us[j]? = ws[j]?)=decide (us[j]=ws[j]):=by rw[q1,q2,Yj];simp
      rw[e];refine ih us[j] ws[j] au[j] its2[j] A.in1 ?_ (by show A.units+1+n<YH;lia) (z1.get q1 y1) (z2.get q2 y2);have:=mH q1;lia
     have q:=acr (A:=A) p1 p2 du he;rw[l1,l2] at q;have fin:((WY (min us.length ws.length)).all (λj=>decide (us[j]? = ws[j]?))&&us.length==ws.length)=decide (U.tup us=U.tup ws):=by
      rw[Yj,W2,YK,decide_eq_true_eq];constructor
      ·rintro⟨ha,hl⟩;have hl:us.length=ws.length:=by simpa using hl
       congr 1;refine ZD λj=>?_;by_cases hj:j<us.length
       ·exact of_decide_eq_true (ha j (Xv.mpr (by lia)))
       ·rw[Xw.mpr (by lia),Xw.mpr (by lia)]
      ·intro e;cases e;exact⟨λj _=>hG rfl,by simp⟩
     rw[←fin];exact q
theorem Ib:∀(n:Nat) (x:U) (v:WG) (A:XD) (E:WG->WT->Prop) (s:WT) (Q:Bool->WT->Prop),yZ x<=n->fV s.heap x v->Q true s->WX (Xg prog w) A (eqIsQuiet n v) Q E s:=by
 intro n
 induction n with
 |zero=>
  intro x v A E s Q hd hk h;cases x<;>unfold fV at hk<;>first|exact hk.elim|skip
  ·obtain⟨t,rfl⟩:=hk;rw[eqIsQuiet_byValue _ rfl];exact Wy h
  ·unfold yZ at hd;lia
 |succ n ih=>
  intro x v A E s Q hd hk h;cases x<;>unfold fV at hk<;>first|exact hk.elim|skip
  ·obtain⟨t,rfl⟩:=hk;rw[eqIsQuiet_byValue _ rfl];exact Wy h
  ·rename_i us;unfold yZ at hd;obtain⟨a,items,rfl,ht,hi⟩:=hk;have hT:s.TypeIs (.ref a) "tuple":=let ⟨o,e,c,_⟩:=ht;⟨o,e,c⟩
   obtain⟨o,ho,_,nn,hdat⟩:=ht;unfold eqIsQuiet;refine Wv (ZZ hT F.slot_tuple_eq.lookup ?_);show WX _ _ (isInstance (.ref a) (.type "tuple") >>= _) _ _ s;refine Wv (ZP hT isSubtype_tuple_tuple ?_);simp only[aac,Xm,if_false];refine Wv (Y8 ho hdat ?_);refine Wv ?_;show WX _ _ (forIn items _ _) _ _ s;rw[←ab7];refine wpAny_forIn_list _ (λrest r s'=>r.1=none/\s'=s/\∃done left,us=done++left/\cR s.heap left rest) _ ?_ ?_ _ _ ⟨rfl,rfl,[],us,rfl,hi⟩
   ·rintro v rest r s' ⟨hr,rfl,done,left,rfl,hl⟩;cases left with
    |nil=>unfold cR at hl;cases hl
    |cons k ks'=>
     unfold cR at hl;obtain⟨v',r',e,h1,hl'⟩:=hl;cases e;have Tb:yZ k<=n:=by
      have:=mH (us:=done++k::ks') (i:=done.length) (u:=k) (by simp);lia
     refine Wv (ih k v A E _ _ Tb h1 ?_);simp only[aac,Xm,if_false];exact Wy ⟨rfl,rfl,done++[k],ks',by simp,hl'⟩
   ·rintro⟨r1,r2⟩ s' ⟨hr,rfl,_⟩;simp only at hr;subst hr;exact Wy h
def TK (h:Zv)(us:List U)(a:W8):Prop:=tJ us<=6/\∃items,h.IsTuple a items/\cR h us items.toList
theorem TK.is (x:TK h us a):yZ (.tup us)<=7/\fV h (.tup us) (.ref a):=by
 obtain⟨l,au,t,z⟩:=x;exact⟨by unfold yZ;lia,by unfold fV;exact⟨a,au,rfl,t,z⟩⟩
theorem mI {x y:List U}:(U.tup x=U.tup y)↔x=y:=⟨λh=>by cases h;rfl,λh=>by rw[h]⟩
noncomputable def qV (prog:Zx)(w:ZU):aaO prog w (List U) where
 is:=TK
 hash:=λus=>hK (.tup us)
 draws:=λus=>JR (.tup us)
 room:=λA=>A.units+20<YH
 inj:=λhx hy=>mI.mp (fV.inj hx.is.2 hy.is.2)
 keeps:=λ{h h' k a d o es ep} x ho hd hs=>by
  have kp:∀b au,h.IsTuple b au->h'.IsTuple b au:=λb au h00=>by
   obtain⟨o',e,c,n,z⟩:=h00;have Lj:b≠d:=by
    rintro rfl;obtain rfl:o'=o:=W6 (e.symm.trans ho);rw[hd] at z;exact nomatch z
   exact⟨o',(hs.2 b Lj).trans e,c,n,z⟩
  obtain⟨l,au,t,z⟩:=x;exact⟨l,au,kp _ _ t,z.keep kp⟩
 pyHash:=λ{A E s k a Q} hu hk h=>L7 7 (.tup k) (.ref a) A E s Q hk.is.1 (by lia) hk.is.2 h
 eqBool:=λ{A E s x y a b Q} hu hx hy h=>R8 7 (.tup x) (.tup y) (.ref a) (.ref b) A hx.is.1 (by lia) hx.is.2 hy.is.2 prog w E Q (by
  have e:decide (U.tup x=U.tup y)=decide (x=y):=by rw[Yj,decide_eq_true_eq,decide_eq_true_eq];exact mI
  rw[e];exact h)
 quiet:=λ{A E s k a Q} hk h=>Ib 8 (.tup k) (.ref a) A E s Q (XG hk.is.1 (by lia)) hk.is.2 h
def NW (p:List U×W8×V)(q:List U×W8×WG):Prop:=p.1=q.1/\p.2.1=q.2.1/\aO p.2.2 q.2.2
noncomputable def OZ (e:List U×W8×WG):acz:=⟨hK (.tup e.1),.ref e.2.1,e.2.2⟩
def O0 (a:W8)(ep:Nat)(es:List (List U×W8×V))(h:Zv):Prop:=(a==Yv)=false/\∃o ds,∃xs:List (List U×W8×WG),h.get? a=some o/\o.ExactDict/\o.data=.dict ds ep/\ack NW es xs/\ds.toList=xs.map OZ
noncomputable def DN (a:W8)(ep:Nat)(es:List (List U×W8×V)):HO:=.ext (O0 a ep es)
mutual
def KH (H:Hp):U->V->Prop
 | .int i,v=>v=.int i
 | .tup us,v=>∃b ys,v=.ref b/\H b=some (.tup ys)/\us.length<=WC/\qW H us ys
 |_,_=>False
def qW (H:Hp):List U->List V->Prop
 | [],vs=>vs=[]
 |u::us,vs=>∃v r,vs=v::r/\KH H u v/\qW H us r
end
mutual
theorem KH.to {H H':Hp}(e:∀b ys,H b=some (.tup ys)->H' b=some (.tup ys)):∀{u:U} {v:V},KH H u v->KH H' u v
 | .int i,v,h=>by unfold KH at h ⊢;exact h
 | .tup us,v,h=>by
  unfold KH at h ⊢;obtain⟨b,ys,r,q,l,z⟩:=h;exact⟨b,ys,r,e b ys q,l,qW.to e z⟩
 | .non,v,h=>by unfold KH at h;exact h.elim
 | .bl _,v,h=>by unfold KH at h;exact h.elim
 | .str _,v,h=>by unfold KH at h;exact h.elim
 | .lst _,v,h=>by unfold KH at h;exact h.elim
 | .dct _ _,v,h=>by unfold KH at h;exact h.elim
 | .scr _,v,h=>by unfold KH at h;exact h.elim
theorem qW.to {H H':Hp}(e:∀b ys,H b=some (.tup ys)->H' b=some (.tup ys)):∀{us:List U} {vs:List V},qW H us vs->qW H' us vs
 | [],vs,h=>by unfold qW at h ⊢;exact h
 |u::us,vs,h=>by
  unfold qW at h ⊢;obtain⟨v,r,q,p,z⟩:=h;exact⟨v,r,q,KH.to e p,qW.to e z⟩
end
mutual
theorem KH.is (ok:kh P w H h):∀{u:U} {v:V} {x:WG},KH H u v->aO v x->fV h u x
 | .int i,v,x,k,r=>by
  unfold KH at k;subst k;obtain⟨t,rfl⟩:=r;unfold fV;exact⟨t,rfl⟩
 | .tup us,v,x,k,r=>by
  unfold KH at k;obtain⟨b,ys,rfl,q,_,z⟩:=k;cases r;obtain⟨_,au,rv,it,_⟩:=ok b _ q;unfold fV;exact⟨b,au.toArray,rfl,it,by simpa using qW.is ok z rv⟩
 | .non,v,x,k,r=>by unfold KH at k;exact k.elim
 | .bl _,v,x,k,r=>by unfold KH at k;exact k.elim
 | .str _,v,x,k,r=>by unfold KH at k;exact k.elim
 | .lst _,v,x,k,r=>by unfold KH at k;exact k.elim
 | .dct _ _,v,x,k,r=>by unfold KH at k;exact k.elim
 | .scr _,v,x,k,r=>by unfold KH at k;exact k.elim
theorem qW.is (ok:kh P w H h):∀{us:List U} {vs:List V} {xs:List WG},qW H us vs->aW vs xs->cR h us xs
 | [],vs,xs,k,r=>by
  unfold qW at k;subst k;cases r;unfold cR;rfl
 |u::us,vs,xs,k,r=>by
  unfold qW at k;obtain⟨v,vr,rfl,p,z⟩:=k;cases r with
  |cons r1 r2=>
   unfold cR;exact⟨_,_,rfl,KH.is ok p r1,qW.is ok z r2⟩
end
def tK (H:Hp)(us:List U)(b:W8):Prop:=tJ us<=6/\∃ys,H b=some (.tup ys)/\us.length<=WC/\qW H us ys
theorem tK.tk (ok:kh P w H h)(k:tK H us b):TK h us b:=by
 obtain⟨l,ys,q,_,z⟩:=k;obtain⟨_,au,rv,it,_⟩:=ok b _ q;exact⟨l,au.toArray,it,by simpa using qW.is ok z rv⟩
theorem tK.to (e:∀b ys,H b=some (.tup ys)->H' b=some (.tup ys))(k:tK H us b):tK H' us b:=by
 obtain⟨l,ys,q,n,z⟩:=k;exact⟨l,ys,e b ys q,n,z.to e⟩
structure iM (H:Hp)(a:W8)(es:List (List U×W8×V)):Prop where
 ob:(∃ep,H a=some (DN a ep es))\/(es=[]/\H a=some (.dK []))
 nd:(es.map (·.1)).Nodup
 key:∀e∈es,tK H e.1 e.2.1
theorem qX {α β:Type}{R:α->β->Prop}:∀{xs:List α} {ys:List β} {y:β},ack R xs ys->y∈ys->∃x∈xs,R x y
 |_,_,_,.nil,h=>by cases h
 |x::xs,y'::ys,y,.cons r t,h=>by
  rcases WZ.mp h with e|h
  ·subst e;exact⟨x,WM,r⟩
  ·obtain⟨x',m,q⟩:=qX t h;exact⟨x',WO _ m,q⟩
theorem qY:∀{es:List (List U×W8×V)} {xs:List (List U×W8×WG)},ack NW es xs->es.map (·.1)=xs.map (·.1)
 |_,_,.nil=>rfl
 |_::_,_::_,.cons r t=>by rw[WB,WB,qY t,r.1]
theorem iM.of (ok:kh P w H h)(d:iM H a es):∃xs,ack NW es xs/\h.DictOfH (qV P w) a xs:=by
 rcases d.ob with⟨ep,q⟩|⟨e,q⟩
 ·obtain⟨⟨_,o,ds,xs,h1,h2,h3,h4,h5⟩,_⟩:=ok a _ q;refine⟨xs,h4,o,ds,ep,h1,h2,h3,h5,λx hx=>?_,by rw[←qY h4];exact d.nd⟩;obtain⟨e,he,r⟩:=qX h4 hx;have:=(d.key e he).tk ok;rw[r.1,r.2.1] at this;exact this
 ·subst e;obtain⟨_,_,vs,rel,dd⟩:=ok a _ q;cases rel;obtain⟨o,ds,ep,h1,h2,h3,h4,h5,h6⟩:=dd;have e0:ds.toList=[]:=by
   generalize ds.toList=l at h5;cases h5;rfl
  exact⟨[],.nil,o,ds,ep,h1,h2,h3,by rw[e0];rfl,(λx hx=>by cases hx),Y9⟩
theorem iM.lo (ok:kh P w H h)(d:iM H a es):(a==Yv)=false:=by
 rcases d.ob with⟨ep,q⟩|⟨e,q⟩
 ·obtain⟨⟨l,_⟩,_⟩:=ok a _ q;exact l
 ·obtain⟨_,l,_⟩:=ok a _ q;exact l
noncomputable def mJ (es:List (List U×W8×V))(k:List U):Option V:=(es.find? λe=>decide (e.1=k)).map (·.2.2)
noncomputable def j7 (es:List (List U×W8×V))(k:List U)(b:W8)(v:V):List (List U×W8×V):=
 if (mJ es k).isSome then es.map (λe=>if e.1=k then (e.1,e.2.1,v) else e) else es++[(k,b,v)]
theorem kn (k:List U):∀{es:List (List U×W8×V)} {xs:List (List U×W8×WG)},ack NW es xs->lK (mJ es k) ((atKey xs k).map (·.2))
 |_,_,.nil=>trivial
 |e::es,x::xs,.cons r t=>by
  have ih:=kn k t;unfold mJ atKey at ih ⊢;rw[Ym,Ym];by_cases c:e.1=k
  ·have c':x.1=k:=by rw[←r.1];exact c
   rw[hG c,hG c'];exact r.2.2
  ·have c':¬x.1=k:=by rw[←r.1];exact c
   rw[hJ c,hJ c'];exact ih
theorem xw (k:List U){u:WG}(rv:aO v u){xs:List (List U×W8×WG)}(p:ack NW es xs):ack NW (j7 es k b v) (storedH xs k b u):=by
 have e:(mJ es k).isSome=(atKey xs k).isSome:=by
  have:=(kn k p).isSome_eq;rw[aa4] at this;exact this
 unfold j7 storedH;rw[e];split
 ·rename_i hh;clear hh e
  induction p with
  |nil=>exact .nil
  | @cons q x es xs r t ih=>
   refine .cons ?_ ih;unfold putAt;dsimp only;by_cases c:q.1=k
   ·have c':x.1=k:=by rw[←r.1];exact c
    rw[hZ c,hZ c'];exact⟨r.1,r.2.1,rv⟩
   ·have c':¬x.1=k:=by rw[←r.1];exact c
    rw[hV c,hV c'];exact r
 ·rename_i hh;clear hh e
  induction p with
  |nil=>exact .cons ⟨rfl,rfl,rv⟩ .nil
  |cons r t ih=>exact .cons r ih
section
variable {d:V}{r:WG}{k:List U}{A:XD}
theorem vz (hu:A.units+64<YH):(qV X.prog X.w).room A.in1:=by show A.units+1+20<YH;lia
theorem CA (hu:A.units+64<YH)(I:az X pins σ H s)(g:iM H a es)(kb:tK H k b)(e:mJ es k=some v)(h:∀w' s',az X pins σ H s'->aO v w'->Q w' s') :
  WX (Xg X.prog X.w) A (abH (.ref a) (.ref b)) Q E s:=by
 obtain⟨xs,rel,dd⟩:=g.of I.hok;obtain⟨w',hw,yW⟩:=lK.some_of (v:=v) (o:=(atKey xs k).map (·.2)) (by rw[←e];exact kn k rel);obtain⟨p,hp,Dv⟩:=Option.map_eq_some_iff.mp hw;refine wpAny_getItem_heap (vz hu) (kb.tk I.hok) dd hp ?_;rw[Dv];exact h w' _ (I.tok _) yW
theorem R9 (hu:A.units+64<YH)(I:az X pins σ H s)(g:iM H a es)(kb:tK H k b)(h:∀s',az X pins σ H s'->Q (.bool (mJ es k).isSome) s') :
  WX (Xg X.prog X.w) A (Zc .In (.ref b) (.ref a)) Q E s:=by
 obtain⟨xs,rel,dd⟩:=g.of I.hok;refine wpAny_in_heap (vz hu) (kb.tk I.hok) (g.lo I.hok) dd ?_;have q:=(kn k rel).isSome_eq;rw[aa4] at q;rw[←q];exact h _ (I.tok _)
theorem L8 (hu:A.units+64<YH)(I:az X pins σ H s)(g:iM H a es)(kb:tK H k b)(rd:aO d r)(h:∀w' s',az X pins σ H s'->aO ((mJ es k).getD d) w'->Q w' s') :
  WX (Xg X.prog X.w) A (call (.builtin "dict.get") [.ref a,.ref b,r]) Q E s:=by
 obtain⟨xs,rel,dd⟩:=g.of I.hok;exact call_meetsIn Z0 dd.typeIs aa0 (aaM _ _ _) (meetsH_dict_get_default (qV X.prog X.w) a b (g.lo I.hok) r) ⟨vz hu,k,xs,kb.tk I.hok,dd,h _ _ (I.tok _) ((kn k rel).getD rd)⟩
theorem iM.typeIs (I:az X pins σ H s)(g:iM H a es):s.TypeIs (.ref a) "dict":=by
 obtain⟨xs,rel,dd⟩:=g.of I.hok;exact dd.typeIs
theorem iM.noDict (I:az X pins σ H s)(g:iM H a es):∀b,Value.ref a=.ref b->∃ob,s.heap.get? b=some ob/\ob.dict=none:=λb q=>by
 cases q;obtain⟨xs,rel,ob,_,_,h1,h2,_⟩:=g.of I.hok;exact⟨ob,h1,h2.2.1⟩
theorem iM.mut (g:iM H a es):NV (H a):=by
 rcases g.ob with⟨ep,q⟩|⟨_,q⟩<;>(rw[q];exact True.intro)
theorem CB {Q:Unit->WT->Prop}(hu:A.units+64<YH)(I:az X pins σ H s)(g:iM H a es)(kb:tK H k b)(hz:es.length<=WC)(rv:aO v r)(h:∀ep s',az X pins σ (cD H a (DN a ep (j7 es k b v))) s'->Q () s') :
  WX (Xg X.prog X.w) A (setItem (.ref a) (.ref b) r) Q E s:=by
 obtain⟨xs,rel,dd⟩:=g.of I.hok;refine wpAny_setItem_heap (hsz:=by rw[←Z8 rel];exact hz) (vz hu) (kb.tk I.hok) dd λh' Lf hs=>?_;obtain⟨q,ds,ep,hq,h2,h3,h4,_,h5⟩:=Lf;refine h ep _ ?_;refine qg I g.mut hs ⟨q,hq⟩ ⟨⟨g.lo I.hok,q,ds,_,hq,h2,h3,xw k rv rel,h4⟩,⟨q,hq⟩,λg1 g2 ⟨l,o,ds,xs,z1,z2⟩ kp=>⟨l,o,ds,xs,kp _ z1,z2⟩⟩
end
end L2
namespace L2
noncomputable def kU:Key->U
 | .inl i=>.int i
 | .inr x=>.str x
def xb (H:Hp)(a:W8)(ks:List U)(xs:List V):Prop:=
 (∃aL:List (Key×V),H a=some (.dK aL)/\ks=aL.map (λp=>kU p.1)/\xs=aL.map (·.2)) \/
 ∃es:List (List U×W8×V),es≠[]/\iM H a es/\ks=es.map (λp=>.tup p.1)/\xs=es.map (·.2.2)
noncomputable abbrev O1:=xb
theorem xb.at (h:O1 H a ks xs):xb H a ks xs:=h
theorem iM.ne (h:iM H a es)(n:es≠[]):∃ep,H a=some (DN a ep es):=by
 rcases h.ob with q|⟨e,_⟩
 ·exact q
 ·exact absurd e n
def Ic (K:WD)(H:Hp)(a:W8)(xs:List V):Prop:=(∃o,H a=some (.frz o (.lst xs))) \/
  ∃(o:Obj) (au:Array WG) (n:Nat),K.lookup a=some o/\o.cls=.type "list"/\o.dict=none/\o.data=.seq au n/\au.size<=WC/\aW xs au.toList
theorem Ic.sq (h:Ic K H a xs):gc K H a xs:=by
 rcases h with⟨o,h⟩|h
 ·exact .inl (.inr ⟨o,h⟩)
 ·exact .inr h
theorem Ic.to (h:Ic K H a xs)(e:∀o y,H a=some (.frz o y)->H' a=some (.frz o y)):Ic K H' a xs:=by
 rcases h with⟨o,h⟩|h
 ·exact .inl ⟨o,e _ _ h⟩
 ·exact .inr h
mutual
def Rp (K:WD)(H:Hp)(A:W8->Prop):U->V->Prop
 | .non,v=>v=.non
 | .bl b,v=>v=.bl b
 | .int i,v=>v=.int i
 | .str x,v=>v=.str x
 | .tup us,v=>∃a xs,v=.ref a/\H a=some (.tup xs)/\us.length<=WC/\aE K H A us xs
 | .lst us,v=>∃a xs,v=.ref a/\¬A a/\H a=some (.lst xs)/\us.length<=WC/\aE K H A us xs
 | .dct ks us,v=>∃a xs,v=.ref a/\¬A a/\xb H a ks xs/\us.length<=WC/\aE K H A us xs
 | .scr us,v=>∃a xs,v=.ref a/\Ic K H a xs/\us.length<=WC/\aE K H A us xs
def aE (K:WD)(H:Hp)(A:W8->Prop):List U->List V->Prop
 | [],xs=>xs=[]
 |u::us,xs=>∃x r,xs=x::r/\Rp K H A u x/\aE K H A us r
end
def ko (K:WD)(H:Hp)(A:W8->Prop):U->W8->Prop
 | .lst us,a=>∃xs,H a=some (.lst xs)/\us.length<=WC/\aE K H A us xs
 | .dct ks us,a=>∃xs,O1 H a ks xs/\us.length<=WC/\aE K H A us xs
 |_,_=>False
def Pk (K:WD)(H:Hp)(A:W8->Prop):U->V->Prop
 | .non,v=>v=.non
 | .bl b,v=>v=.bl b
 | .int i,v=>v=.int i
 | .str x,v=>v=.str x
 | .tup us,v=>∃a xs,v=.ref a/\H a=some (.tup xs)/\us.length<=WC/\aE K H A us xs
 | .lst us,v=>∃a xs,v=.ref a/\H a=some (.lst xs)/\us.length<=WC/\aE K H A us xs
 | .dct ks us,v=>∃a xs,v=.ref a/\xb H a ks xs/\us.length<=WC/\aE K H A us xs
 | .scr us,v=>∃a xs,v=.ref a/\Ic K H a xs/\us.length<=WC/\aE K H A us xs
def Mu:Option HO->Prop
 |some (.lst _)=>True
 |some (.dK _)=>True
 |some (.dT _)=>True
 |some (.ext _)=>True
 |_=>False
theorem Mu.ex {o:Option HO}(h:Mu o):∃x,o=.some x:=by
 cases o with
 |none=>exact h.elim
 |some x=>exact⟨x,rfl⟩
def eO (A:W8->Prop)(H H':Hp):Prop:=∀b o,¬A b->H b=some o->H' b=some o
theorem eO.refl:eO A H H:=λ_ _ _ h=>h
theorem eO.trans (a:eO A H H1)(b:eO A H1 H2):eO A H H2:=λc o n h=>b c o n (a c o n h)
theorem eO.same (h:aG H H'):eO A H H':=λb o _ e=>h b o e
section
variable {A':W8->Prop}
theorem xb.ex (h:xb H a ks xs):∃o,H a=some o:=by
 rcases h with⟨k,h,_⟩|⟨k,n,h,_⟩
 ·exact⟨_,h⟩
 ·obtain⟨ep,q⟩:=h.ne n;exact⟨_,q⟩
theorem xb.to (h:xb H a ks xs)(e:∀o,H a=some o->H' a=some o)(t:∀b ys,H b=some (.tup ys)->H' b=some (.tup ys)):xb H' a ks xs:=by
 rcases h with⟨k,h,z⟩|⟨k,n,h,z⟩
 ·exact .inl ⟨k,e _ h,z⟩
 ·exact .inr ⟨k,n,⟨h.ob.imp (fun⟨ep,q⟩=>⟨ep,e _ q⟩) (λq=>⟨q.1,e _ q.2⟩),h.nd,λy hy=>(h.key y hy).to t⟩,z⟩
mutual
theorem Rp.re (m:∀b,A b->Mu (H b))(e:eO A H H')(n:∀b,A' b->A b\/H b=none):∀{u:U} {v:V},Rp K H A u v->Rp K H' A' u v
 | .non,v,h=>by unfold Rp at h ⊢;exact h
 | .bl b,v,h=>by unfold Rp at h ⊢;exact h
 | .int b,v,h=>by unfold Rp at h ⊢;exact h
 | .str b,v,h=>by unfold Rp at h ⊢;exact h
 | .tup us,v,h=>by
  unfold Rp at h ⊢;obtain⟨a,xs,r,q,l,z⟩:=h;exact⟨a,xs,r,e a _ (λz=>by have:=m a z;rw[q] at this;exact this) q,l,aE.re m e n z⟩
 | .lst us,v,h=>by
  unfold Rp at h ⊢;obtain⟨a,xs,r,na,q,l,z⟩:=h;refine⟨a,xs,r,λy=>?_,e a _ na q,l,aE.re m e n z⟩;rcases n a y with y|y
  ·exact na y
  ·rw[q] at y;cases y
 | .scr us,v,h=>by
  unfold Rp at h ⊢;obtain⟨a,xs,r,q,l,z⟩:=h;exact⟨a,xs,r,q.to λo y w=>e a _ (λz=>by have:=m a z;rw[w] at this;exact this) w,l,aE.re m e n z⟩
 | .dct ks us,v,h=>by
  unfold Rp at h ⊢;obtain⟨a,xs,r,na,q,l,z⟩:=h;refine⟨a,xs,r,λy=>?_,q.to (λo w=>e a o na w) (λb ys w=>e b _ (λy=>by have:=m b y;rw[w] at this;exact this) w),l,aE.re m e n z⟩;obtain⟨o,w⟩:=q.ex;rcases n a y with y|y
  ·exact na y
  ·rw[w] at y;cases y
theorem aE.re (m:∀b,A b->Mu (H b))(e:eO A H H')(n:∀b,A' b->A b\/H b=none):∀{us:List U} {vs:List V},aE K H A us vs->aE K H' A' us vs
 | [],vs,h=>by unfold aE at h ⊢;exact h
 |u::us,vs,h=>by
  unfold aE at h ⊢;obtain⟨x,r,q,p,z⟩:=h;exact⟨x,r,q,Rp.re m e n p,aE.re m e n z⟩
end
mutual
theorem Rp.mono (n:∀b,A' b->A b):∀{u:U} {v:V},Rp K H A u v->Rp K H A' u v
 | .non,v,h=>by unfold Rp at h ⊢;exact h
 | .bl b,v,h=>by unfold Rp at h ⊢;exact h
 | .int b,v,h=>by unfold Rp at h ⊢;exact h
 | .str b,v,h=>by unfold Rp at h ⊢;exact h
 | .tup us,v,h=>by
  unfold Rp at h ⊢;obtain⟨a,xs,r,q,l,z⟩:=h;exact⟨a,xs,r,q,l,aE.mono n z⟩
 | .lst us,v,h=>by
  unfold Rp at h ⊢;obtain⟨a,xs,r,na,q,l,z⟩:=h;exact⟨a,xs,r,λy=>na (n a y),q,l,aE.mono n z⟩
 | .scr us,v,h=>by
  unfold Rp at h ⊢;obtain⟨a,xs,r,q,l,z⟩:=h;exact⟨a,xs,r,q,l,aE.mono n z⟩
 | .dct ks us,v,h=>by
  unfold Rp at h ⊢;obtain⟨a,xs,r,na,q,l,z⟩:=h;exact⟨a,xs,r,λy=>na (n a y),q,l,aE.mono n z⟩
theorem aE.mono (n:∀b,A' b->A b):∀{us:List U} {vs:List V},aE K H A us vs->aE K H A' us vs
 | [],vs,h=>by unfold aE at h ⊢;exact h
 |u::us,vs,h=>by
  unfold aE at h ⊢;obtain⟨x,r,q,p,z⟩:=h;exact⟨x,r,q,Rp.mono n p,aE.mono n z⟩
end
mutual
theorem Rp.same (e:aG H H'):∀{u:U} {v:V},Rp K H A u v->Rp K H' A u v
 | .non,v,h=>by unfold Rp at h ⊢;exact h
 | .bl b,v,h=>by unfold Rp at h ⊢;exact h
 | .int b,v,h=>by unfold Rp at h ⊢;exact h
 | .str b,v,h=>by unfold Rp at h ⊢;exact h
 | .tup us,v,h=>by
  unfold Rp at h ⊢;obtain⟨a,xs,r,q,l,z⟩:=h;exact⟨a,xs,r,e a _ q,l,aE.same e z⟩
 | .lst us,v,h=>by
  unfold Rp at h ⊢;obtain⟨a,xs,r,na,q,l,z⟩:=h;exact⟨a,xs,r,na,e a _ q,l,aE.same e z⟩
 | .scr us,v,h=>by
  unfold Rp at h ⊢;obtain⟨a,xs,r,q,l,z⟩:=h;exact⟨a,xs,r,q.to λo y w=>e a _ w,l,aE.same e z⟩
 | .dct ks us,v,h=>by
  unfold Rp at h ⊢;obtain⟨a,xs,r,na,q,l,z⟩:=h;exact⟨a,xs,r,na,q.to (λo w=>e a o w) (λb ys w=>e b _ w),l,aE.same e z⟩
theorem aE.same (e:aG H H'):∀{us:List U} {vs:List V},aE K H A us vs->aE K H' A us vs
 | [],vs,h=>by unfold aE at h ⊢;exact h
 |u::us,vs,h=>by
  unfold aE at h ⊢;obtain⟨x,r,q,p,z⟩:=h;exact⟨x,r,q,Rp.same e p,aE.same e z⟩
end
theorem aE.length:∀{us:List U} {vs:List V},aE K H A us vs->us.length=vs.length
 | [],_,h=>by unfold aE at h;subst h;rfl
 |u::us,_,h=>by
  unfold aE at h;obtain⟨x,r,rfl,_,q⟩:=h;rw[WS,WS,aE.length q]
theorem aE.get:∀{us:List U} {vs:List V} {i:Nat} {u:U},aE K H A us vs->us[i]? = some u->∃v,vs[i]? = some v/\Rp K H A u v
 | [],_,_,_,_,e=>by simp at e
 |w::us,_,i,u,h,e=>by
  unfold aE at h;obtain⟨x,r,rfl,p,q⟩:=h;cases i with
  |zero=>simp at e;subst e;exact⟨x,by simp,p⟩
  |succ i=>
   obtain⟨v,a,b⟩:=aE.get q (i:=i) (by simpa using e);exact⟨v,by simpa using a,b⟩
theorem aE.nil:aE K H A [] []:=by unfold aE;rfl
theorem aE.cons (h:Rp K H A u v)(t:aE K H A us vs):aE K H A (u::us) (v::vs):=by unfold aE;exact⟨v,vs,rfl,h,t⟩
theorem aE.append:∀{us ws:List U} {vs xs:List V},aE K H A us vs->aE K H A ws xs->aE K H A (us++ws) (vs++xs)
 | [],ws,vs,xs,h,t=>by unfold aE at h;subst h;exact t
 |u::us,ws,vs,xs,h,t=>by
  unfold aE at h;obtain⟨x,r,rfl,p,q⟩:=h;exact aE.cons p (aE.append q t)
theorem aE.take:∀{us:List U} {vs:List V} (n:Nat),aE K H A us vs->aE K H A (us.take n) (vs.take n)
 | [],vs,n,h=>by unfold aE at h;subst h;simp;exact aE.nil
 |u::us,vs,0,h=>by simp;exact aE.nil
 |u::us,vs,n+1,h=>by
  unfold aE at h;obtain⟨x,r,rfl,p,q⟩:=h;exact aE.cons p (aE.take n q)
theorem aE.drop:∀{us:List U} {vs:List V} (n:Nat),aE K H A us vs->aE K H A (us.drop n) (vs.drop n)
 | [],vs,n,h=>by unfold aE at h;subst h;simp;exact aE.nil
 |u::us,vs,0,h=>h
 |u::us,vs,n+1,h=>by
  unfold aE at h;obtain⟨x,r,rfl,p,q⟩:=h;exact aE.drop n q
theorem aE.set:∀{us:List U} {vs:List V} (n:Nat) {u:U} {v:V},Rp K H A u v->aE K H A us vs->aE K H A (us.set n u) (vs.set n v)
 | [],vs,n,_,_,_,h=>by unfold aE at h;subst h;simp;exact aE.nil
 |u::us,vs,0,_,_,p',h=>by
  unfold aE at h;obtain⟨x,r,rfl,p,q⟩:=h;exact aE.cons p' q
 |u::us,vs,n+1,_,_,p',h=>by
  unfold aE at h;obtain⟨x,r,rfl,p,q⟩:=h;exact aE.cons p (aE.set n p' q)
theorem Rp.pk (h:Rp K H A u v):Pk K H A u v:=by
 cases u<;>(unfold Rp at h;unfold Pk)
 case lst us=>obtain⟨a,xs,r,na,q⟩:=h;exact⟨a,xs,r,q⟩
 case dct ks us=>obtain⟨a,xs,r,na,q⟩:=h;exact⟨a,xs,r,q⟩
 all_goals exact h
theorem Pk.same (e:aG H H')(h:Pk K H A u v):Pk K H' A u v:=by
 cases u<;>(unfold Pk at h ⊢)
 case tup us=>obtain⟨a,xs,r,q,l,z⟩:=h;exact⟨a,xs,r,e a _ q,l,z.same e⟩
 case lst us=>obtain⟨a,xs,r,q,l,z⟩:=h;exact⟨a,xs,r,e a _ q,l,z.same e⟩
 case scr us=>obtain⟨a,xs,r,q,l,z⟩:=h;exact⟨a,xs,r,q.to λo y w=>e a _ w,l,z.same e⟩
 case dct ks us=>obtain⟨a,xs,r,q,l,z⟩:=h;exact⟨a,xs,r,q.to (λo w=>e a o w) (λb ys w=>e b _ w),l,z.same e⟩
 all_goals exact h
theorem ko.pk (h:ko K H A u a):Pk K H A u (.ref a):=by
 cases u<;>(unfold ko at h;unfold Pk)
 case lst us=>obtain⟨xs,q,l,z⟩:=h;exact⟨a,xs,rfl,q,l,z⟩
 case dct ks us=>obtain⟨xs,q,l,z⟩:=h;exact⟨a,xs,rfl,q.at,l,z⟩
 all_goals exact h.elim
theorem ko.rp (h:ko K H A u a)(n:∀b,A' b->A b)(na:¬A' a):Rp K H A' u (.ref a):=by
 cases u<;>(unfold ko at h;unfold Rp)
 case lst us=>obtain⟨xs,q,l,z⟩:=h;exact⟨a,xs,rfl,na,q,l,z.mono n⟩
 case dct ks us=>obtain⟨xs,q,l,z⟩:=h;exact⟨a,xs,rfl,na,q.at,l,z.mono n⟩
 all_goals exact h.elim
theorem ko.re (m:∀b,A b->Mu (H b))(e:eO A H H')(n:∀b,A' b->A b\/H b=none)(ea:∀o,H a=some o->H' a=some o)(h:ko K H A u a):ko K H' A' u a:=by
 cases u<;>(unfold ko at h ⊢)
 case lst us=>obtain⟨xs,q,l,z⟩:=h;exact⟨xs,ea _ q,l,z.re m e n⟩
 case dct ks us=>obtain⟨xs,q,l,z⟩:=h;exact⟨xs,q.to ea (λb ys w=>e b _ (λy=>by have:=m b y;rw[w] at this;exact this) w),l,z.re m e n⟩
 all_goals exact h.elim
theorem ko.mu (h:ko K H A u a):Mu (H a):=by
 cases u<;>(unfold ko at h)
 case lst us=>obtain⟨xs,q,_⟩:=h;rw[q];trivial
 case dct ks us=>
  obtain⟨xs,q,_⟩:=h;rcases q with⟨k,q,_⟩|⟨k,n,q,_⟩
  ·rw[q];trivial
  ·obtain⟨ep,q⟩:=q.ne n;rw[q];trivial
 all_goals exact h.elim
end
structure Pkg where
 A0:W8->Prop
 B:Hp
 a0:W8
structure Gm where
 own:List Bool
 io:Bool
 W:Hp->Prop
noncomputable def Gm.is (G:Gm)(i:Nat):Bool:=G.own.getD i false
structure cz (K:WD)(G:Gm)(Z:Pkg)(A:W8->Prop)(ρ:Ev)(σ:St)(H:Hp):Prop where
 slot:∀i u,ρ[i]? = some (some u)->∃v,σ[i]? = some (some v)/\if G.is i=true then (∃a,v=.ref a/\A a/\Z.B a=none/\(¬Z.A0 a\/(G.io=true/\i=0))/\ko K H A u a) else Rp K H A u v
 dis:∀i j u w a,G.is i=true->G.is j=true->i≠j->ρ[i]? = some (some u)->ρ[j]? = some (some w)->σ[i]? = some (some (.ref a))->σ[j]? = some (some (.ref a))->False
 mu:∀a,A a->Mu (H a)
 sup:∀a,Z.A0 a->A a
 out:∀a,A a->Z.A0 a\/Z.B a=none
 bas:∀a o,Z.B a=some o->H a=some o
 io0:G.io=true->σ[0]? = some (some (.ref Z.a0))/\G.is 0=true
 len:ρ.length=σ.length
section
variable {A':W8->Prop}{G:Gm}{Z:Pkg}{ρ':Ev}
theorem cz.same (r:cz K G Z A ρ σ H)(e:aG H H'):cz K G Z A ρ σ H' where
 slot:=λi u h=>by
  obtain⟨v,h1,h2⟩:=r.slot i u h;refine⟨v,h1,?_⟩;by_cases c:G.is i=true
  ·rw[hZ c] at h2 ⊢;obtain⟨a,e1,e2,e3,e4,e5⟩:=h2;exact⟨a,e1,e2,e3,e4,e5.re r.mu (eO.same e) (λb z=>.inl z) λo w=>e a o w⟩
  ·rw[hV c] at h2 ⊢;exact h2.same e
 dis:=r.dis
 mu:=λa h=>by
  have m:=r.mu a h;obtain⟨o,q⟩:=m.ex;rw[e a o q,←q];exact m
 sup:=r.sup
 out:=r.out
 bas:=λa o h=>e a o (r.bas a o h)
 io0:=r.io0
 len:=r.len
theorem cz.add (r:cz K G Z A ρ σ H)(e:aG H H')(n:H a=none)(m:Mu (H' a)):cz K G Z (λb=>A b\/b=a) ρ σ H' where
 slot:=λi u h=>by
  have q:∀b,(A b\/b=a)->A b\/H b=none:=λb z=>by
   rcases z with z|z
   ·exact .inl z
   ·subst z;exact .inr n
  obtain⟨v,h1,h2⟩:=r.slot i u h;refine⟨v,h1,?_⟩;by_cases c:G.is i=true
  ·rw[hZ c] at h2 ⊢;obtain⟨b,e1,e2,e3,e4,e5⟩:=h2;exact⟨b,e1,.inl e2,e3,e4,e5.re r.mu (eO.same e) q λo w=>e b o w⟩
  ·rw[hV c] at h2 ⊢;exact h2.re r.mu (eO.same e) q
 dis:=r.dis
 mu:=λb h=>by
  rcases h with h|h
  ·exact (r.same e).mu b h
  ·subst h;exact m
 sup:=λb h=>.inl (r.sup b h)
 out:=λb h=>by
  rcases h with h|h
  ·exact r.out b h
  ·subst h;refine .inr ?_;cases q:Z.B b with
   |none=>rfl
   |some o=>rw[r.bas b o q] at n;cases n
 bas:=λa o h=>e a o (r.bas a o h)
 io0:=r.io0
 len:=r.len
theorem cz.notA (r:cz K G Z A ρ σ H)(n:H a=none):¬A a:=λz=>by
 have:=r.mu a z;rw[n] at this;exact this
theorem cz.notB (r:cz K G Z A ρ σ H)(n:H a=none):Z.B a=none:=by
 cases q:Z.B a with
 |none=>rfl
 |some o=>rw[r.bas a o q] at n;cases n
theorem cz.val (r:cz K G Z A ρ σ H)(c:G.is i=false)(h:ρ[i]? = some (some u)):∃v,σ[i]? = some (some v)/\Rp K H A u v:=by
 obtain⟨v,h1,h2⟩:=r.slot i u h;rw[hV (by rw[c];exact WA)] at h2;exact⟨v,h1,h2⟩
theorem cz.own (r:cz K G Z A ρ σ H)(c:G.is i=true)(h:ρ[i]? = some (some u)):∃a,σ[i]? = some (some (.ref a))/\A a/\Z.B a=none/\(¬Z.A0 a\/(G.io=true/\i=0))/\ko K H A u a:=by
 obtain⟨v,h1,h2⟩:=r.slot i u h;rw[hZ c] at h2;obtain⟨a,rfl,z⟩:=h2;exact⟨a,h1,z⟩
end
end L2
variable {Z:L2.Pkg}{G:L2.Gm}
namespace L2
inductive Md where
 |S|O|P
 deriving DecidableEq
def y3 (K:WD)(G:Gm)(Z:Pkg)(m:Md)(A:W8->Prop)(ρ:Ev)(σ:St)(H:Hp)(u:U)(v:V):Prop:=match m with
 | .S=>Rp K H A u v
 | .P=>Pk K H A u v
 | .O=>∃a,v=.ref a/\¬A a/\Z.B a=none/\cz K G Z (λb=>A b\/b=a) ρ σ H/\ko K H (λb=>A b\/b=a) u a
def AK (K:WD)(m:Md)(A:W8->Prop)(H H':Hp)(u:U)(v:V):Prop:=match m with
 | .S=>Rp K H' A u v
 | .P=>Pk K H' A u v
 | .O=>∃a,v=.ref a/\H a=none/\ko K H' (λb=>A b\/b=a) u a
def Ie (K:WD)(G:Gm)(Z:Pkg)(A:W8->Prop)(b:Bool)(m:Md)(ρ:Ev)(σ:St)(H:Hp):R (U×Ev)->VK->Prop
 | .ok (u,ρ'),Q=>∀v H',cz K G Z A ρ' σ H'->eO A H H'->(b=false->ρ'=ρ/\aG H H')->y3 K G Z m A ρ' σ H' u v->Q v H'
 |_,_=>False
def tD (K:WD)(G:Gm)(b:Bool)(m:Md)(g:Ev->R (U×Ev)):TE:=λσ H Q=>∃Z A ρ,cz K G Z A ρ σ H/\Ie K G Z A b m ρ σ H (g ρ) Q
structure DE (X:Cx)(G:Gm)(e:YV)(b:Bool)(m:Md)(g:Ev->R (U×Ev)):Prop where
 un:PE X e (tD X.K G b m g)
def Ig (K:WD)(G:Gm)(Z:Pkg)(A:W8->Prop)(b:Bool)(ρ:Ev)(σ:St)(H:Hp):R (Bool×Ev)->(Bool->Hp->Prop)->Prop
 | .ok (c,ρ'),Q=>∀H',cz K G Z A ρ' σ H'->eO A H H'->(b=false->ρ'=ρ/\aG H H')->Q c H'
 |_,_=>False
def Ih (K:WD)(G:Gm)(b:Bool)(g:Ev->R (Bool×Ev)):TT:=λσ H Q=>∃Z A ρ,cz K G Z A ρ σ H/\Ig K G Z A b ρ σ H (g ρ) Q
structure DT (X:Cx)(G:Gm)(e:YV)(b:Bool)(g:Ev->R (Bool×Ev)):Prop where
 un:PT X e (Ih X.K G b g)
def zo (K:WD)(H:Hp)(A:W8->Prop):List U->List V->Prop
 | [],vs=>vs=[]
 |u::us,vs=>∃x r,vs=x::r/\Pk K H A u x/\zo K H A us r
def Ii (K:WD)(p:Bool)(A:W8->Prop)(H:Hp)(us:List U)(vs:List V):Prop:=if p=true then zo K H A us vs else aE K H A us vs
def Ij (K:WD)(G:Gm)(Z:Pkg)(A:W8->Prop)(b p:Bool)(ρ:Ev)(σ:St)(H:Hp):R (List U×Ev)->(List V->Hp->Prop)->Prop
 | .ok (us,ρ'),Q=>∀vs H',cz K G Z A ρ' σ H'->eO A H H'->(b=false->ρ'=ρ/\aG H H')->Ii K p A H' us vs->Q vs H'
 |_,_=>False
def R_ (K:WD)(G:Gm)(b p:Bool)(g:Ev->R (List U×Ev)):TA:=λσ H Q=>∃Z A ρ,cz K G Z A ρ σ H/\Ij K G Z A b p ρ σ H (g ρ) Q
structure DA (X:Cx)(G:Gm)(es:List YV)(b p:Bool)(g:Ev->R (List U×Ev)):Prop where
 un:PA X es (R_ X.K G b p g)
section
variable {e:YV}{t t':TE}
theorem PE.to (h:PE X e t)(i:∀σ H Q,t' σ H Q->t σ H Q):PE X e t':=λpins s σ H Q I q=>h pins s σ H Q I (i _ _ _ q)
theorem PT.to {t t':TT}(h:PT X e t)(i:∀σ H Q,t' σ H Q->t σ H Q):PT X e t':=λpins s σ H Q I q=>h pins s σ H Q I (i _ _ _ q)
theorem PW.to {t t':TT}(h:PW X e t)(i:∀σ H Q,t' σ H Q->t σ H Q):PW X e t':=λwhole pins s σ H Q I q=>h whole pins s σ H Q I (i _ _ _ q)
theorem PA.to {es:List YV}{t t':TA}(h:PA X es t)(i:∀σ H Q,t' σ H Q->t σ H Q):PA X es t':=λpos pins s σ H Q I q=>h pos pins s σ H Q I (i _ _ _ q)
theorem PS.to {t t':TS}(h:PS X st t)(i:∀D σ H,t' D σ H->t D σ H):PS X st t':=λpins s σ H D I q=>h pins s σ H D I (i _ _ _ q)
theorem uk.to {st:List abx}{t t':TS}(h:uk X st t)(i:∀D σ H,t' D σ H->t D σ H):uk X st t':=λpins s σ H D I q=>h pins s σ H D I (i _ _ _ q)
theorem PG.to {t t':TG}(h:PG X e t)(i:∀v σ H Q,t' v σ H Q->t v σ H Q):PG X e t':=λpins s σ H v u Q I r q=>h pins s σ H v u Q I r (i _ _ _ _ q)
end
section
variable {A':W8->Prop}{ρ':Ev}{m:Md}{b:Bool}
theorem y3.rp (h:y3 K G Z m A ρ σ H u v)(n:m≠.P):Rp K H A u v:=by
 cases m with
 |S=>exact h
 |O=>
  obtain⟨a,rfl,na,_,_,t⟩:=h;exact t.rp (λb z=>.inl z) na
 |P=>exact absurd rfl n
theorem y3.pk (h:y3 K G Z m A ρ σ H u v):Pk K H A u v:=by
 by_cases c:m=.P
 ·subst c;exact h
 ·exact (h.rp c).pk
theorem AK.e (r:cz K G Z A ρ σ H)(s:aG H H')(h:AK K m A H H' u v):y3 K G Z m A ρ σ H' u v:=by
 cases m with
 |S=>exact h
 |P=>exact h
 |O=>
  obtain⟨a,rfl,n,t⟩:=h;exact⟨a,rfl,r.notA n,r.notB n,r.add s n t.mu,t⟩
theorem y3.later (r:cz K G Z A ρ σ H)(h:y3 K G Z m A ρ σ H u v)(x:eO A H H')(s:b=false->ρ'=ρ/\aG H H')(c:m=.P->b=false):Pk K H' A u v:=by
 by_cases d:m=.P
 ·exact h.pk.same (s (c d)).2
 ·exact ((h.rp d).re r.mu x λb z=>.inl z).pk
theorem y3.laterS (r:cz K G Z A ρ σ H)(h:y3 K G Z m A ρ σ H u v)(x:eO A H H')(d:m≠.P):Rp K H' A u v:=(h.rp d).re r.mu x λb z=>.inl z
theorem two {b1 b2:Bool}{ρ1 ρ2:Ev}(h1:b1=false->ρ1=ρ/\aG H H1)(h2:b2=false->ρ2=ρ1/\aG H1 H2):(b1||b2)=false->ρ2=ρ/\aG H H2:=λh=>by
 rw[aak] at h;obtain⟨a,b⟩:=h1 h.1;obtain⟨c,d⟩:=h2 h.2;exact⟨c.trans a,b.trans d⟩
theorem qZ {b1:Bool}{ρ1:Ev}(h1:b1=false->ρ1=ρ/\aG H H1)(h2:aG H1 H2):b1=false->ρ1=ρ/\aG H H2:=λh=>⟨(h1 h).1,(h1 h).2.trans h2⟩
end
noncomputable def af (i:Nat):Ev->R (U×Ev):=λρ=>match ρ[i]? with
 |some (some u)=>.ok (u,ρ)
 |_=>.stk
noncomputable def gC (u:U):Ev->R (U×Ev):=λρ=>.ok (u,ρ)
section
variable {e a b:YV}{es:List YV}
theorem O2 {b:Bool}{m:Md}(h:PE X e (Ls i))(c:G.is i=false):DE X G e false .S (af i):=by
 refine⟨h.to λσ H Q ⟨Z,A,ρ,r,f⟩=>?_⟩;unfold af at f;split at f
 ·rename_i u hu;obtain⟨v,h1,h2⟩:=r.val c hu;exact⟨v,h1,f v H r eO.refl (λ_=>⟨rfl,aG.refl _⟩) h2⟩
 ·exact f.elim
theorem aj (i:Nat)(hN:X.N[i]? = some x:=by rfl)(hv:Dx X.env.scope x:=by first|exact Or.inl rfl|exact Or.inr (Or.inl rfl)|exact Or.inr (Or.inr rfl))(hd:(x==("__debug__":Str))=false:=by decide)
  (ny:(x==("__classdict__":Str))=false:=by decide) (c:G.is i=false:=by rfl):DE X G (.Name x pos) false .S (af i):=O2 (b:=false) (m:=.S) (i4 hN hv hd ny) c
theorem gf (i:Nat)(hN:X.N[i]? = some x:=by rfl)(hv:Dx X.env.scope x:=by first|exact Or.inl rfl|exact Or.inr (Or.inl rfl)|exact Or.inr (Or.inr rfl))(hd:(x==("__debug__":Str))=false:=by decide)
  (ny:(x==("__classdict__":Str))=false:=by decide) (c:G.is i=true:=by rfl):DE X G (.Name x pos) false .P (af i):=by
 refine⟨(i4 hN hv hd ny).to λσ H Q ⟨Z,A,ρ,r,f⟩=>?_⟩;unfold af at f;split at f
 ·rename_i u hu;obtain⟨a,h1,_,_,_,h2⟩:=r.own c hu;exact⟨.ref a,h1,f _ H r eO.refl (λ_=>⟨rfl,aG.refl _⟩) h2.pk⟩
 ·exact f.elim
theorem O3 (h:PE X e (tC v))(r:∀K H A,Rp K H A u v):DE X G e false .S (gC u):=by
 refine⟨h.to λσ H Q ⟨Z,A,ρ,q,f⟩=>?_⟩;exact f v H q eO.refl (λ_=>⟨rfl,aG.refl _⟩) (r _ _ _)
theorem aq {i j pos}:DE X G (.Constant (.int i) j pos) false .S (gC (.int i)):=O3 DL λ_ _ _=>by unfold Rp;rfl
theorem AL {i j pos}:DE X G (.Constant (.bool i) j pos) false .S (gC (.bl i)):=O3 Of λ_ _ _=>by unfold Rp;rfl
noncomputable def aY (p:U->U->R U)(g1 g2:Ev->R (U×Ev)):Ev->R (U×Ev):=λρ=>(g1 ρ).bind λx=>(g2 x.2).bind λy=>(p x.1 y.1).bind λz=>.ok (z,y.2)
def g_ (K:WD)(r:R2)(m:Md)(p:U->U->R U):Prop:=∀A H x y u w z Q,Pk K H A u x->Pk K H A w y->(∀a,A a->Mu (H a))->p u w=.ok z->(∀v H',aG H H'->AK K m A H H' z v->Q v H')->r x y H Q
variable {b1 b2 b3:Bool}{m1 m2 m3 mr:Md}{g1 g2 g3:Ev->R (U×Ev)}
theorem mK {p:U->U->R U}(hp:g_ X.K r mr p)(hm:m1=.P->b2=false){Q:VK}(h:tD X.K G (b1||b2) mr (aY p g1 g2) σ H Q) :
  Ot r (tD X.K G b1 m1 g1) (tD X.K G b2 m2 g2) σ H Q:=by
 obtain⟨Z,A,ρ,q,f⟩:=h;unfold aY at f;refine⟨Z,A,ρ,q,?_⟩;cases e1:g1 ρ with
 |stk=>rw[e1] at f;exact f.elim
 |exc=>rw[e1] at f;exact f.elim
 |ok x=>
  obtain⟨u,ρ1⟩:=x;rw[e1] at f;intro v1 H1 q1 x1 s1 qD;refine⟨Z,A,ρ1,q1,?_⟩;cases e2:g2 ρ1 with
  |stk=>simp only[R.bind,e2] at f;exact f.elim
  |exc=>simp only[R.bind,e2] at f;exact f.elim
  |ok y=>
   obtain⟨w,ρ2⟩:=y;simp only[R.bind,e2] at f;intro v2 H2 q2 x2 s2 yV;cases e3:p u w with
   |stk=>rw[e3] at f;exact f.elim
   |exc=>rw[e3] at f;exact f.elim
   |ok z=>
    rw[e3] at f;refine hp A H2 v1 v2 u w z Q (qD.later q1 x2 s2 hm) yV.pk q2.mu e3 λv H' sm vm=>?_;exact f v H' (q2.same sm) ((x1.trans x2).trans (eO.same sm)) (qZ (two s1 s2) sm) (vm.e q2 sm)
theorem aQ {op:Operator}{p:U->U->R U}(ho:lL X (aar op) r)(hp:g_ X.K r mr p)(ha:DE X G a b1 m1 g1)(hb:DE X G b b2 m2 g2)(hm:m1=.P->b2=false:=by first|exact λ_=>rfl|exact λh=>nomatch h) :
  DE X G (.BinOp a op b pos) (b1||b2) mr (aY p g1 g2):=⟨(Ou ho ha.un hb.un).to λ_ _ _=>mK hp hm⟩
theorem L9 {p:U->U->R U}(ho:lL X (Zc op) r)(hp:g_ X.K r mr p)(ha:DE X G a b1 m1 g1)(hb:DE X G b b2 m2 g2)(hk:Z9 op b=false)(hm:m1=.P->b2=false:=by first|exact λ_=>rfl|exact λh=>nomatch h) :
  DE X G (.Compare a [op] [b] pos) (b1||b2) mr (aY p g1 g2):=⟨(HK ho ha.un hb.un hk).to λ_ _ _=>mK hp hm⟩
theorem cO {p:U->U->R U}(ho:Hj X r)(hp:g_ X.K r mr p)(ha:DE X G a b1 m1 g1)(hb:DE X G b b2 m2 g2)(hs:AH b)(hm:m1=.P->b2=false:=by first|exact λ_=>rfl|exact λh=>nomatch h) :
  DE X G (.Subscript a b pos) (b1||b2) mr (aY p g1 g2):=⟨(OJ ho ha.un hb.un hs).to λ_ _ _=>mK hp hm⟩
noncomputable def gB (g:Ev->R (U×Ev)):Ev->R (Bool×Ev):=λρ=>(g ρ).bind λx=>match x.1 with
 | .bl c=>.ok (c,x.2)
 |_=>.stk
theorem uC {g:Ev->R (U×Ev)}{m:Md}{Q:Bool->Hp->Prop}(h:Ih X.K G b1 (gB g) σ H Q):tD X.K G b1 m g σ H λx H'=>∃k,x=.bl k/\Q k H':=by
 obtain⟨Z,A,ρ,q,f⟩:=h;refine⟨Z,A,ρ,q,?_⟩;unfold gB at f;cases e1:g ρ with
 |stk=>rw[e1] at f;exact f.elim
 |exc=>rw[e1] at f;exact f.elim
 |ok x=>
  obtain⟨u,ρ1⟩:=x;rw[e1] at f;intro v H1 q1 x1 s1 vm;cases u with
  |bl c=>
   have e:v=.bl c:=by have:=vm.pk;unfold Pk at this;exact this
   exact⟨c,e,f H1 q1 x1 s1⟩
  |_=>exact f.elim
theorem Ep (h:DE X G e b1 m1 g1)(he:∀whole,isTrue e X.env whole=(do let v ←whole;standAt e.pos;holding [v] (truthy v)):=by intro _;rfl):DT X G e b1 (gB g1):=⟨(Lu h.un he).to λ_ _ _ h=>uC h⟩
theorem dR {p:U->U->R U}(ho:lL X (Zc op) r)(hp:g_ X.K r mr p)(ha:DE X G a b1 m1 g1)(hb:DE X G b b2 m2 g2)(hk:Z9 op b=false)(hm:m1=.P->b2=false:=by first|exact λ_=>rfl|exact λh=>nomatch h) :
  DT X G (.Compare a [op] [b] pos) (b1||b2) (gB (aY p g1 g2)):=⟨(HL ho ha.un hb.un hk).to λ_ _ _ h=>mK hp hm (uC (m:=mr) h)⟩
end
end L2
namespace L2
section
variable {A':W8->Prop}{ρ':Ev}{b p:Bool}{m:Md}{α:Type}
theorem Ie.bind {x:R α}{k:α->R (U×Ev)}{Q:VK}(f:Ie K G Z A b m ρ σ H (x.bind k) Q):∃a,x=.ok a/\Ie K G Z A b m ρ σ H (k a) Q:=by
 cases x with
 |ok a=>exact⟨a,rfl,f⟩
 |exc=>exact f.elim
 |stk=>exact f.elim
theorem Ig.bind {x:R α}{k:α->R (Bool×Ev)}{Q:Bool->Hp->Prop}(f:Ig K G Z A b ρ σ H (x.bind k) Q):∃a,x=.ok a/\Ig K G Z A b ρ σ H (k a) Q:=by
 cases x with
 |ok a=>exact⟨a,rfl,f⟩
 |exc=>exact f.elim
 |stk=>exact f.elim
theorem Ij.bind {x:R α}{k:α->R (List U×Ev)}{Q:List V->Hp->Prop}(f:Ij K G Z A b p ρ σ H (x.bind k) Q):∃a,x=.ok a/\Ij K G Z A b p ρ σ H (k a) Q:=by
 cases x with
 |ok a=>exact⟨a,rfl,f⟩
 |exc=>exact f.elim
 |stk=>exact f.elim
theorem Pk.bl {c:Bool}(h:Pk K H A (.bl c) v):v=.bl c:=by unfold Pk at h;exact h
theorem Pk.int {i:Int}(h:Pk K H A (.int i) v):v=.int i:=by unfold Pk at h;exact h
theorem Pk.str {i:Str}(h:Pk K H A (.str i) v):v=.str i:=by unfold Pk at h;exact h
theorem lC {c:Bool}:Rp K H A (.bl c) (.bl c):=by unfold Rp;rfl
theorem di {c:Int}:Rp K H A (.int c) (.int c):=by unfold Rp;rfl
theorem y3.ofS (h:Rp K H A u v):y3 K G Z .S A ρ σ H u v:=h
theorem q_:Rp K H A .non .non:=by unfold Rp;rfl
theorem L_ {c:Str}:Rp K H A (.str c) (.str c):=by unfold Rp;rfl
theorem aE.pks:∀{us:List U} {vs:List V},aE K H A us vs->zo K H A us vs
 | [],_,h=>by unfold aE at h;unfold zo;exact h
 |u::us,_,h=>by
  unfold aE at h;unfold zo;obtain⟨x,r,e,z,q⟩:=h;exact⟨x,r,e,z.pk,aE.pks q⟩
end
section
variable {e a b:YV}{es rest:List YV}{b1 b2 b3:Bool}{m1 m2 m3 mr:Md}{g1 g2 g3:Ev->R (U×Ev)}{h1 h2:Ev->R (Bool×Ev)}
noncomputable def Sa (g1 g2:Ev->R (Bool×Ev)):Ev->R (Bool×Ev):=λρ=>(g1 ρ).bind λx=>if x.1=true then g2 x.2 else .ok (false,x.2)
noncomputable def O4 (g1 g2:Ev->R (Bool×Ev)):Ev->R (Bool×Ev):=λρ=>(g1 ρ).bind λx=>if x.1=true then .ok (true,x.2) else g2 x.2
noncomputable def Ma (g1:Ev->R (Bool×Ev)):Ev->R (Bool×Ev):=λρ=>(g1 ρ).bind λx=>.ok (!x.1,x.2)
structure DW (X:Cx)(G:Gm)(e:YV)(b:Bool)(g:Ev->R (Bool×Ev)):Prop where
 un:PW X e (Ih X.K G b g)
theorem DW.dt (h:DW X G e b1 h1):DT X G e b1 h1:=⟨PW.pt h.un⟩
theorem Ik {Q:Bool->Hp->Prop}(h:Ih X.K G (b1||b2) (O4 h1 h2) σ H Q):Tu (Ih X.K G b1 h1) (Ih X.K G b2 h2) σ H Q:=by
 obtain⟨Z,A,ρ,q,f⟩:=h;obtain⟨⟨k,ρ1⟩,e1,f⟩:=f.bind;refine⟨Z,A,ρ,q,?_⟩;rw[e1];intro H1 q1 x1 s1;cases k with
 |false=>
  rw[hV WA] at f ⊢;refine⟨Z,A,ρ1,q1,?_⟩;dsimp only at f;cases e2:h2 ρ1 with
  |ok y=>rw[e2] at f;exact λH2 q2 x2 s2=>f H2 q2 (x1.trans x2) (two s1 s2)
  |exc=>rw[e2] at f;exact f.elim
  |stk=>rw[e2] at f;exact f.elim
 |true=>
  rw[hZ rfl] at f ⊢;exact f H1 q1 x1 λz=>s1 (aak.mp z).1
theorem Mb (ha:DT X G a b1 h1):DW X G (.BoolOp .Or [a] pos) b1 h1:=⟨Lv ha.un⟩
theorem JS (ha:DT X G a b1 h1)(hb:DW X G (.BoolOp .Or (b::rest) pos) b2 h2):DW X G (.BoolOp .Or (a::b::rest) pos) (b1||b2) (O4 h1 h2):=⟨(Og ha.un hb.un).to λ_ _ _=>Ik⟩
theorem Mc (ha:DT X G a b1 h1):DT X G (.UnaryOp .Not a pos) b1 (Ma h1):=⟨(Lw ha.un).to λσ H Q h=>by
 obtain⟨Z,A,ρ,q,f⟩:=h;obtain⟨⟨k,ρ1⟩,e1,f⟩:=f.bind;refine⟨Z,A,ρ,q,?_⟩;rw[e1];exact λH1 q1 x1 s1=>f H1 q1 x1 s1⟩
noncomputable def Sb (g1 g2:Ev->R (U×Ev)):Ev->R (U×Ev):=λρ=>(gB g1 ρ).bind λx=>if x.1=true then g2 x.2 else .ok (.bl false,x.2)
noncomputable def UO (g1 g2:Ev->R (U×Ev)):Ev->R (U×Ev):=λρ=>(gB g1 ρ).bind λx=>if x.1=true then .ok (.bl true,x.2) else g2 x.2
noncomputable def Sd (g1:Ev->R (U×Ev)):Ev->R (U×Ev):=λρ=>(gB g1 ρ).bind λx=>.ok (.bl (!x.1),x.2)
noncomputable def Q5 (h:Ev->R (Bool×Ev))(g1 g2:Ev->R (U×Ev)):Ev->R (U×Ev):=λρ=>(h ρ).bind λx=>if x.1=true then g1 x.2 else g2 x.2
theorem Er (Vf:m1≠.P:=by decide)(Ob:m2≠.P:=by decide)(hc:DT X G c b1 h1)(ha:DE X G a b2 m1 g1)(hb:DE X G b b3 m2 g2):DE X G (.IfExp c a b pos) (b1||(b2||b3)) .S (Q5 h1 g1 g2):=⟨(DM hc.un ha.un hb.un).to λσ H Q h=>by
 obtain⟨Z,A,ρ,q,f⟩:=h;obtain⟨⟨k,ρ1⟩,e1,f⟩:=f.bind;refine⟨Z,A,ρ,q,?_⟩;rw[e1];intro H1 q1 x1 s1;cases k with
 |true=>
  rw[hZ rfl] at f ⊢;refine⟨Z,A,ρ1,q1,?_⟩;dsimp only at f;cases e2:g1 ρ1 with
  |ok y=>rw[e2] at f;exact λv2 H2 q2 x2 s2 yV=>f v2 H2 q2 (x1.trans x2) (two s1 λz=>s2 (aak.mp z).1) (yV.rp Vf)
  |exc=>rw[e2] at f;exact f.elim
  |stk=>rw[e2] at f;exact f.elim
 |false=>
  rw[hV WA] at f ⊢;refine⟨Z,A,ρ1,q1,?_⟩;dsimp only at f;cases e2:g2 ρ1 with
  |ok y=>rw[e2] at f;exact λv2 H2 q2 x2 s2 yV=>f v2 H2 q2 (x1.trans x2) (two s1 λz=>s2 (aak.mp z).2) (yV.rp Ob)
  |exc=>rw[e2] at f;exact f.elim
  |stk=>rw[e2] at f;exact f.elim⟩
noncomputable def Me (p p':U->U->R U)(g1 g2 g3:Ev->R (U×Ev)):Ev->R (U×Ev):=λρ=>(g1 ρ).bind λx=>(g2 x.2).bind λy=>(p x.1 y.1).bind λz=>match z with
 | .bl k=>if k=true then (g3 y.2).bind λw=>(p' y.1 w.1).bind λz'=>.ok (z',w.2) else .ok (.bl false,y.2)
 |_=>.stk
noncomputable def Q7 (p:U->R U)(g:Ev->R (U×Ev)):Ev->R (U×Ev):=λρ=>(g ρ).bind λx=>(p x.1).bind λz=>.ok (z,x.2)
def Mf (K:WD)(r:V->Hp->VK->Prop)(m:Md)(p:U->R U):Prop:=∀A H x u z Q,Pk K H A u x->(∀a,A a->Mu (H a))->p u=.ok z->(∀v H',aG H H'->AK K m A H H' z v->Q v H')->r x H Q
theorem Il {r:V->Hp->VK->Prop}{p:U->R U}(hp:Mf X.K r mr p){Q:VK}(h:tD X.K G b1 mr (Q7 p g1) σ H Q):Tw r (tD X.K G b1 m1 g1) σ H Q:=by
 obtain⟨Z,A,ρ,q,f⟩:=h;obtain⟨⟨u,ρ1⟩,e1,f⟩:=f.bind;obtain⟨z,e2,f⟩:=f.bind;refine⟨Z,A,ρ,q,?_⟩;rw[e1];intro v1 H1 q1 x1 s1 qD;exact hp A H1 v1 u z Q qD.pk q1.mu e2 λv H' sm vm=>f v H' (q1.same sm) (x1.trans (eO.same sm)) (qZ s1 sm) (vm.e q1 sm)
theorem O5 {op:UnaryOp}{r:V->Hp->VK->Prop}{p:U->R U}(ho:Q2 X (unaryOp op) r)(hp:Mf X.K r mr p)(ha:DE X G a b1 m1 g1):DE X G (.UnaryOp op a pos) b1 mr (Q7 p g1):=⟨(Ov ho ha.un).to λ_ _ _=>Il hp⟩
noncomputable def ak:Ev->R (List U×Ev):=λρ=>.ok ([],ρ)
noncomputable def ae (g:Ev->R (U×Ev))(ga:Ev->R (List U×Ev)):Ev->R (List U×Ev):=λρ=>(g ρ).bind λx=>(ga x.2).bind λy=>.ok (x.1::y.1,y.2)
variable {ga:Ev->R (List U×Ev)}{p:Bool}
theorem ag:DA X G [] false p ak:=⟨qI.to λσ H Q ⟨Z,A,ρ,q,f⟩=>f [] H q eO.refl (λ_=>⟨rfl,aG.refl _⟩) (by unfold Ii;split;exact rfl;exact aE.nil)⟩
theorem aa (ha:DE X G e b1 m1 g1)(hr:DA X G es b2 p ga)(hm:m1=.P->(p=true/\b2=false):=by first|exact λ_=>⟨rfl,rfl⟩|exact λh=>nomatch h)
  (hs:W7 (e::es) X.env=(false,aaj e X.env)::W7 es X.env:=by rfl):DA X G (e::es) (b1||b2) p (ae g1 ga):=⟨(jC ha.un hr.un hs).to λσ H Q h=>by
 obtain⟨Z,A,ρ,q,f⟩:=h;obtain⟨⟨u,ρ1⟩,e1,f⟩:=f.bind;obtain⟨⟨us,ρ2⟩,e2,f⟩:=f.bind;refine⟨Z,A,ρ,q,?_⟩;rw[e1];intro v1 H1 q1 x1 s1 qD;refine⟨Z,A,ρ1,q1,?_⟩;dsimp only at e2;rw[e2];intro vs H2 q2 x2 s2 yV;refine f (v1::vs) H2 q2 (x1.trans x2) (two s1 s2) ?_;unfold Ii at yV ⊢;cases p with
 |true=>
  rw[hZ rfl] at yV ⊢;exact⟨v1,vs,rfl,qD.later q1 x2 s2 (λz=>(hm z).2),yV⟩
 |false=>
  rw[hV WA] at yV ⊢;exact aE.cons (qD.laterS q1 x2 λz=>WA (hm z).1) yV⟩
theorem Ii.pks (h:Ii K p A H us vs):zo K H A us vs:=by
 unfold Ii at h;cases p with
 |true=>rw[hZ rfl] at h;exact h
 |false=>rw[hV WA] at h;exact h.pks
theorem Ii.rps (h:Ii K false A H us vs):aE K H A us vs:=by
 unfold Ii at h;rw[hV WA] at h;exact h
noncomputable def cx (ga:Ev->R (List U×Ev)):Ev->R (U×Ev):=λρ=>(ga ρ).bind λx=>if x.1.length<=WC then .ok (.tup x.1,x.2) else .stk
noncomputable def gE (ga:Ev->R (List U×Ev)):Ev->R (U×Ev):=λρ=>(ga ρ).bind λx=>if x.1.length<=WC then .ok (.lst x.1,x.2) else .stk
theorem cC {p:W8}(h:H p=none)(o:HO):aG H (cD H p o):=λb u q=>by rw[aS (bK q h)];exact q
theorem nO {a:W8}(h:aE K H A us vs)(n:H a=none)(l:us.length<=WC):Rp K (cD H a (.tup vs)) A (.tup us) (.ref a):=by
 unfold Rp;exact⟨a,vs,rfl,bg,l,h.same (cC n _)⟩
theorem bT {a:W8}(m:∀b,A b->Mu (H b))(h:aE K H A us vs)(n:H a=none)(l:us.length<=WC):ko K (cD H a (.lst vs)) (λb=>A b\/b=a) (.lst us) a:=
 ⟨vs,bg,l,h.re m (eO.same (cC n _)) λb z=>by
  rcases z with z|z
  ·exact .inl z
  ·subst z;exact .inr n⟩
theorem dj {x1}(h:DA X G es b1 false ga):DE X G (.Tuple es x1 pos) b1 .S (cx ga):=⟨(LM h.un).to λσ H Q h=>by
 obtain⟨Z,A,ρ,q,f⟩:=h;obtain⟨⟨us,ρ1⟩,e1,f⟩:=f.bind;refine⟨Z,A,ρ,q,?_⟩;rw[e1];intro vs H1 q1 x1 s1 qD;dsimp only at f;split at f
 ·rename_i l;refine⟨by rw[←qD.rps.length];exact l,λa n=>?_⟩;exact f _ _ (q1.same (cC n _)) (x1.trans (eO.same (cC n _))) (qZ s1 (cC n _)) (y3.ofS (nO qD.rps n l))
 ·exact f.elim⟩
theorem ic (h:DA X G es b1 false ga):DE X G (.List es pos) b1 .O (gE ga):=⟨(LN h.un).to λσ H Q h=>by
 obtain⟨Z,A,ρ,q,f⟩:=h;obtain⟨⟨us,ρ1⟩,e1,f⟩:=f.bind;refine⟨Z,A,ρ,q,?_⟩;rw[e1];intro vs H1 q1 x1 s1 qD;dsimp only at f;split at f
 ·rename_i l;refine⟨by rw[←qD.rps.length];exact l,λa n=>?_⟩;exact f _ _ (q1.same (cC n _)) (x1.trans (eO.same (cC n _))) (qZ s1 (cC n _)) (AK.e q1 (cC n _) ⟨a,rfl,n,bT q1.mu qD.rps n l⟩)
 ·exact f.elim⟩
noncomputable def i5 (p:List U->R U)(ga:Ev->R (List U×Ev)):Ev->R (U×Ev):=λρ=>(ga ρ).bind λx=>(p x.1).bind λz=>.ok (z,x.2)
def mL (K:WD)(r:List V->Hp->VK->Prop)(m:Md)(p:List U->R U):Prop:=∀A H vs us z Q,zo K H A us vs->(∀a,A a->Mu (H a))->p us=.ok z->(∀v H',aG H H'->AK K m A H H' z v->Q v H')->r vs H Q
theorem vA {r:List V->Hp->VK->Prop}{f:List U->R U}(hp:mL X.K r mr f){Q:VK}(h:tD X.K G b1 mr (i5 f ga) σ H Q):R1 r (R_ X.K G b1 p ga) σ H Q:=by
 obtain⟨Z,A,ρ,q,f⟩:=h;obtain⟨⟨us,ρ1⟩,e1,f⟩:=f.bind;obtain⟨z,e2,f⟩:=f.bind;refine⟨Z,A,ρ,q,?_⟩;rw[e1];intro vs H1 q1 x1 s1 qD;exact hp A H1 vs us z Q qD.pks q1.mu e2 λv H' sm vm=>f v H' (q1.same sm) (x1.trans (eO.same sm)) (qZ s1 sm) (vm.e q1 sm)
theorem bH {id:String}{p1:Pos}{r:List V->Hp->VK->Prop}{f:List U->R U}(hc:eE X (.builtin id) r)(hp:mL X.K r mr f)(hg:Gl X x)(hm:X.mg x=none)(hv:XM x=some (.builtin id))(ha:DA X G (e::es) b1 true ga)(hn:x≠"__name__":=by decide)(Av:(x==("__debug__":Str))=false:=by decide)
  (he:W7 (e::es) X.env=(false,aaj e X.env)::W7 es X.env:=by rfl) (qC:(Zy pos (W7 es X.env)).any (·.1)=false:=by rfl):DE X G (.Call (.Name x p1) (e::es) [] pos) b1 mr (i5 f ga):=⟨(qJ hc hg hm hv ha.un hn Av he qC).to λ_ _ _=>vA hp⟩
theorem bh {T:String}{p1:Pos}{r:List V->Hp->VK->Prop}{f:List U->R U}(hc:eE X (.type T) r)(hp:mL X.K r mr f)(hg:Gl X x)(hm:X.mg x=none)(hv:XM x=some (.type T))(ha:DA X G (e::es) b1 true ga)(hn:x≠"__name__":=by decide)(Av:(x==("__debug__":Str))=false:=by decide)
  (he:W7 (e::es) X.env=(false,aaj e X.env)::W7 es X.env:=by rfl) (qC:(Zy pos (W7 es X.env)).any (·.1)=false:=by rfl):DE X G (.Call (.Name x p1) (e::es) [] pos) b1 mr (i5 f ga):=⟨(gW hc hg hm hv ha.un hn Av he qC).to λ_ _ _=>vA hp⟩
end
end L2
namespace L2
section
variable {A':W8->Prop}{ρ':Ev}{b p:Bool}{m:Md}{α:Type}
theorem ko.mono (n:∀b,A' b->A b)(h:ko K H A u a):ko K H A' u a:=by
 cases u<;>(unfold ko at h ⊢)
 case lst us=>obtain⟨xs,q,l,z⟩:=h;exact⟨xs,q,l,z.mono n⟩
 case dct ks us=>obtain⟨xs,q,l,z⟩:=h;exact⟨xs,q,l,z.mono n⟩
 all_goals exact h.elim
theorem cG {α:Type}{l:List (Option α)}{x:Option α}{y:α}(h:(l.set i x)[j]? = some (some y)):(i=j/\x=some y)\/(i≠j/\l[j]? = some (some y)):=by
 by_cases e:i=j
 ·subst e;rw[List.getElem?_set_self'] at h;refine .inl ⟨rfl,?_⟩;cases q:l[i]? with
  |none=>rw[q] at h;cases h
  |some w=>rw[q] at h;exact W6 h
 ·rw[Xq e] at h;exact .inr ⟨e,h⟩
theorem qi {α:Type}{l l':List (Option α)}{x:α}{β:Type}{k:List (Option β)}{y:Option β}{z:β}(hl:k.length=l.length)(h:(k.set i y)[i]? = some (some z)):(l.set i (some x))[i]? = some (some x):=by
 have:i<l.length:=by
  have:=(WE.mp h).1;rw[Yl] at this;lia
 rw[aaX this]
theorem cz.set (r:cz K G Z A ρ σ H)(c:G.is i=false)(h:Rp K H A u v):cz K G Z A (ρ.set i (some u)) (σ.set i (some v)) H where
 slot:=λj w hj=>by
  rcases cG hj with⟨rfl,e⟩|⟨ne,e⟩
  ·cases e;refine⟨v,qi (l':=σ) r.len hj,?_⟩;rw[hV (by rw[c];exact WA)];exact h
  ·rw[Xq ne];exact r.slot j w e
 dis:=λj k w w' a cj ck ne hj hk sj sk=>by
  rcases cG hj with⟨rfl,_⟩|⟨n1,e1⟩
  ·rw[c] at cj;cases cj
  ·rcases cG hk with⟨rfl,_⟩|⟨n2,e2⟩
   ·rw[c] at ck;cases ck
   ·rw[Xq n1] at sj;rw[Xq n2] at sk;exact r.dis j k w w' a cj ck ne e1 e2 sj sk
 mu:=r.mu
 sup:=r.sup
 out:=r.out
 bas:=r.bas
 io0:=λh0=>by
  obtain⟨a,b⟩:=r.io0 h0;refine⟨?_,b⟩;have:i≠0:=λz=>by subst z;rw[b] at c;cases c
  rw[Xq this];exact a
 len:=by rw[Yl,Yl];exact r.len
theorem cz.drop (r:cz K G Z A ρ σ H)(i:Nat):cz K G Z A (ρ.set i none) σ H where
 slot:=λj w hj=>by
  rcases cG hj with⟨rfl,e⟩|⟨ne,e⟩
  ·cases e
  ·exact r.slot j w e
 dis:=λj k w w' a cj ck ne hj hk sj sk=>by
  rcases cG hj with⟨rfl,e⟩|⟨n1,e1⟩
  ·cases e
  ·rcases cG hk with⟨rfl,e⟩|⟨n2,e2⟩
   ·cases e
   ·exact r.dis j k w w' a cj ck ne e1 e2 sj sk
 mu:=r.mu
 sup:=r.sup
 out:=r.out
 bas:=r.bas
 io0:=r.io0
 len:=by rw[Yl];exact r.len
theorem cz.setO (r:cz K G Z A ρ σ H)(c:G.is i=true)(hi:G.io=true->i≠0)(na:¬A a)(nb:Z.B a=none)(r':cz K G Z (λb=>A b\/b=a) ρ σ H)(h:ko K H (λb=>A b\/b=a) u a) :
  cz K G Z (λb=>A b\/b=a) (ρ.set i (some u)) (σ.set i (some (.ref a))) H where
 slot:=λj w hj=>by
  rcases cG hj with⟨rfl,e⟩|⟨ne,e⟩
  ·cases e;refine⟨.ref a,qi (l':=σ) r.len hj,?_⟩;rw[hZ c];exact⟨a,rfl,.inr rfl,nb,.inl λz=>na (r.sup a z),h⟩
  ·rw[Xq ne];exact r'.slot j w e
 dis:=λj k w w' b cj ck ne hj hk sj sk=>by
  have key:∀k w',G.is k=true->i≠k->ρ[k]? = some (some w')->σ[k]? ≠ some (some (.ref a)):=λk w' ck _ e q=>by
   obtain⟨b,h1,h2,_⟩:=r.own ck e;rw[h1] at q;cases q;exact na h2
  rcases cG hj with⟨rfl,e1⟩|⟨n1,e1⟩
  ·rcases cG hk with⟨rfl,_⟩|⟨n2,e2⟩
   ·exact ne rfl
   ·rw[qi (l':=σ) r.len hj] at sj;cases sj;rw[Xq n2] at sk;exact key k w' ck n2 e2 sk
  ·rcases cG hk with⟨rfl,e2⟩|⟨n2,e2⟩
   ·rw[qi (l':=σ) r.len hk] at sk;cases sk;rw[Xq n1] at sj;exact key j w cj n1 e1 sj
   ·rw[Xq n1] at sj;rw[Xq n2] at sk;exact r.dis j k w w' b cj ck ne e1 e2 sj sk
 mu:=r'.mu
 sup:=r'.sup
 out:=r'.out
 bas:=r'.bas
 io0:=λh0=>by
  obtain⟨a,b⟩:=r.io0 h0;exact⟨by rw[Xq (hi h0)];exact a,b⟩
 len:=by rw[Yl,Yl];exact r.len
theorem cz.free (r:cz K G Z A ρ σ H)(c:G.is i=true)(hi:G.io=true->i≠0)(h:ρ[i]? = some (some u)):∃a A',σ[i]? = some (some (.ref a))/\cz K G Z A' (ρ.set i none) σ H/\Rp K H A' u (.ref a):=by
 obtain⟨a,h1,h2,h3,h4,h5⟩:=r.own c h;have na:¬Z.A0 a:=by
  rcases h4 with h4|⟨h4,h6⟩
  ·exact h4
  ·exact absurd h6 (hi h4)
 have sub:∀b,(A b/\b≠a)->A b:=λb z=>z.1;refine⟨a,λb=>A b/\b≠a,h1,?_,h5.rp sub λz=>z.2 rfl⟩;exact {
  slot:=λj w hj=>by
   rcases cG hj with⟨rfl,e⟩|⟨ne,e⟩
   ·cases e
   ·obtain⟨v,s1,s2⟩:=r.slot j w e;refine⟨v,s1,?_⟩;by_cases cj:G.is j=true
    ·rw[hZ cj] at s2 ⊢;obtain⟨b,e1,e2,e3,e4,e5⟩:=s2;refine⟨b,e1,⟨e2,λz=>?_⟩,e3,e4,e5.mono sub⟩;subst z e1;exact r.dis i j u w b c cj ne h e h1 s1
    ·rw[hV cj] at s2 ⊢;exact s2.mono sub
  dis:=(r.drop i).dis
  mu:=λb z=>r.mu b z.1
  sup:=λb z=>⟨r.sup b z,λe=>na (e▸z)⟩
  out:=λb z=>r.out b z.1
  bas:=r.bas
  io0:=r.io0
  len:=by rw[Yl];exact r.len}
theorem cz.put (r:cz K G Z A ρ σ H){w:U}(c:G.is i=true)(h:ρ[i]? = some (some u))(ha:σ[i]? = some (some (.ref a)))(e:∀b o,b≠a->H b=some o->H' b=some o)(t:ko K H' A w a) :
  cz K G Z A (ρ.set i (some w)) σ H':=by
 obtain⟨a',h1,h2,h3,h4,h5⟩:=r.own c h;rw[ha] at h1;cases h1;have x:eO A H H':=λb o nb z=>e b o (λq=>nb (q▸h2)) z;exact {
  slot:=λj y hj=>by
   rcases cG hj with⟨rfl,q⟩|⟨ne,q⟩
   ·cases q;refine⟨.ref a,ha,?_⟩;rw[hZ c];exact⟨a,rfl,h2,h3,h4,t⟩
   ·obtain⟨v,s1,s2⟩:=r.slot j y q;refine⟨v,s1,?_⟩;by_cases cj:G.is j=true
    ·rw[hZ cj] at s2 ⊢;obtain⟨b,e1,e2,e3,e4,e5⟩:=s2;refine⟨b,e1,e2,e3,e4,e5.re r.mu x (λb z=>.inl z) λo z=>e b o (λq'=>?_) z⟩;subst q' e1;exact r.dis i j u y b c cj ne h q ha s1
    ·rw[hV cj] at s2 ⊢;exact s2.re r.mu x λb z=>.inl z
  dis:=λj k y y' b cj ck ne hj hk sj sk=>by
   have f:∀j y,(ρ.set i (some w))[j]? = some (some y)->∃y',ρ[j]? = some (some y'):=λj y hj=>by
    rcases cG hj with⟨rfl,q⟩|⟨ne,q⟩
    ·exact⟨u,h⟩
    ·exact⟨y,q⟩
   obtain⟨y1,hj⟩:=f j y hj;obtain⟨y2,hk⟩:=f k y' hk;exact r.dis j k y1 y2 b cj ck ne hj hk sj sk
  mu:=λb z=>by
   by_cases q:b=a
   ·subst q;exact t.mu
   ·have m:=r.mu b z;obtain⟨o,z⟩:=m.ex;rw[e b o q z,←z];exact m
  sup:=r.sup
  out:=r.out
  bas:=λb o z=>e b o (λq=>by subst q;rw[h3] at z;cases z) (r.bas b o z)
  io0:=r.io0
  len:=by rw[Yl];exact r.len}
end
def O6 (K:WD)(m:Md)(A:W8->Prop)(H:Hp):R U->VK->Prop
 | .ok u,Q=>∀v H',aG H H'->AK K m A H H' u v->Q v H'
 |_,_=>False
noncomputable def zp {α:Type}(n:Nat)(g:List U->R α)(us:List U):R α:=if us.length=n then g us else .stk
def gF (K:WD)(n:Nat)(f:List U->R U)(m:Md):Sp:=λvs H Q _=>∃us A,aE K H A us vs/\(∀a,A a->Mu (H a))/\O6 K m A H (zp n f us) Q
def Es (K:WD)(n:Nat)(f:List U->R (U×U)):Sp:=λvs H Q _=>∃u0 us a0 vs' A,vs=.ref a0::vs'/\A a0/\ko K H A u0 a0/\aE K H A us vs'/\(∀a,A a->Mu (H a))/\match zp n f (u0::us) with
 | .ok (u,w)=>∀v H',(∀b o,b≠a0->H b=some o->H' b=some o)->ko K H' A w a0->Rp K H' A u v->Q v H'
 |_=>False
section
variable {e a b:YV}{es rest:List YV}{p1:Pos}{b1 b2 b3:Bool}{m1 m2 m3 mr:Md}{g1 g2 g3:Ev->R (U×Ev)}{h1 h2:Ev->R (Bool×Ev)}{ga:Ev->R (List U×Ev)}
noncomputable def jh (n:Nat)(f:List U->R U)(ga:Ev->R (List U×Ev)):Ev->R (U×Ev):=λρ=>(ga ρ).bind λx=>(zp n f x.1).bind λz=>.ok (z,x.2)
theorem aH {f:List U->R U}(F:Fn X.prog X.w X.K X.mg X.base x k ps (gF X.K n f mr))(hr:eQ k X.A)(ha:DA X G (e::es) b1 false ga)(hg:Gl X x:=by rfl)(Av:(x==("__debug__":Str))=false:=by decide)(he:W7 (e::es) X.env=(false,aaj e X.env)::W7 es X.env:=by rfl)(qC:(Zy pos (W7 es X.env)).any (·.1)=false:=by rfl):DE X G (.Call (.Name x p1) (e::es) [] pos) b1 mr (jh n f ga):=⟨(xu F hr ha.un hg Av he qC).to λσ H Q h=>by
 obtain⟨Z,A,ρ,q,f⟩:=h;obtain⟨⟨us,ρ1⟩,e1,f⟩:=f.bind;obtain⟨z,e2,f⟩:=f.bind;refine⟨Z,A,ρ,q,?_⟩;rw[e1];intro vs H1 q1 x1 s1 qD;show gF _ _ _ _ _ _ _ _;rw[Xr];refine⟨us,A,qD.rps,q1.mu,?_⟩;dsimp only at e2;rw[e2];exact λv H' sm vm=>f v H' (q1.same sm) (x1.trans (eO.same sm)) (qZ s1 sm) (vm.e q1 sm)⟩
noncomputable def live (ρ:Ev)(i:Nat):Bool:=match ρ[i]? with
 |some (some _)=>true
 |_=>false
theorem vB (h:live ρ i=true):∃u,ρ[i]? = some (some u):=by
 unfold live at h;split at h
 ·rename_i u hu;exact⟨u,hu⟩
 ·cases h
noncomputable def qj (n i:Nat)(f:List U->R (U×U))(ga:Ev->R (List U×Ev)):Ev->R (U×Ev):=λρ=>if live ρ i=true then (ga ρ).bind λx=>match x.2[i]? with
 |some (some u0)=>(zp n f (u0::x.1)).bind λz=>.ok (z.1,x.2.set i (some z.2))
 |_=>.stk
 else .stk
theorem bL {y:Str}{f:List U->R (U×U)}(F:Fn X.prog X.w X.K X.mg X.base x k ps (Es X.K n f))(hr:eQ k X.A)(ha:DA X G es b1 false ga)(hN:X.N[i]? = some y:=by rfl)(hv:Dx X.env.scope y:=by first|exact Or.inl rfl|exact Or.inr (Or.inl rfl)|exact Or.inr (Or.inr rfl))(c:G.is i=true:=by rfl)(hd:(y==("__debug__":Str))=false:=by decide)(ny:(y==("__classdict__":Str))=false:=by decide)(hs:W7 (.Name y p2::es) X.env=(false,aaj (.Name y p2) X.env)::W7 es X.env:=by rfl)(hg:Gl X x:=by rfl)(Av:(x==("__debug__":Str))=false:=by decide)(qC:(Zy pos (W7 es X.env)).any (·.1)=false:=by rfl):DE X G (.Call (.Name x p1) (.Name y p2::es) [] pos) true .S (qj n i f ga):=⟨(xu F hr (jC (i4 hN hv hd ny) ha.un hs) hg Av hs qC).to λσ H Q h=>by
 obtain⟨Z,A,ρ,q,f⟩:=h;unfold qj at f;split at f
 ·rename_i hl;obtain⟨u00,hu0⟩:=vB hl;obtain⟨a0,h0,_⟩:=q.own c hu0;obtain⟨⟨us,ρ1⟩,e1,f⟩:=f.bind;dsimp only at f;split at f
  ·rename_i u0 hu;obtain⟨⟨z,w⟩,e2,f⟩:=f.bind;refine⟨.ref a0,h0,Z,A,ρ,q,?_⟩;rw[e1];intro vs H1 q1 x1 s1 qD;obtain⟨a0',k1,k2,_,_,k3⟩:=q1.own c hu;rw[h0] at k1;cases k1;show Es _ _ _ _ _ _ _;rw[Xr];refine⟨u0,us,a0,vs,A,rfl,k2,k3,qD.rps,q1.mu,?_⟩;rw[e2];intro v H' em tp rp;exact f v H' (q1.put c hu h0 em tp) (x1.trans λb o nb z=>em b o (λy=>nb (y▸k2)) z) (λz=>nomatch z) rp
  ·exact f.elim
 ·exact f.elim⟩
def Et (K:WD)(T:String)(r:V->List V->Hp->VK->Prop)(p:U->List U->R (U×U)):Prop:=∀A H a u vs us z w Q,ko K H A u a->A a->aE K H A us vs->(∀a,A a->Mu (H a))->p u us=.ok (z,w)->
 (∀v H',(∀b o,b≠a->H b=some o->H' b=some o)->ko K H' A w a->Rp K H' A z v->Q v H')->r (.ref a) vs H Q
noncomputable def CC:U->String->Bool
 | .lst _,T=>T=="list"
 |_,_=>false
theorem Mg {a:W8}{T:String}(h:ko K H A u a)(t:CC u T=true):R3 K T (.ref a) H:=by
 cases u<;>(unfold CC at t;unfold ko at h)
 case lst us=>
  obtain⟨xs,q,_⟩:=h;exact .inl ⟨by simpa using t,xs,.inl (.inl q)⟩
 all_goals cases t
noncomputable def gM (T:String)(i:Nat)(p:U->List U->R (U×U))(ga:Ev->R (List U×Ev)):Ev->R (U×Ev):=λρ=>match ρ[i]? with
 |some (some u1)=>if CC u1 T=true then (ga ρ).bind λx=>match x.2[i]? with
  |some (some u0)=>(p u0 x.1).bind λz=>.ok (z.1,x.2.set i (some z.2))
  |_=>.stk
  else .stk
 |_=>.stk
theorem Eu {T:String}{r:V->List V->Hp->VK->Prop}{p:U->List U->R (U×U)}(hp:Et X.K T r p)(c:G.is i=true){Q:VK}(h:tD X.K G true .S (gM T i p ga) σ H Q) :
  TC X.K T r (Ls i) (R_ X.K G b1 false ga) σ H Q:=by
 obtain⟨Z,A,ρ,q,f⟩:=h;unfold gM at f;split at f
 ·rename_i u1 mn;split at f
  ·rename_i ht;obtain⟨a0,h0,_,_,_,t0⟩:=q.own c mn;obtain⟨⟨us,ρ1⟩,e1,f⟩:=f.bind;dsimp only at f;split at f
   ·rename_i u0 hu;obtain⟨⟨z,w⟩,e2,f⟩:=f.bind;refine⟨.ref a0,h0,Mg t0 ht,Z,A,ρ,q,?_⟩;rw[e1];intro vs H1 q1 x1 s1 qD;obtain⟨a0',k1,k2,_,_,k3⟩:=q1.own c hu;rw[h0] at k1;cases k1;exact hp A H1 a0 u0 vs us z w Q k3 k2 qD.rps q1.mu e2 λv H' em tp rp=>f v H' (q1.put c hu h0 em tp) (x1.trans λb o nb z=>em b o (λy=>nb (y▸k2)) z) (λz=>nomatch z) rp
   ·exact f.elim
  ·exact f.elim
 ·exact f.elim
theorem kq {T id:String}{y name:Str}{gz:Pos}{r:V->List V->Hp->VK->Prop}{p:U->List U->R (U×U)}(pa:PlainAttrs T)(slot:Slot T name id)(S0:typeOf (.builtin id)=pure (.type "method_descriptor"))(hm:JO X id r)(hp:Et X.K T r p)(ha:DA X G (e::es) b1 false ga)(hN:X.N[i]? = some y:=by rfl)(hv:Dx X.env.scope y:=by first|exact Or.inl rfl|exact Or.inr (Or.inl rfl)|exact Or.inr (Or.inr rfl))(c:G.is i=true:=by rfl)(hd:(y==("__debug__":Str))=false:=by decide)(ny:(y==("__classdict__":Str))=false:=by decide)(G6:abA (.Name y p2) name X.env (aaj (.Name y p2) X.env)=aaj (.Name y p2) X.env:=by rfl)(NC:((Zy pos (W7 (e::es) X.env)).all (λx=> !x.1)&&(backToKw pos (keywordEach [] X.env)).all (λx=>x.1.isSome)
   && decide ((e::es).length+([]:List acb).length+(if ([]:List acb).isEmpty then 0 else 1)<30))=true:=by rfl)(G7:(gz.endLine==pos.line)=true:=by rfl)(hs:W7 (e::es) X.env=(false,aaj e X.env)::W7 es X.env:=by rfl)(Aw:(Zy pos (W7 es X.env)).any (·.1)=false:=by rfl) :
  DE X G (.Call (.Attribute (.Name y p2) name gz) (e::es) [] pos) true .S (gM T i p ga):=⟨(OP pa slot S0 hm (i4 hN hv hd ny) ha.un G6 NC G7 hs Aw).to λ_ _ _=>Eu hp c⟩
def Ew (K:WD)(r:V->Option Int->Option Int->Hp->VK->Prop)(m:Md)(p:U->Option Int->Option Int->R U):Prop:=∀A H x u lo hi z Q,Pk K H A u x->(∀a,A a->Mu (H a))->p u lo hi=.ok z->(∀v H',aG H H'->AK K m A H H' z v->Q v H')->r x lo hi H Q
def Se (K:WD)(G:Gm)(Z:Pkg)(A:W8->Prop)(b:Bool)(ρ:Ev)(σ:St)(H:Hp):R (Option Int×Ev)->(Option Int->Hp->Prop)->Prop
 | .ok (c,ρ'),Q=>∀H',cz K G Z A ρ' σ H'->eO A H H'->(b=false->ρ'=ρ/\aG H H')->Q c H'
 |_,_=>False
def UP (K:WD)(G:Gm)(b:Bool)(g:Ev->R (Option Int×Ev)):TO:=λσ H Q=>∃Z A ρ,cz K G Z A ρ σ H/\Se K G Z A b ρ σ H (g ρ) Q
structure DO (X:Cx)(G:Gm)(e:Option YV)(b:Bool)(g:Ev->R (Option Int×Ev)):Prop where
 un:PO X e (UP X.K G b g)
noncomputable def dM:Ev->R (Option Int×Ev):=λρ=>.ok (none,ρ)
noncomputable def cW (g:Ev->R (U×Ev)):Ev->R (Option Int×Ev):=λρ=>(g ρ).bind λx=>match x.1 with
 | .int i=>.ok (some i,x.2)
 |_=>.stk
theorem PO.to {e:Option YV}{t t':TO}(h:PO X e t)(i:∀σ H Q,t' σ H Q->t σ H Q):PO X e t':=λpins s σ H Q I q=>h pins s σ H Q I (i _ _ _ q)
theorem jF:DO X G none false dM:=⟨HU.to λσ H Q ⟨Z,A,ρ,q,f⟩=>f H q eO.refl λ_=>⟨rfl,aG.refl _⟩⟩
theorem gI (h:DE X G e b1 m1 g1):DO X G (some e) b1 (cW g1):=⟨(HV h.un).to λσ H Q h00=>by
 obtain⟨Z,A,ρ,q,f⟩:=h00;refine⟨Z,A,ρ,q,?_⟩;unfold cW at f;cases e1:g1 ρ with
 |stk=>rw[e1] at f;exact f.elim
 |exc=>rw[e1] at f;exact f.elim
 |ok x=>
  obtain⟨u,ρ1⟩:=x;rw[e1] at f;intro v H1 q1 x1 s1 vm;cases u with
  |int c=>exact⟨c,vm.pk.int,f H1 q1 x1 s1⟩
  |_=>exact f.elim⟩
noncomputable def rf (p:U->Option Int->Option Int->R U)(g:Ev->R (U×Ev))(lo hi:Ev->R (Option Int×Ev)):Ev->R (U×Ev):=λρ=>(g ρ).bind λx=>(lo x.2).bind λl=>(hi l.2).bind λh=>(p x.1 l.1 h.1).bind λz=>.ok (z,h.2)
theorem fW {r:V->Option Int->Option Int->Hp->VK->Prop}{p:U->Option Int->Option Int->R U}{lo hi:Option YV}{gl gh:Ev->R (Option Int×Ev)}(hr:D6 X r)(hp:Ew X.K r mr p)(he:DE X G e b1 m1 g1)(hl:DO X G lo b2 gl)(hu:DO X G hi b3 gh)(hm:m1=.P->(b2||b3)=false:=by first|exact λ_=>rfl|exact λh=>nomatch h):DE X G (.Subscript e (.Slice lo hi none p2) pos) (b1||(b2||b3)) mr (rf p g1 gl gh):=⟨(D7 hr he.un hl.un hu.un).to λσ H Q h=>by
 obtain⟨Z,A,ρ,q,f⟩:=h;obtain⟨⟨u,ρ1⟩,e1,f⟩:=f.bind;obtain⟨⟨l,ρ2⟩,e2,f⟩:=f.bind;obtain⟨⟨h,ρ3⟩,e3,f⟩:=f.bind;obtain⟨z,e4,f⟩:=f.bind;dsimp only at e2 e3 e4 f;refine⟨Z,A,ρ,q,?_⟩;rw[e1];intro v1 H1 q1 x1 s1 qD;refine⟨Z,A,ρ1,q1,?_⟩;rw[e2];intro H2 q2 x2 s2;refine⟨Z,A,ρ2,q2,?_⟩;rw[e3];intro H3 q3 x3 s3;exact hp A H3 v1 u l h z Q (qD.later q1 (x2.trans x3) (two s2 s3) hm) q3.mu e4 λv H' sm vm=>f v H' (q3.same sm) ((x1.trans (x2.trans x3)).trans (eO.same sm)) (qZ (two s1 (two s2 s3)) sm) (vm.e q3 sm)⟩
end
end L2
namespace L2
def Sg (K:WD)(G:Gm)(sg:U->Ev->R Ev):TG:=λv σ H Q=>∃Z A ρ u,cz K G Z A ρ σ H/\Rp K H A u v/\match sg u ρ with
 | .ok ρ'=>∀σ',cz K G Z A ρ' σ' H->(∀i,G.is i=true->σ'[i]? = σ[i]?)->Q σ' H
 |_=>False
structure DG (X:Cx)(G:Gm)(tg:YV)(sg:U->Ev->R Ev):Prop where
 un:PG X tg (Sg X.K G sg)
def Sh (K:WD)(G:Gm)(sg:List U->Ev->R Ev):HD:=λvs σ H Q=>∃Z A ρ us,cz K G Z A ρ σ H/\aE K H A us vs/\match sg us ρ with
 | .ok ρ'=>∀σ',cz K G Z A ρ' σ' H->(∀i,G.is i=true->σ'[i]? = σ[i]?)->Q σ' H
 |_=>False
structure Q8 (X:Cx)(G:Gm)(tgs:List YV)(sg:List U->Ev->R Ev):Prop where
 un:JM X tgs (Sh X.K G sg)
noncomputable def bw (i:Nat):U->Ev->R Ev:=λu ρ=>.ok (ρ.set i (some u))
noncomputable def cc:List U->Ev->R Ev:=λus ρ=>match us with
 | []=>.ok ρ
 |_=>.stk
noncomputable def aD (s:U->Ev->R Ev)(t:List U->Ev->R Ev):List U->Ev->R Ev:=λus ρ=>match us with
 |u::r=>(s u ρ).bind λρ1=>t r ρ1
 |_=>.stk
noncomputable def cf (n:Nat)(t:List U->Ev->R Ev):U->Ev->R Ev:=λu ρ=>match u with
 | .tup us=>if us.length=n then t us ρ else .stk
 |_=>.stk
theorem JM.to {es:List YV}{t t':HD}(h:JM X es t)(i:∀v σ H Q,t' v σ H Q->t v σ H Q):JM X es t':=λpins s σ H v u Q I r q=>h pins s σ H v u Q I r (i _ _ _ _ q)
theorem aA (hN:X.N.Nodup)(hi:X.N[i]? = some x:=by rfl)(hx:Hi X.env.scope x:=by first|exact Or.inl rfl|exact Or.inr rfl)(c:G.is i=false:=by rfl)(hf:X.fn x=true\/X.env.scope.names.lookup x=some .local:=by first|exact .inl rfl|exact .inr rfl|assumption):DG X G (.Name x pos) (bw i):=⟨(HF hN hi hx hf).to λv σ H Q ⟨Z,A,ρ,u,q,r,f⟩=>f _ (q.set c r) λj cj=>by
  have:i≠j:=λz=>by subst z;rw[c] at cj;cases cj
  rw[Xq this]⟩
theorem d8:Q8 X G [] cc:=⟨HG.to λvs σ H Q h00=>by
 obtain⟨Z,A,ρ,us,q,r,f⟩:=h00;unfold cc at f;cases us with
 |nil=>unfold aE at r;exact⟨r,f σ q λ_ _=>rfl⟩
 |cons=>exact f.elim⟩
theorem aX {e:YV}{es:List YV}{s:U->Ev->R Ev}{t:List U->Ev->R Ev}(h1:DG X G e s)(h2:Q8 X G es t)
  (hs:(ZQ (e::es) X.env).map (·.2)=assign e X.env::(ZQ es X.env).map (·.2):=by rfl):Q8 X G (e::es) (aD s t):=⟨(DQ h1.un h2.un hs).to λvs σ H Q h00=>by
 obtain⟨Z,A,ρ,us,q,r,f⟩:=h00;unfold aD at f;cases us with
 |nil=>exact f.elim
 |cons u us=>
  unfold aE at r;obtain⟨v,vr,rfl,r1,r2⟩:=r;dsimp only at f;refine⟨v,vr,rfl,Z,A,ρ,u,q,r1,?_⟩;cases e1:s u ρ with
  |ok ρ1=>
   rw[e1] at f;simp only[R.bind] at f;intro σ1 q1 o1;refine⟨Z,A,ρ1,us,q1,r2,?_⟩;cases e2:t us ρ1 with
   |ok ρ2=>rw[e2] at f;exact λσ2 q2 o2=>f σ2 q2 λi c=>(o2 i c).trans (o1 i c)
   |exc=>rw[e2] at f;exact f.elim
   |stk=>rw[e2] at f;exact f.elim
  |exc=>rw[e1] at f;exact f.elim
  |stk=>rw[e1] at f;exact f.elim⟩
theorem gg {es:List YV}{t:List U->Ev->R Ev}(hc:X.calm=true)(h:Q8 X G es t)(hn:(ZQ es X.env).length=n:=by rfl)(iZ:(ZQ es X.env).findIdx? (·.1)=none:=by rfl):DG X G (.Tuple es k pos) (cf n t):=⟨(Ly hc h.un hn iZ).to λv σ H Q h00=>by
 obtain⟨Z,A,ρ,u,q,r,f⟩:=h00;unfold cf at f;cases u with
 |tup us=>
  unfold Rp at r;obtain⟨a,xs,rfl,sq,l,rs⟩:=r;dsimp only at f;by_cases hl:us.length=n
  ·rw[hZ hl] at f;exact⟨a,xs,rfl,gU.of sq,by rw[←rs.length];exact hl,Z,A,ρ,us,q,rs,f⟩
  ·rw[hV hl] at f;exact f.elim
 |_=>exact f.elim⟩
def UQ (K:WD)(Z:Pkg)(m:Md)(H:Hp)(u:U)(v:V):Prop:=match m with
 | .S=>Rp K H Z.A0 u v
 | .O=>∃a,v=.ref a/\Z.B a=none/\¬Z.A0 a/\ko K H (λb=>Z.A0 b\/b=a) u a
 | .P=>False
def rg (K:WD)(G:Gm)(Z:Pkg)(m:Md):SR->pG->Prop
 | .nx ρ',D=>∀A' σ' H',cz K G Z A' ρ' σ' H'->D.nx σ' H'
 | .bk ρ',D=>∀A' σ' H',cz K G Z A' ρ' σ' H'->D.bk σ' H'
 | .ct ρ',D=>∀A' σ' H',cz K G Z A' ρ' σ' H'->D.ct σ' H'
 | .rt u ρ',D=>∀A' σ' H' v,cz K G Z A' ρ' σ' H'->UQ K Z m H' u v->D.rt v H'
 | .exc _ _,_=>∀H',(∀a o,Z.B a=some o->H' a=some o)->G.W H'
 | .stk,_=>False
def NY (K:WD)(G:Gm)(m:Md)(g:Ev->SR):TS:=λD σ H=>∃Z A ρ,cz K G Z A ρ σ H/\rg K G Z m (g ρ) D
structure DS (X:Cx)(G:Gm)(m:Md)(st:abx)(g:Ev->SR):Prop where
 un:PS X st (NY X.K G m g)
structure AM (X:Cx)(G:Gm)(m:Md)(st:List abx)(g:Ev->SR):Prop where
 un:uk X st (NY X.K G m g)
noncomputable def iP:Ev->SR:=.nx
noncomputable def aP (g1 g2:Ev->SR):Ev->SR:=λρ=>match g1 ρ with
 | .nx ρ'=>g2 ρ'
 |r=>r
noncomputable def SR.of {α:Type}:R α->(α->SR)->SR
 | .ok a,f=>f a
 |_,_=>.stk
section
variable {m:Md}{α:Type}
theorem rg.of {x:R α}{k:α->SR}{D:pG}(f:rg K G Z m (SR.of x k) D):∃a,x=.ok a/\rg K G Z m (k a) D:=by
 cases x with
 |ok a=>exact⟨a,rfl,f⟩
 |exc=>exact f.elim
 |stk=>exact f.elim
end
section
variable {e a b:YV}{sts rest:List abx}{es:List YV}{p1:Pos}{b1 b2 b3:Bool}{m m1 m2 m3 mr:Md}{g1 g2 g3:Ev->R (U×Ev)}{h1 h2:Ev->R (Bool×Ev)}{ga:Ev->R (List U×Ev)}{s1 s2:Ev->SR}
theorem d9:AM X G m [] iP:=⟨HA.to λD σ H ⟨Z,A,ρ,q,f⟩=>f A σ H q⟩
theorem ar (h:DS X G m st s1):AM X G m [st] s1:=⟨HB h.un⟩
theorem ai (ha:DS X G m st s1)(hb:AM X G m rest s2):AM X G m (st::rest) (aP s1 s2):=⟨(DP ha.un hb.un).to λD σ H h00=>by
 obtain⟨Z,A,ρ,q,f⟩:=h00;refine⟨Z,A,ρ,q,?_⟩;unfold aP at f;cases e:s1 ρ with
 |nx ρ1=>rw[e] at f;exact λA1 σ1 H1 q1=>⟨Z,A1,ρ1,q1,f⟩
 |rt=>rw[e] at f;exact f
 |bk=>rw[e] at f;exact f
 |ct=>rw[e] at f;exact f
 |exc=>rw[e] at f;exact f
 |stk=>rw[e] at f;exact f⟩
noncomputable def Mh:Ev->SR:=.bk
noncomputable def O7:Ev->SR:=.ct
noncomputable def j3 (g:Ev->R (U×Ev)):Ev->SR:=λρ=>SR.of (g ρ) λx=>.nx x.2
theorem jG (h:DE X G e b1 m1 g1)(hs:aaI e none pos.line X.env=pure false:=by rfl):DS X G m (.Expr e pos) (j3 g1):=⟨(HC h.un hs).to λD σ H h00=>by
 obtain⟨Z,A,ρ,q,f⟩:=h00;obtain⟨⟨u,ρ1⟩,e1,f⟩:=f.of;refine⟨Z,A,ρ,q,?_⟩;rw[e1];exact λv H1 q1 _ _ _=>f A σ H1 q1⟩
noncomputable def cI (g:Ev->R (U×Ev)):Ev->SR:=λρ=>SR.of (g ρ) λx=>.rt x.1 x.2
theorem bb (h:DE X G e b1 m1 g1)(hn:m1≠.P:=by decide):DS X G .S (.Return (some e) pos) (cI g1):=⟨(y6 h.un).to λD σ H h00=>by
 obtain⟨Z,A,ρ,q,f⟩:=h00;obtain⟨⟨u,ρ1⟩,e1,f⟩:=f.of;refine⟨Z,A,ρ,q,?_⟩;rw[e1];exact λv H1 q1 _ _ vm=>f A σ H1 v q1 ((vm.rp hn).mono q1.sup)⟩
theorem vC (h:DE X G e b1 .O g1):DS X G .O (.Return (some e) pos) (cI g1):=⟨(y6 h.un).to λD σ H h00=>by
 obtain⟨Z,A,ρ,q,f⟩:=h00;obtain⟨⟨u,ρ1⟩,e1,f⟩:=f.of;refine⟨Z,A,ρ,q,?_⟩;rw[e1];intro v H1 q1 _ _ vm;obtain⟨a,rfl,na,nb,_,t⟩:=vm;exact f A σ H1 _ q1 ⟨a,rfl,nb,λz=>na (q1.sup a z),t.mono λb z=>z.imp (q1.sup b) id⟩⟩
theorem AN (hm:m≠.P:=by decide)(hi:G.io=true->i≠0)(hN:X.N[i]? = some x:=by rfl)(hv:Dx X.env.scope x:=by first|exact Or.inl rfl|exact Or.inr (Or.inl rfl)|exact Or.inr (Or.inr rfl))(hd:(x==("__debug__":Str))=false:=by decide)(ny:(x==("__classdict__":Str))=false:=by decide)(c:G.is i=true:=by rfl):DS X G m (.Return (some (.Name x p1)) pos) (cI (af i)):=⟨(y6 (i4 hN hv hd ny)).to λD σ H h00=>by
 obtain⟨Z,A,ρ,q,f⟩:=h00;obtain⟨⟨u,ρ1⟩,e1,f⟩:=f.of;unfold af at e1;split at e1
 ·rename_i u' hu;cases e1;obtain⟨a,h1,h2,h3,h4,h5⟩:=q.own c hu;have na:¬Z.A0 a:=by
   rcases h4 with h4|⟨h4,h6⟩
   ·exact h4
   ·exact absurd h6 (hi h4)
  refine⟨.ref a,h1,f A σ H _ q ?_⟩;cases m with
  |S=>exact h5.rp q.sup na
  |O=>exact⟨a,rfl,h3,na,h5.mono λb z=>by
    rcases z with z|z
    ·exact q.sup b z
    ·subst z;exact h2⟩
  |P=>exact absurd rfl hm
 ·cases e1⟩
noncomputable def ba (i:Nat)(g:Ev->R (U×Ev)):Ev->SR:=λρ=>SR.of (g ρ) λx=>.nx (x.2.set i (some x.1))
theorem Ex (c:G.is i=false)(hn:m1≠.P)(hi:∀σ H Q,tD X.K G b1 m1 g1 σ H Q->te σ H Q){D:pG}(h:NY X.K G m (ba i g1) D σ H):DR te (xh i) D σ H:=by
 obtain⟨Z,A,ρ,q,f⟩:=h;obtain⟨⟨u,ρ1⟩,e1,f⟩:=f.of;refine hi _ _ _ ⟨Z,A,ρ,q,?_⟩;rw[e1];exact λv H1 q1 _ _ vm=>f A _ H1 (q1.set c (vm.rp hn))
theorem uD (c:G.is i=true)(h0:G.io=true->i≠0)(hi:∀σ H Q,tD X.K G b1 .O g1 σ H Q->te σ H Q){D:pG}(h:NY X.K G m (ba i g1) D σ H):DR te (xh i) D σ H:=by
 obtain⟨Z,A,ρ,q,f⟩:=h;obtain⟨⟨u,ρ1⟩,e1,f⟩:=f.of;refine hi _ _ _ ⟨Z,A,ρ,q,?_⟩;rw[e1];intro v H1 q1 _ _ vm;obtain⟨a,rfl,na,nb,r,t⟩:=vm;exact f _ _ H1 (q1.setO c h0 na nb r t)
theorem aT (hN:X.N.Nodup)(h:DE X G e b1 m1 g1)(hi:X.N[i]? = some x:=by rfl)(hx:Hi X.env.scope x:=by first|exact Or.inl rfl|exact Or.inr rfl)(c:G.is i=false:=by rfl)(hn:m1≠.P:=by decide)(hs:aaI e (some (.Name x p1)) pos.line X.env=pure false:=by rfl)(hf:X.fn x=true\/X.env.scope.names.lookup x=some .local:=by first|exact .inl rfl|exact .inr rfl|assumption):DS X G m (.Assign [.Name x p1] e pos) (ba i g1):=⟨(y7 hN hi hx h.un hs hf).to λ_ _ _=>Ex c hn λ_ _ _ h=>h⟩
theorem d_ (hN:X.N.Nodup)(h:DE X G e b1 .O g1)(h0:G.io=true->i≠0:=by decide)(hi:X.N[i]? = some x:=by rfl)(hx:Hi X.env.scope x:=by first|exact Or.inl rfl|exact Or.inr rfl)(c:G.is i=true:=by rfl)(hs:aaI e (some (.Name x p1)) pos.line X.env=pure false:=by rfl)(hf:X.fn x=true\/X.env.scope.names.lookup x=some .local:=by first|exact .inl rfl|exact .inr rfl|assumption):DS X G m (.Assign [.Name x p1] e pos) (ba i g1):=⟨(y7 hN hi hx h.un hs hf).to λ_ _ _=>uD c h0 λ_ _ _ h=>h⟩
noncomputable def xx (i j:Nat):Ev->SR:=λρ=>match ρ[j]? with
 |some (some u)=>.nx ((ρ.set j none).set i (some u))
 |_=>.stk
theorem Im {y:Str}(hN:X.N.Nodup)(h0:G.io=true->j≠0:=by decide)(hj:X.N[j]? = some y:=by rfl)(hv:Dx X.env.scope y:=by first|exact Or.inl rfl|exact Or.inr (Or.inl rfl)|exact Or.inr (Or.inr rfl))(hd:(y==("__debug__":Str))=false:=by decide)(ny:(y==("__classdict__":Str))=false:=by decide)(cj:G.is j=true:=by rfl)(hi:X.N[i]? = some x:=by rfl)(hx:Hi X.env.scope x:=by first|exact Or.inl rfl|exact Or.inr rfl)(c:G.is i=false:=by rfl)(hs:aaI (.Name y p2) (some (.Name x p1)) pos.line X.env=pure false:=by rfl)(hf:X.fn x=true\/X.env.scope.names.lookup x=some .local:=by first|exact .inl rfl|exact .inr rfl|assumption):DS X G m (.Assign [.Name x p1] (.Name y p2) pos) (xx i j):=⟨(y7 hN hi hx (i4 hj hv hd ny) hs hf).to λD σ H h00=>by
 obtain⟨Z,A,ρ,q,f⟩:=h00;unfold xx at f;split at f
 ·rename_i u hu;obtain⟨a,A',h1,r,p⟩:=q.free cj h0 hu;exact⟨.ref a,h1,f A' _ H (r.set c p)⟩
 ·exact f.elim⟩
noncomputable def Si (sg:U->Ev->R Ev)(g:Ev->R (U×Ev)):Ev->SR:=λρ=>SR.of (g ρ) λx=>SR.of (sg x.1 x.2) .nx
noncomputable def Io (i j:Nat)(ga:Ev->R (List U×Ev)):Ev->SR:=λρ=>SR.of (ga ρ) λx=>match x.1 with
 | [u,w]=>.nx ((x.2.set i (some u)).set j (some w))
 |_=>.stk
theorem Mi {y:Str}{a b:YV}{px py pt:Pos}{kt k2 pt2}(hc:X.calm=true)(hN:X.N.Nodup)(ha:DA X G [a,b] b1 false ga)(hi:X.N[i]? = some x:=by rfl)(hj:X.N[j]? = some y:=by rfl)(uh:i≠j:=by decide)(hx:X.env.scope.names.lookup x=some .local:=by rfl)(hy:X.env.scope.names.lookup y=some .local:=by rfl)(ci:G.is i=false:=by rfl)(cj:G.is j=false:=by rfl)(hw:swappedStores [.Tuple [.Name x px,.Name y py] kt pt] (.Tuple [a,b] k2 pt2) X.env=pure (some [x,y]):=by rfl)(hs:swapsWithSole [.Tuple [.Name x px,.Name y py] kt pt] (.Tuple [a,b] k2 pt2) pos.line X.env=pure false:=by rfl) :
  DS X G m (.Assign [.Tuple [.Name x px,.Name y py] kt pt] (.Tuple [a,b] k2 pt2) pos) (Io i j ga):=⟨(LB hc hN hi hj uh hx hy ha.un hw hs).to λD σ H h00=>by
 obtain⟨Z,A,ρ,q,f⟩:=h00;obtain⟨⟨us,ρ1⟩,e1,f⟩:=f.of;refine⟨Z,A,ρ,q,?_⟩;rw[e1];intro vs H1 q1 _ _ vm;dsimp only at f;split at f
 ·rename_i u w;have r:=vm.rps;unfold aE at r;obtain⟨v,vr,rfl,r1,r2⟩:=r;unfold aE at r2;obtain⟨v2,vr2,rfl,r3,r4⟩:=r2;unfold aE at r4;subst r4;exact⟨v,v2,rfl,f A _ H1 ((q1.set ci r1).set cj r3)⟩
 ·exact f.elim⟩
noncomputable def zq (h:Ev->R (Bool×Ev))(s1 s2:Ev->SR):Ev->SR:=λρ=>SR.of (h ρ) λx=>if x.1=true then s1 x.2 else s2 x.2
theorem ji {a b:List abx}(hc:DT X G c b1 h1)(ha:AM X G m a s1)(hb:AM X G m b s2):DS X G m (.If c a b pos) (zq h1 s1 s2):=⟨(Oj hc.un ha.un hb.un).to λD σ H h00=>by
 obtain⟨Z,A,ρ,q,f⟩:=h00;obtain⟨⟨k,ρ1⟩,e1,f⟩:=f.of;refine⟨Z,A,ρ,q,?_⟩;rw[e1];intro H1 q1 _ _;cases k with
 |true=>rw[hZ rfl] at f ⊢;exact⟨Z,A,ρ1,q1,f⟩
 |false=>rw[hV WA] at f ⊢;exact⟨Z,A,ρ1,q1,f⟩⟩
noncomputable def gj (h:Ev->R (Bool×Ev))(s:Ev->SR):Nat->Ev->SR
 |0,_=>.stk
 |n+1,ρ=>SR.of (h ρ) λx=>if x.1=true then match s x.2 with
   | .nx ρ2=>gj h s n ρ2
   | .ct ρ2=>gj h s n ρ2
   | .bk ρ2=>.nx ρ2
   |r=>r
  else .nx x.2
theorem xy (hp:acB (Xg X.prog X.w) X.A X.env X.xe)(hc:DT X G c b1 h1)(hb:AM X G m body s1):DS X G m (.While c body [] pos) (gj h1 s1 n):=⟨(DV hp hc.un hb.un).to λD σ H h00=>by
 obtain⟨Z,A,ρ,q,f⟩:=h00;refine⟨λk σ H=>∃A ρ,cz X.K G Z A ρ σ H/\rg X.K G Z m (gj h1 s1 k ρ) D,⟨n,A,ρ,q,f⟩,?_⟩;rintro k σ H ⟨A,ρ,q,f⟩;cases k with
 |zero=>exact f.elim
 |succ k=>
  unfold gj at f;obtain⟨⟨t,ρ1⟩,e1,f⟩:=f.of;refine⟨Z,A,ρ,q,?_⟩;rw[e1];intro H1 q1 _ _;cases t with
  |false=>rw[hV WA] at f ⊢;exact f A σ H1 q1
  |true=>
   rw[hZ rfl] at f ⊢;refine⟨λσ H=>∃A ρ,cz X.K G Z A ρ σ H/\rg X.K G Z m (gj h1 s1 k ρ) D,λσ' H' z=>⟨k,Nat.lt_succ_self k,z⟩,Z,A,ρ1,q1,?_⟩;dsimp only at f;cases e2:s1 ρ1 with
   |nx ρ2=>rw[e2] at f;exact λA2 σ2 H2 q2=>⟨A2,ρ2,q2,f⟩
   |ct ρ2=>rw[e2] at f;exact λA2 σ2 H2 q2=>⟨A2,ρ2,q2,f⟩
   |bk ρ2=>rw[e2] at f;exact f
   |rt=>rw[e2] at f;exact f
   |exc=>rw[e2] at f;exact f
   |stk=>rw[e2] at f;exact f⟩
end
end L2
namespace L2
def Wk (K:WD)(p:Bool)(A:W8->Prop)(us:List U)(J:It)(H1:Hp):Prop:=us.length<=WC/\
 ∀H A',(if p=true then aG H1 H else eO A H1 H)->(∀b,A' b->A b\/H1 b=none)->(∀(i:Nat) (u:U),us[i]? = some u->J.go i H/\∀x H',J.yld i H x H'->aG H H'/\Rp K H' A' u x)/\J.stop us.length H
def Q9 (K:WD)(G:Gm)(b p:Bool)(gi:Ev->R (List U×Ev)):TI:=λσ H R=>∃Z A ρ,cz K G Z A ρ σ H/\match gi ρ with
 | .ok (us,ρ')=>∀J H1,cz K G Z A ρ' σ H1->eO A H H1->(b=false->ρ'=ρ/\aG H H1)->Wk K p A us J H1->R J H1
 |_=>False
structure DI (X:Cx)(G:Gm)(tg iter:YV)(b p:Bool)(gi:Ev->R (List U×Ev)):Prop where
 un:PI X tg iter (Q9 X.K G b p gi)
section
variable {e a b:YV}{es:List YV}{p1:Pos}{b1 b2 b3:Bool}{m m1 m2 m3 mr:Md}{g1 g2 g3:Ev->R (U×Ev)}{h1 h2:Ev->R (Bool×Ev)}{ga:Ev->R (List U×Ev)}{s1 s2:Ev->SR}
theorem PI.to {t t':TI}(h:PI X tg e t)(i:∀σ H Q,t' σ H Q->t σ H Q):PI X tg e t':=λpins s σ H Q I q=>h pins s σ H Q I (i _ _ _ q)
theorem PI.or {t t':TI}(h:PI X tg e t)(h':PI X tg e t'):PI X tg e (λσ H R=>t σ H R\/t' σ H R):=λpins s σ H Q I q=>by
 rcases q with q|q
 ·exact h pins s σ H Q I q
 ·exact h' pins s σ H Q I q
noncomputable def O8:Md->Bool
 | .P=>true
 |_=>false
noncomputable def gm (g:Ev->R (U×Ev)):Ev->R (List U×Ev):=λρ=>(g ρ).bind λx=>match x.1 with
 | .lst us=>.ok (us,x.2)
 | .tup us=>.ok (us,x.2)
 | .scr us=>.ok (us,x.2)
 |_=>.stk
theorem Iq (q:cz K G Z A ρ σ H1)(h:y3 K G Z m1 A ρ σ H1 (.lst us) v):∃a,v=.ref a/\(∃xs,gc K H1 a xs)/\Wk K (O8 m1) A us (Q0 K a) H1:=by
 have hp:=h.pk;unfold Pk at hp;obtain⟨a,xs,rfl,rd,l,rs⟩:=hp;refine⟨a,rfl,⟨xs,gc.of rd⟩,l,λH A' hs ha=>?_⟩;have st:H a=some (.lst xs)/\∀(i:Nat) (u:U),us[i]? = some u->∃x,xs[i]? = some x/\Rp K H A' u x:=by
  cases hm:O8 m1 with
  |true=>
   rw[hm,hZ rfl] at hs;refine⟨hs a _ rd,λi u hu=>?_⟩;obtain⟨x,h1,h2⟩:=rs.get hu;exact⟨x,h1,h2.re q.mu (eO.same hs) ha⟩
  |false=>
   rw[hm,hV WA] at hs;have hn:m1≠.P:=λz=>by subst z;cases hm
   have hr:=h.rp hn;unfold Rp at hr;obtain⟨a',xs',e,na,rd',_,rs'⟩:=hr;cases e;refine⟨hs a _ na rd,λi u hu=>?_⟩;obtain⟨x,h1,h2⟩:=rs.get hu;exact⟨x,h1,h2.re q.mu hs ha⟩
 obtain⟨rd2,get⟩:=st;refine⟨λi u hu=>?_,⟨xs,gc.of rd2,by rw[←rs.length];exact WK _⟩⟩;obtain⟨x,h1,h2⟩:=get i u hu;refine⟨⟨xs,x,gc.of rd2,h1⟩,λy H' yl=>?_⟩;obtain⟨e,yl⟩:=yl;have e2:=yl xs (gc.of rd2);rw[h1] at e2;cases e2;subst e;exact⟨aG.refl _,h2⟩
theorem Mj {p:Bool}(q:cz K G Z A ρ σ H1)(h:Pk K H1 A (.tup us) v):∃a,v=.ref a/\(∃xs,gU K H1 a xs)/\Wk K p A us (RP K a) H1:=by
 unfold Pk at h;obtain⟨a,xs,rfl,sq,l,rs⟩:=h;refine⟨a,rfl,⟨xs,gU.of sq⟩,l,λH A' hs ha=>?_⟩;have ex:eO A H1 H:=by
  cases p with
  |true=>rw[hZ rfl] at hs;exact eO.same hs
  |false=>rw[hV WA] at hs;exact hs
 have NM:gU K H a xs:=gU.of (ex a _ (λz=>by have:=q.mu a z;rw[sq] at this;exact this) sq);refine⟨λi u hu=>?_,⟨xs,NM,by rw[←rs.length];exact WK _⟩⟩;obtain⟨x,h1,h2⟩:=rs.get hu;refine⟨⟨xs,x,NM,h1⟩,λy H' yl=>?_⟩;obtain⟨e,yl⟩:=yl;have e2:=yl xs NM;rw[h1] at e2;cases e2;subst e;exact⟨aG.refl _,h2.re q.mu ex ha⟩
theorem Ml {p:Bool}(q:cz K G Z A ρ σ H1)(h:Pk K H1 A (.scr us) v):∃a,v=.ref a/\(∃xs,gc K H1 a xs)/\Wk K p A us (Q0 K a) H1:=by
 unfold Pk at h;obtain⟨a,xs,rfl,sq,l,rs⟩:=h;refine⟨a,rfl,⟨xs,sq.sq⟩,l,λH A' hs ha=>?_⟩;have ex:eO A H1 H:=by
  cases p with
  |true=>rw[hZ rfl] at hs;exact eO.same hs
  |false=>rw[hV WA] at hs;exact hs
 have NM:gc K H a xs:=(sq.to λo y w=>ex a _ (λz=>by have:=q.mu a z;rw[w] at this;exact this) w).sq;refine⟨λi u hu=>?_,⟨xs,NM,by rw[←rs.length];exact WK _⟩⟩;obtain⟨x,h1,h2⟩:=rs.get hu;refine⟨⟨xs,x,NM,h1⟩,λy H' yl=>?_⟩;obtain⟨e,yl⟩:=yl;have e2:=yl xs NM;rw[h1] at e2;cases e2;subst e;exact⟨aG.refl _,h2.re q.mu ex ha⟩
theorem cJ (h:DE X G e b1 m1 g1):DI X G tg e b1 (O8 m1) (gm g1):=⟨((HH h.un).or (LD h.un)).to λσ H RR h00=>by
 obtain⟨Z,A,ρ,q,f⟩:=h00;unfold gm at f;cases e1:g1 ρ with
 |stk=>rw[e1] at f;exact f.elim
 |exc=>rw[e1] at f;exact f.elim
 |ok y=>
  obtain⟨u,ρ1⟩:=y;rw[e1] at f;cases u with
  |lst us=>
   refine .inl ⟨Z,A,ρ,q,?_⟩;rw[e1];intro v H1 q1 x1 s1 vm;obtain⟨a,e,l,wk⟩:=Iq q1 vm;exact⟨a,e,l,f _ H1 q1 x1 s1 wk⟩
  |tup us=>
   refine .inr ⟨Z,A,ρ,q,?_⟩;rw[e1];intro v H1 q1 x1 s1 vm;obtain⟨a,e,l,wk⟩:=Mj (p:=O8 m1) q1 vm.pk;exact⟨a,e,l,f _ H1 q1 x1 s1 wk⟩
  |scr us=>
   refine .inl ⟨Z,A,ρ,q,?_⟩;rw[e1];intro v H1 q1 x1 s1 vm;obtain⟨a,e,l,wk⟩:=Ml (p:=O8 m1) q1 vm.pk;exact⟨a,e,l,f _ H1 q1 x1 s1 wk⟩
  |_=>exact f.elim⟩
noncomputable def av (lo:Int)(n:Nat):List U:=(WY n).map λi=>.int (lo+(i:Nat))
theorem Ey {lo:Int}{p:Bool}(h:n<=WC):Wk K p A (av lo n) (Q1 lo n) H1:=by
 have hl:(av lo n).length=n:=by unfold av;rw[Ww,Xf]
 refine⟨by rw[hl];exact h,λH A' _ _=>⟨λi u hu=>?_,by rw[hl];exact WK _⟩⟩;unfold av at hu;rw[WQ] at hu;cases e:(WY n)[i]? with
 |none=>rw[e] at hu;cases hu
 |some j=>
  rw[e] at hu;obtain⟨l1,l2⟩:=WE.mp e;rw[Xf] at l1;rw[List.getElem_range] at l2;subst l2;cases hu;refine⟨l1,λx H' y=>?_⟩;obtain⟨rfl,rfl⟩:=y;exact⟨aG.refl _,di⟩
noncomputable def eT (ga:Ev->R (List U×Ev)):Ev->R (List U×Ev):=λρ=>(ga ρ).bind λx=>match x.1 with
 | [.int j]=>if -1000000<=j/\j<=1000000 then .ok (av 0 j.toNat,x.2) else .stk
 |_=>.stk
theorem cu {a:YV}(ha:DA X G [a] b1 false ga)(hm:X.mg "range"=none)(hg:Gl X "range":=by rfl)(hs:W7 [a] X.env=[(false,aaj a X.env)]:=by rfl):DI X G tg (.Call (.Name "range" p1) [a] [] pos) b1 false (eT ga):=⟨(Cm hg hm ha.un hs).to λσ H RR h00=>by
 obtain⟨Z,A,ρ,q,f⟩:=h00;unfold eT at f;cases e1:ga ρ with
 |stk=>rw[e1] at f;exact f.elim
 |exc=>rw[e1] at f;exact f.elim
 |ok y=>
  obtain⟨us,ρ1⟩:=y;rw[e1] at f;dsimp only[L2.R.bind] at f;refine⟨Z,A,ρ,q,?_⟩;rw[e1];intro vs H1 q1 x1 s1 vm;split at f
  ·rename_i Ul ρ' e2;split at e2
   ·rename_i j;split at e2
    ·rename_i hl;cases e2;have r:=vm.rps;unfold aE at r;obtain⟨v,vr,rfl,r1,r2⟩:=r;unfold aE at r2;subst r2;unfold Rp at r1;subst r1;exact⟨j,rfl,by lia,by lia,f _ H1 q1 x1 s1 (Ey (by have:WC=16777216:=rfl;lia))⟩
    ·cases e2
   ·cases e2
  ·exact f.elim⟩
noncomputable def eF (sg:U->Ev->R Ev)(s:Ev->SR):List U->Ev->SR
 | [],ρ=>.nx ρ
 |u::us,ρ=>SR.of (sg u ρ) λρ1=>match s ρ1 with
   | .nx ρ2=>eF sg s us ρ2
   | .ct ρ2=>eF sg s us ρ2
   | .bk ρ2=>.nx ρ2
   |r=>r
noncomputable def i6 (gi:Ev->R (List U×Ev))(sg:U->Ev->R Ev)(s:Ev->SR):Ev->SR:=λρ=>SR.of (gi ρ) λx=>eF sg s x.1 x.2
open Classical in
noncomputable def Pkg.lp (Z:Pkg)(A:W8->Prop)(H:Hp):Pkg:={Z with B:=λb=>if A b/\Z.B b=none then none else H b}
theorem vD {b:W8}(h1:A b)(h2:Z.B b=none):(Z.lp A H).B b=none:=by
 unfold Pkg.lp;dsimp only;exact hZ ⟨h1,h2⟩
theorem mM {b:W8}(h:¬(A b/\Z.B b=none)):(Z.lp A H).B b=H b:=by
 unfold Pkg.lp;dsimp only;exact hV h
theorem zu {b:W8}(h:(Z.lp A H).B b=none):(A b/\Z.B b=none)\/H b=none:=by
 by_cases c:A b/\Z.B b=none
 ·exact .inl c
 ·rw[mM c] at h;exact .inr h
theorem cz.lp (q:cz K G Z A ρ σ H):cz K G (Z.lp A H) A ρ σ H where
 slot:=λi u h=>by
  obtain⟨v,h1,h2⟩:=q.slot i u h;refine⟨v,h1,?_⟩;by_cases c:G.is i=true
  ·rw[hZ c] at h2 ⊢;obtain⟨a,e1,e2,e3,e4,e5⟩:=h2;exact⟨a,e1,e2,vD e2 e3,e4,e5⟩
  ·rw[hV c] at h2 ⊢;exact h2
 dis:=q.dis
 mu:=q.mu
 sup:=q.sup
 out:=λa h=>(q.out a h).imp id λz=>vD h z
 bas:=λa o h=>by
  by_cases c:A a/\Z.B a=none
  ·rw[vD c.1 c.2] at h;cases h
  ·rw[mM c] at h;exact h
 io0:=q.io0
 len:=q.len
theorem cz.unlp {A':W8->Prop}{ρ':Ev}{σ':St}(q:cz K G Z A ρ σ H)(q':cz K G (Z.lp A H) A' ρ' σ' H'):cz K G Z A' ρ' σ' H':=by
 have sub:∀a,(Z.lp A H).B a=none->Z.B a=none:=λa h=>by
  rcases zu h with z|h
  ·exact z.2
  ·cases e:Z.B a with
   |none=>rfl
   |some o=>rw[q.bas a o e] at h;cases h
 exact {
  slot:=λi u h=>by
   obtain⟨v,h1,h2⟩:=q'.slot i u h;refine⟨v,h1,?_⟩;by_cases c:G.is i=true
   ·rw[hZ c] at h2 ⊢;obtain⟨a,e1,e2,e3,e4,e5⟩:=h2;exact⟨a,e1,e2,sub a e3,e4,e5⟩
   ·rw[hV c] at h2 ⊢;exact h2
  dis:=q'.dis
  mu:=q'.mu
  sup:=q'.sup
  out:=λa h=>(q'.out a h).imp id (sub a)
  bas:=λa o h=>q'.bas a o (by
   rw[mM (λz=>by rw[h] at z;exact nomatch z.2)];exact q.bas a o h)
  io0:=q'.io0
  len:=q'.len}
theorem rg.lp {r:SR}{D:pG}(q:cz K G Z A ρ σ H)(f:rg K G Z m r D):rg K G (Z.lp A H) m r D:=by
 cases r with
 |nx=>exact λA' σ' H' q'=>f A' σ' H' (q.unlp q')
 |bk=>exact λA' σ' H' q'=>f A' σ' H' (q.unlp q')
 |ct=>exact λA' σ' H' q'=>f A' σ' H' (q.unlp q')
 |rt u ρ'=>
  intro A' σ' H' v q' vm;refine f A' σ' H' v (q.unlp q') ?_;cases m with
  |S=>exact vm
  |P=>exact vm
  |O=>
   obtain⟨a,e,nb,na,t⟩:=vm;refine⟨a,e,?_,na,t⟩;rcases zu nb with z|h
   ·exact z.2
   ·cases e:Z.B a with
    |none=>rfl
    |some o=>rw[q.bas a o e] at h;cases h
 |exc=>exact λH' hb=>f H' λa o h=>hb a o (by
   rw[mM (λz=>by rw[h] at z;exact nomatch z.2)];exact q.bas a o h)
 |stk=>exact f.elim
theorem dU {gi:Ev->R (List U×Ev)}(hp:acB (Xg X.prog X.w) X.A X.env X.xe)(hc:X.calm=true)(hi:DI X G tg iter b1 false gi)(hg:DG X G tg sg)(hb:AM X G m body s1)(hs:∀x,YR iter X.env x=pure x:=by intro _;rfl):DS X G m (.For tg iter body [] pos) (i6 gi sg s1):=⟨(H_ hp hc hi.un hg.un hb.un hs).to λD σ H h00=>by
 obtain⟨Z,A,ρ,q,f⟩:=h00;obtain⟨⟨us,ρ1⟩,e1,f⟩:=f.of;refine⟨Z,A,ρ,q,?_⟩;rw[e1];intro J H1 q1 x1 Ay wk;dsimp only at f;obtain⟨hz,wk⟩:=wk;refine⟨λi k σ H=>i+k=us.length/\∃A' ρ',cz X.K G (Z.lp A H1) A' ρ' σ H/\rg X.K G (Z.lp A H1) m (eF sg s1 (us.drop i) ρ') D,⟨us.length,by lia,A,ρ1,q1.lp,by rw[abe];exact f.lp q1⟩,?_⟩;rintro i k σ H ⟨hk,A',ρ',q',f'⟩;have ex:eO A H1 H:=λb o nb z=>q'.bas b o (by
  rw[mM (λy=>nb y.1)];exact z)
 have nw:∀b,A' b->A b\/H1 b=none:=λb z=>by
  rcases q'.out b z with y|y
  ·exact .inl (q1.sup b y)
  ·rcases zu y with w|h
   ·exact .inl w.1
   ·exact .inr h
 obtain⟨w1,w2⟩:=wk H A' (by rw[hV WA];exact ex) nw;by_cases Dt:i<us.length
 ·have eu:us[i]? = some us[i]:=Wx Dt;obtain⟨go,yl⟩:=w1 i _ eu;rw[X6 Dt] at f';unfold eF at f';obtain⟨ρ2,e2,f2⟩:=f'.of;refine .inr ⟨go,λσ H=>∃A' ρ',cz X.K G (Z.lp A H1) A' ρ' σ H/\rg X.K G (Z.lp A H1) m (eF sg s1 (us.drop (i+1)) ρ') D,λσ' H' z=>⟨k-1,by lia,by lia,z⟩,λx H' y=>?_⟩;obtain⟨sm,rp⟩:=yl x H' y;refine⟨Z.lp A H1,A',ρ',us[i],q'.same sm,rp,?_⟩;rw[e2];intro σ2 q2 _;refine⟨Z.lp A H1,A',ρ2,q2,?_⟩;cases e3:s1 ρ2 with
  |nx ρ3=>rw[e3] at f2;exact λA3 σ3 H3 q3=>⟨A3,ρ3,q3,f2⟩
  |ct ρ3=>rw[e3] at f2;exact λA3 σ3 H3 q3=>⟨A3,ρ3,q3,f2⟩
  |bk ρ3=>rw[e3] at f2;exact f2
  |rt=>rw[e3] at f2;exact f2
  |exc=>rw[e3] at f2;exact f2
  |stk=>rw[e3] at f2;exact f2
 ·have e:i=us.length:=by lia
  subst e;rw[aat] at f';exact .inl ⟨w2,f' A' σ H q'⟩⟩
end
end L2
namespace L2
noncomputable def jj (js:List (Option Nat))(ρ:Ev):Ev:=js.map λo=>match o with
 |none=>none
 |some j=>match ρ[j]? with
  |some v=>v
  |none=>none
noncomputable def tw (G:Gm)(js:List (Option Nat)):Gm:=⟨js.map λo=>match o with
 |none=>false
 |some j=>G.is j,false,λ_=>False⟩
noncomputable def nP:List (Option Nat)->Bool
 | []=>true
 |none::r=>nP r
 |some j::r=> !(r.contains (some j))&&nP r
theorem rh:∀{js:List (Option Nat)} {i k j:Nat},nP js=true->js[i]? = some (some j)->js[k]? = some (some j)->i=k
 | [],_,_,_,_,h,_=>by simp at h
 |none::r,i,k,j,ok,h1,h2=>by
  unfold nP at ok;cases i with
  |zero=>simp at h1
  |succ i=>
   cases k with
   |zero=>simp at h2
   |succ k=>exact congrArg (·+1) (rh (j:=j) ok (by simpa using h1) (by simpa using h2))
 |some j'::r,i,k,j,ok,h1,h2=>by
  unfold nP at ok;rw[W2] at ok;have nm:∀n:Nat,r[n]? ≠ some (some j'):=λn h=>by
   have:=Yg h;simp at ok;exact ok.1 this
  cases i with
  |zero=>
   cases k with
   |zero=>rfl
   |succ k=>simp at h1 h2;subst h1;exact absurd h2 (nm k)
  |succ i=>
   cases k with
   |zero=>simp at h1 h2;subst h2;exact absurd h1 (nm i)
   |succ k=>exact congrArg (·+1) (rh (j:=j) ok.2 (by simpa using h1) (by simpa using h2))
theorem mN (h:(jj js ρ)[i]? = some (some u)):∃j,js[i]? = some (some j)/\ρ[j]? = some (some u):=by
 unfold jj at h;rw[WQ] at h;cases e:js[i]? with
 |none=>rw[e] at h;cases h
 |some o=>
  rw[e] at h;cases o with
  |none=>cases h
  |some j=>
   refine⟨j,rfl,?_⟩;have h:=W6 h;dsimp only at h;split at h
   ·rename_i v hv;rw[hv,h]
   ·cases h
theorem mO (h:js[i]? = some (some j))(hv:σ[j]? = some (some v)):(uA js σ)[i]? = some (some v):=by
 unfold uA;rw[WQ,h];dsimp only[Option.map];rw[hv]
theorem rj (h:js[i]? = some (some j)):(tw G js).is i=G.is j:=by
 unfold tw Gm.is;dsimp only;rw[List.getD,WQ,h];rfl
theorem AO (js:List (Option Nat))(ρ:Ev)(σ:St):(jj js ρ).length=(uA js σ).length:=by
 unfold jj uA;rw[Ww,Ww]
section
variable {ρi:Ev}
theorem AQ (q:cz K G Z A ρ σ H)(ok:nP js=true):cz K (tw G js) ⟨λ_=>False,λ_=>none,0⟩ A (jj js ρ) (uA js σ) H where
 slot:=λi u h=>by
  obtain⟨j,h1,h2⟩:=mN h;obtain⟨v,h3,h4⟩:=q.slot j u h2;refine⟨v,mO h1 h3,?_⟩;rw[rj h1];by_cases c:G.is j=true
  ·rw[hZ c] at h4 ⊢;obtain⟨a,e1,e2,_,_,e5⟩:=h4;exact⟨a,e1,e2,rfl,.inl id,e5⟩
  ·rw[hV c] at h4 ⊢;exact h4
 dis:=λi k u w a ci ck ne hi hk si sk=>by
  obtain⟨j,h1,h2⟩:=mN hi;obtain⟨j',Lh,Li⟩:=mN hk;rw[rj h1] at ci;rw[rj Lh] at ck;obtain⟨b,e1,_⟩:=q.own ci h2;obtain⟨b',Az,_⟩:=q.own ck Li;rw[mO h1 e1] at si;rw[mO Lh Az] at sk;cases si;cases sk;exact q.dis j j' u w a ci ck (λz=>ne (by subst z;exact rh ok h1 Lh)) h2 Li e1 Az
 mu:=q.mu
 sup:=λ_ h=>h.elim
 out:=λ_ _=>.inr rfl
 bas:=λ_ _ h=>by cases h
 io0:=λh=>by cases h
 len:=AO js ρ σ
def Ir (G:Gm)(js:List (Option Nat))(ρ:Ev)(σ:St)(a:W8):Prop:=∃(i j:Nat) (u:U),js[i]? = some (some j)/\G.is j=true/\ρ[j]? = some (some u)/\σ[j]? = some (some (.ref a))
open Classical in
noncomputable def Mm (G:Gm)(js:List (Option Nat))(A:W8->Prop)(ρ:Ev)(σ:St)(H:Hp):Pkg:=⟨λa=>A a/\¬Ir G js ρ σ a,λa=>if Ir G js ρ σ a then none else H a,0⟩
theorem rk (h:Ir G js ρ σ a):(Mm G js A ρ σ H).B a=none:=by
 unfold Mm;dsimp only;exact hZ h
theorem mP (h:¬Ir G js ρ σ a):(Mm G js A ρ σ H).B a=H a:=by
 unfold Mm;dsimp only;exact hV h
theorem Mn (q:cz K G Z A ρ σ H)(ok:nP js=true):cz K (tw G js) (Mm G js A ρ σ H) A (jj js ρ) (uA js σ) H where
 slot:=λi u h=>by
  obtain⟨j,h1,h2⟩:=mN h;obtain⟨v,h3,h4⟩:=q.slot j u h2;refine⟨v,mO h1 h3,?_⟩;rw[rj h1];by_cases c:G.is j=true
  ·rw[hZ c] at h4 ⊢;obtain⟨a,e1,e2,_,_,e5⟩:=h4;subst e1;have cp:Ir G js ρ σ a:=⟨i,j,u,h1,c,h2,h3⟩;exact⟨a,rfl,e2,rk cp,.inl λz=>z.2 cp,e5⟩
  ·rw[hV c] at h4 ⊢;exact h4
 dis:=(AQ q ok).dis
 mu:=q.mu
 sup:=λ_ h=>h.1
 out:=λa h=>by
  by_cases c:Ir G js ρ σ a
  ·exact .inr (rk c)
  ·exact .inl ⟨h,c⟩
 bas:=λa o h=>by
  by_cases c:Ir G js ρ σ a
  ·rw[rk c] at h;cases h
  ·rw[mP c] at h;exact h
 io0:=λh=>by cases h
 len:=AO js ρ σ
noncomputable def kr:List (Option Nat)->Nat->Option Nat
 | [],_=>none
 |o::r,j=>if o=some j then some 0 else (kr r j).map (·+1)
theorem uE:∀{js:List (Option Nat)} {i j:Nat},kr js j=some i->js[i]? = some (some j)
 | [],_,_,h=>by cases h
 |o::r,i,j,h=>by
  unfold kr at h;split at h
  ·rename_i e;cases h;rw[e];rfl
  ·cases e:kr r j with
   |none=>rw[e] at h;cases h
   |some k=>
    rw[e] at h;cases h;rw[X2];exact uE e
theorem rl:∀{js:List (Option Nat)} {i j:Nat},kr js j=none->js[i]? ≠ some (some j)
 | [],_,_,_=>by simp
 |o::r,i,j,h=>by
  unfold kr at h;split at h
  ·cases h
  ·rename_i ne;cases e:kr r j with
   |some k=>rw[e] at h;cases h
   |none=>
    cases i with
    |zero=>intro z;exact ne (W6 z)
    |succ i=>rw[X2];exact rl e
noncomputable def wb (G:Gm)(js:List (Option Nat))(ρi ρ:Ev):Ev:=ρ.mapIdx λj x=>if (G.is j&&x.isSome)=true then (match kr js j with
 |some i=>(ρi[i]?).getD none
 |none=>x) else x
theorem zv (h:(wb G js ρi ρ)[j]? = some (some u)):∃u0,ρ[j]? = some (some u0)/\((G.is j=true/\∃i,kr js j=some i/\ρi[i]? = some (some u))\/(u0=u/\(G.is j=false\/kr js j=none))):=by
 unfold wb at h;rw[List.getElem?_mapIdx] at h;cases e:ρ[j]? with
 |none=>rw[e] at h;cases h
 |some x=>
  rw[e] at h;have h:=W6 h;cases x with
  |none=>simp at h
  |some u0=>
   refine⟨u0,rfl,?_⟩;dsimp only at h;by_cases c:G.is j=true
   ·rw[hZ (by rw[c];rfl)] at h;split at h
    ·rename_i i hi;refine .inl ⟨c,i,hi,?_⟩;cases e2:ρi[i]? with
     |none=>rw[e2] at h;cases h
     |some y=>rw[e2] at h;simp at h;rw[h]
    ·rename_i hi;exact .inr ⟨W6 h,.inr hi⟩
   ·have c:G.is j=false:=aa5.mpr c;rw[hV (by rw[c];exact WA)] at h;exact .inr ⟨W6 h,.inl c⟩
theorem cz.wb {σ4:St}(q:cz K G Z A ρ σ H)(ok:nP js=true)(q':cz K (tw G js) (Mm G js A ρ σ H) A ρi σ4 H')(ho:∀i,(tw G js).is i=true->σ4[i]? = (uA js σ)[i]?):cz K G Z A (L2.wb G js ρi ρ) σ H'/\eO A H H':=by
 have QO:∀a,Ir G js ρ σ a->A a/\Z.B a=none:=λa h00=>by
  obtain⟨i,j,u,h1,h2,h3,h4⟩:=h00;obtain⟨b,e1,e2,e3,_⟩:=q.own h2 h3;rw[h4] at e1;cases e1;exact⟨e2,e3⟩
 have ex:eO A H H':=λb o nb z=>q'.bas b o (by rw[mP λc=>nb (QO b c).1];exact z);refine⟨{
  slot:=λj u h=>?_
  dis:=λi k u w a ci ck ne hi hk si sk=>by
   obtain⟨u1,h1,_⟩:=zv hi;obtain⟨u2,h2,_⟩:=zv hk;exact q.dis i k u1 u2 a ci ck ne h1 h2 si sk
  mu:=q'.mu
  sup:=q.sup
  out:=q.out
  bas:=λa o h=>q'.bas a o (by
   rw[mP λc=>by rw[(QO a c).2] at h;cases h];exact q.bas a o h)
  io0:=q.io0
  len:=by unfold L2.wb;rw[List.length_mapIdx];exact q.len},ex⟩
 obtain⟨u0,h0,hh⟩:=zv h;rcases hh with⟨c,i,hi,hu⟩|⟨rfl,hc⟩
 ·have hj:=uE hi;obtain⟨a,e1,e2,e3,e4,_⟩:=q.own c h0;have ci:(tw G js).is i=true:=by rw[rj hj];exact c
  obtain⟨a',k1,k2,_,_,k5⟩:=q'.own ci hu;rw[ho i ci,mO hj e1] at k1;cases k1;refine⟨.ref a,e1,?_⟩;rw[hZ c];exact⟨a,rfl,e2,e3,e4,k5⟩
 ·obtain⟨v,h1,h2⟩:=q.slot j u0 h0;refine⟨v,h1,?_⟩;by_cases c:G.is j=true
  ·rw[hZ c] at h2 ⊢;obtain⟨a,rfl,e2,e3,e4,e5⟩:=h2;have hc:kr js j=none:=by
    rcases hc with hc|hc
    ·rw[c] at hc;cases hc
    ·exact hc
   have nc:¬Ir G js ρ σ a:=λh00=>by
    obtain⟨i,j',u,z1,z2,z3,z4⟩:=h00;have ne:j≠j':=λz=>by subst z;exact rl hc z1
    exact q.dis j j' u0 u a c z2 ne h0 z3 h1 z4
   exact⟨a,rfl,e2,e3,e4,e5.re q.mu ex (λb z=>.inl z) λo z=>q'.bas a o (by rw[mP nc];exact z)⟩
  ·rw[hV c] at h2 ⊢;exact h2.re q.mu ex λb z=>.inl z
end
noncomputable def Dz (f:U->R (Option U)):List U->R (List U)
 | []=>.ok []
 |u::us=>(f u).bind λo=>(Dz f us).bind λr=>.ok (match o with
  |some y=>y::r
  |none=>r)
noncomputable def uF (js:List (Option Nat))(sg:U->Ev->R Ev)(gt:Ev->R (Bool×Ev))(ge:Ev->R (U×Ev))(ρ:Ev)(u:U):R (Option U):=
 (sg u (jj js ρ)).bind λρi=>(gt ρi).bind λc=>if c.1=true then (ge ρi).bind λy=>.ok (some y.1) else .ok none
noncomputable def jk (gi:Ev->R (List U×Ev))(js:List (Option Nat))(sg:U->Ev->R Ev)(gt:Ev->R (Bool×Ev))(ge:Ev->R (U×Ev)):Ev->R (U×Ev):=λρ=>
 (gi ρ).bind λx=>(Dz (uF js sg gt ge x.2) x.1).bind λys=>.ok (.lst ys,x.2)
noncomputable def nQ (G:Gm)(js:List (Option Nat))(sg:U->Ev->R Ev)(gt:Ev->R (Bool×Ev))(ge:Ev->R (U×Ev)):List U->Ev->R (List U×Ev)
 | [],ρ=>.ok ([],ρ)
 |u::us,ρ=>(sg u (jj js ρ)).bind λρi=>(gt ρi).bind λc=>if c.1=true then (ge c.2).bind λy=>(nQ G js sg gt ge us (wb G js y.2 ρ)).bind λr=>.ok (y.1::r.1,r.2) else nQ G js sg gt ge us (wb G js c.2 ρ)
noncomputable def vE (G:Gm)(gi:Ev->R (List U×Ev))(js:List (Option Nat))(sg:U->Ev->R Ev)(gt:Ev->R (Bool×Ev))(ge:Ev->R (U×Ev)):Ev->R (U×Ev):=λρ=>
 (gi ρ).bind λx=>(nQ G js sg gt ge x.1 x.2).bind λy=>.ok (.lst y.1,y.2)
theorem R.bind_ok {α β:Type}{x:R α}{k:α->R β}{b:β}(h:x.bind k=.ok b):∃a,x=.ok a/\k a=.ok b:=by
 cases x with
 |ok a=>exact⟨a,rfl,h⟩
 |exc=>cases h
 |stk=>cases h
section
variable {e:YV}{b1 b2 b3 p:Bool}{m me:Md}{gi:Ev->R (List U×Ev)}{gt:Ev->R (Bool×Ev)}{ge:Ev->R (U×Ev)}
theorem Ez (ok:nP js=true)(hn:me≠.P){Q:VK}(h:tD X.K G b1 .O (jk gi js sg gt ge) σ H Q) :
  Q4 (Q9 X.K G b1 p gi) js (λ_=>Sg X.K (tw G js) sg) (λ_=>Ih X.K (tw G js) false gt) (λ_=>tD X.K (tw G js) false me ge) σ H Q:=by
 obtain⟨Z,A,ρ,q,f⟩:=h;obtain⟨⟨us,ρ1⟩,e1,f⟩:=f.bind;obtain⟨all,e2,f⟩:=f.bind;refine⟨Z,A,ρ,q,?_⟩;rw[e1];intro J H1 q1 x1 s1 ⟨hz,wk⟩ Y;dsimp only at e2 f;refine⟨λi k ys H2=>i+k=us.length/\aG H1 H2/\∃done rest,Dz (uF js sg gt ge ρ1) (us.drop i)=.ok rest/\done++rest=all/\aE X.K H2 A done ys/\done.length<=i,
  ⟨us.length,by lia,aG.refl _,[],all,by rw[abe];exact e2,rfl,aE.nil,WK _⟩,?_⟩
 rintro i k ys H2 ⟨hk,sm,done,rest,e3,e4,rs,hd⟩;have q2:=q1.same sm;obtain⟨w1,w2⟩:=wk H2 A (by split;exact sm;exact eO.same sm) λb z=>.inl z;by_cases Dt:i<us.length
 ·have eu:us[i]? = some us[i]:=Wx Dt;obtain⟨go,yl⟩:=w1 i _ eu;rw[X6 Dt] at e3;unfold Dz at e3;obtain⟨o,e5,e3⟩:=R.bind_ok e3;obtain⟨r,e6,e3⟩:=R.bind_ok e3;unfold uF at e5;obtain⟨ρi,e7,e5⟩:=R.bind_ok e5;obtain⟨⟨c,ρc⟩,e8,e5⟩:=R.bind_ok e5;refine .inr ⟨go,by rw[←rs.length];lia,λLk H'=>aG H1 H'/\∃done,done++r=all/\aE X.K H' A done Lk/\done.length<=i+1,λLk H' ⟨z1,dn,z2,z3,z4⟩=>⟨k-1,by lia,by lia,z1,dn,r,e6,z2,z3,z4⟩,λx H3 y=>?_⟩;obtain⟨sm3,rp⟩:=yl x H3 y;refine⟨_,A,jj js ρ1,us[i],(AQ (q2.same sm3) ok),rp,?_⟩;rw[e7];intro σ4 q4 _;refine⟨_,A,ρi,q4,?_⟩;rw[e8];intro H5 q5 x5 s5;obtain⟨rfl,sm5⟩:=s5 rfl;cases c with
  |false=>
   rw[hV WA] at e5 ⊢;cases e5;cases e3;exact⟨(sm.trans sm3).trans sm5,done,e4,(rs.same sm3).same sm5,by lia⟩
  |true=>
   rw[hZ rfl] at e5 ⊢;obtain⟨⟨y1,ρy⟩,e9,e5⟩:=R.bind_ok e5;cases e5;cases e3;refine⟨_,A,ρc,q5,?_⟩;rw[e9];intro v H6 q6 x6 s6 vm;obtain⟨rfl,sm6⟩:=s6 rfl;have Um:=sm3.trans (sm5.trans sm6);exact⟨sm.trans Um,done++[y1],by rw[W9];exact e4,(rs.same Um).append (aE.cons (vm.rp hn) aE.nil),by rw[WI];simp;lia⟩
 ·have e:i=us.length:=by lia
  subst e;rw[aat] at e3;cases e3;rw[Xr] at e4;subst e4;refine .inl ⟨w2,λa na=>?_⟩;have sn:=cC na (.lst ys);exact f _ _ (q2.same sn) ((x1.trans (eO.same sm)).trans (eO.same sn)) (qZ (qZ s1 sm) sn) (AK.e q2 sn ⟨a,rfl,na,bT q2.mu rs na (by lia)⟩)
theorem xA (ok:nP js=true)(hn:me≠.P){Q:VK}(h:tD X.K G true .O (vE G gi js sg gt ge) σ H Q) :
  Q4 (Q9 X.K G b1 false gi) js (λ_=>Sg X.K (tw G js) sg) (λ_=>Ih X.K (tw G js) b2 gt) (λ_=>tD X.K (tw G js) b3 me ge) σ H Q:=by
 obtain⟨Z,A,ρ,q,f⟩:=h;obtain⟨⟨us,ρ1⟩,e1,f⟩:=f.bind;obtain⟨⟨all,ρe⟩,e2,f⟩:=f.bind;refine⟨Z,A,ρ,q,?_⟩;rw[e1];intro J H1 q1 x1 s1 ⟨hz,wk⟩ Y;dsimp only at e2 f;refine⟨λi k ys H2=>i+k=us.length/\eO A H1 H2/\∃ρ2 done rest,cz X.K G Z A ρ2 σ H2/\nQ G js sg gt ge (us.drop i) ρ2=.ok (rest,ρe)/\done++rest=all/\aE X.K H2 A done ys/\done.length<=i,
  ⟨us.length,by lia,eO.refl,ρ1,[],all,q1,by rw[abe];exact e2,rfl,aE.nil,WK _⟩,?_⟩
 rintro i k ys H2 ⟨hk,ex,ρ2,done,rest,q2,e3,e4,rs,hd⟩;obtain⟨w1,w2⟩:=wk H2 A (by rw[hV WA];exact ex) λb z=>.inl z;by_cases Dt:i<us.length
 ·have eu:us[i]? = some us[i]:=Wx Dt;obtain⟨go,yl⟩:=w1 i _ eu;rw[X6 Dt] at e3;unfold nQ at e3;obtain⟨ρi,e7,e3⟩:=R.bind_ok e3;obtain⟨⟨c,ρc⟩,e8,e3⟩:=R.bind_ok e3;refine .inr ⟨go,by rw[←rs.length];lia,λLk H'=>eO A H1 H'/\∃ρ2 done rest,cz X.K G Z A ρ2 σ H'/\nQ G js sg gt ge (us.drop (i+1)) ρ2=.ok (rest,ρe)/\done++rest=all/\aE X.K H' A done Lk/\done.length<=i+1,λLk H' z=>⟨k-1,by lia,by lia,z⟩,λx H3 y=>?_⟩;obtain⟨sm3,rp⟩:=yl x H3 y;have q3:=q2.same sm3;refine⟨Mm G js A ρ2 σ H3,A,jj js ρ2,us[i],Mn q3 ok,rp,?_⟩;rw[e7];intro σ4 q4 o4;refine⟨_,A,ρi,q4,?_⟩;rw[e8];intro H5 q5 x5 s5;dsimp only at e3;cases c with
  |false=>
   rw[hV WA] at e3 ⊢;obtain⟨q6,x6⟩:=q3.wb ok q5 o4;exact⟨ex.trans ((eO.same sm3).trans x6),_,done,rest,q6,e3,e4,(rs.same sm3).re q3.mu x6 (λb z=>.inl z),by lia⟩
  |true=>
   rw[hZ rfl] at e3 ⊢;obtain⟨⟨y1,ρy⟩,e9,e3⟩:=R.bind_ok e3;obtain⟨⟨r,ρr⟩,e10,e3⟩:=R.bind_ok e3;cases e3;refine⟨_,A,ρc,q5,?_⟩;rw[e9];intro v H6 q6 x6 s6 vm;obtain⟨q7,x7⟩:=q3.wb ok q6 o4;exact⟨ex.trans ((eO.same sm3).trans x7),_,done++[y1],r,q7,e10,by rw[W9];exact e4,((rs.same sm3).re q3.mu x7 (λb z=>.inl z)).append (aE.cons (vm.rp hn) aE.nil),by rw[WI];simp;lia⟩
 ·have e:i=us.length:=by lia
  subst e;rw[aat] at e3;cases e3;rw[Xr] at e4;subst e4;refine .inl ⟨w2,λa na=>?_⟩;have sn:=cC na (.lst ys);exact f _ _ (q2.same sn) ((x1.trans ex).trans (eO.same sn)) (λz=>nomatch z) (AK.e q2 sn ⟨a,rfl,na,bT q2.mu rs na (by lia)⟩)
structure Iu (X:Cx)(G:Gm)(s_:List YV)(b:Bool)(h:Ev->R (Bool×Ev)):Prop where
 un:Ee X s_ (Ih X.K G b h)
noncomputable def cK:Ev->R (Bool×Ev):=λρ=>.ok (true,ρ)
theorem bu:Iu X G [] false cK:=⟨λpins s σ H Q I ⟨Z,A,ρ,q,f⟩=>Ef pins s σ H Q I (f H q eO.refl λ_=>⟨rfl,aG.refl _⟩)⟩
theorem eU (lj:acj)(NX N:List Str)(js:List (Option Nat))(hc:X.calm=true)(hi:DI X G tg iter b1 p gi)(wW:∀Y:qh,DG (dX X scope N Y) (tw G js) tg sg/\Iu (dX X scope N Y) (tw G js) s_ false gt/\DE (dX X scope N Y) (tw G js) elt false me ge)(hn:me≠.P:=by decide)(ok:nP js=true:=by rfl)(lB:X.env.scope=lj:=by rfl)(JL:X.N=NX:=by rfl)(hS:tF lj NX scope N js=true:=by decide+kernel)(hs:∀x,YR iter X.env x=pure x:=by intro _;rfl):DE X G (.ListComp elt [⟨tg,iter,s_,0⟩] scope pos) b1 .O (jk gi js sg gt ge):=⟨(JQ lj NX N js hc hi.un (λY=>⟨(wW Y).1.un,(wW Y).2.1.un,(wW Y).2.2.un⟩) lB JL hS hs).to λ_ _ _=>Ez ok hn⟩
theorem vF (lj:acj)(NX N:List Str)(js:List (Option Nat))(hc:X.calm=true)(hi:DI X G tg iter b1 false gi)(wW:∀Y:qh,DG (dX X scope N Y) (tw G js) tg sg/\Iu (dX X scope N Y) (tw G js) s_ b2 gt/\DE (dX X scope N Y) (tw G js) elt b3 me ge)(hn:me≠.P:=by decide)(ok:nP js=true:=by rfl)(lB:X.env.scope=lj:=by rfl)(JL:X.N=NX:=by rfl)(hS:tF lj NX scope N js=true:=by decide+kernel)(hs:∀x,YR iter X.env x=pure x:=by intro _;rfl):DE X G (.ListComp elt [⟨tg,iter,s_,0⟩] scope pos) true .O (vE G gi js sg gt ge):=⟨(JQ lj NX N js hc hi.un (λY=>⟨(wW Y).1.un,(wW Y).2.1.un,(wW Y).2.2.un⟩) lB JL hS hs).to λ_ _ _=>xA ok hn⟩
variable {ka p_:Pos}
theorem zx (lj:acj)(NX N:List Str)(js:List (Option Nat))(hN:X.N.Nodup)(hc:X.calm=true)(hi:DI X G tg iter b1 false gi)(wW:∀Y:qh,DG (dX X scope N Y) (tw G js) tg sg/\Iu (dX X scope N Y) (tw G js) s_ b2 gt/\DE (dX X scope N Y) (tw G js) elt b3 me ge)(h0:G.io=true->i≠0:=by decide)(hx:X.N[i]? = some x:=by rfl)(hl:Hi X.env.scope x:=by first|exact Or.inl rfl|exact Or.inr rfl)(c:G.is i=true:=by rfl)(hn:me≠.P:=by decide)(ok:nP js=true:=by rfl)(lB:X.env.scope=lj:=by rfl)(JL:X.N=NX:=by rfl)(hS:tF lj NX scope N js=true:=by decide+kernel)(hw:aaI (.ListComp elt [⟨tg,iter,s_,0⟩] scope p_) (some (.Name x ka)) pos.line X.env=pure true:=by rfl)(hf:X.fn x=true\/X.env.scope.names.lookup x=some .local:=by first|exact .inl rfl|exact .inr rfl|assumption)(hs:∀x,YR iter X.env x=pure x:=by intro _;rfl):DS X G m (.Assign [.Name x ka] (.ListComp elt [⟨tg,iter,s_,0⟩] scope p_) pos) (ba i (vE G gi js sg gt ge)):=⟨(Eg lj NX N js hN hx hl hc hi.un (λY=>⟨(wW Y).1.un,(wW Y).2.1.un,(wW Y).2.2.un⟩) lB JL hS hw hf hs).to λ_ _ _=>uD (b1:=true) c h0 λ_ _ _=>xA (b1:=b1) (b2:=b2) (b3:=b3) ok hn⟩
end
end L2
namespace L2
noncomputable def cg (n:Nat)(us:List U):Ev:=us.map some++List.replicate (n-us.length) none
noncomputable def eM (m:Md)(n:Nat)(s:Ev->SR):List U->R U:=λus=>match s (cg n us) with
 | .rt u _=>.ok u
 | .nx _=>if m=.S then .ok .non else .stk
 | .exc c u=>.exc c u
 |_=>.stk
noncomputable def zy (n:Nat)(s:Ev->SR):List U->R (U×U):=λus=>match s (cg n us) with
 | .rt u ρ=>match ρ[0]? with
  |some (some w)=>.ok (u,w)
  |_=>.stk
 | .nx ρ=>match ρ[0]? with
  |some (some w)=>.ok (.non,w)
  |_=>.stk
 | .exc c u=>.exc c u
 |_=>.stk
theorem mQ (h:(cg n us)[i]? = some (some u)):us[i]? = some u:=by
 unfold cg at h;by_cases c:i<(us.map some).length
 ·rw[X5 c,WQ] at h;cases e:us[i]? with
  |none=>rw[e] at h;cases h
  |some w=>rw[e] at h;simp at h;rw[h]
 ·rw[XN (by lia),List.getElem?_replicate] at h;split at h
  ·cases h
  ·cases h
theorem kT (h:vs[i]? = some v):(aaH N vs)[i]? = some (some v):=by
 unfold aaH;have c:i<(vs.map some).length:=by rw[Ww];exact (WE.mp h).1
 rw[X5 c,WQ,h];rfl
theorem AR (h:us.length=vs.length):(cg N.length us).length=(aaH N vs).length:=by
 unfold cg aaH;rw[WI,WI,Ww,Ww,abj,abj,h]
section
variable {base:Zv}
theorem vG (G:Gm)(m:Md)(s:Ev->SR)(Hq:G.io=false)(qb:∀i,i<ps.length->G.is i=false)(iC:∀(f:W8) (cN:WG) (A:XD) (outer:List Env) (s0:WT) (H:Hp) (E:XK),eQ k (A.deeper (ab3 x (ah st) s0.heap.objs.size f cN))->
   AM (pJ xk P w K mg base N x (ah st) f cN A outer s0 H E).nox G m (bX st) s) :
  (∀vs H Q E,gF K ps.length (eM m N.length s) m vs H Q E->vs.length=ps.length)/\∀(f:W8) (cN:WG) (A:XD) (outer:List Env) (s0:WT) (H:Hp) (vs:List V) (Q:VK) (E:XK),eQ k (A.deeper (ab3 x (ah st) s0.heap.objs.size f cN))->gF K ps.length (eM m N.length s) m vs H Q E->
   ∃t,uk (pJ xk P w K mg base N x (ah st) f cN A outer s0 H E).nox (bX st) t/\t {nx:=λ_ H'=>Q .non H',rt:=Q} (aaH N vs) H:=by
 have hl:∀(us:List U) (A:W8->Prop) (H:Hp) (Q:VK),O6 K m A H (zp ps.length (eM m N.length s) us) Q->us.length=ps.length:=λus A H Q h=>by
  unfold zp at h;split at h
  ·assumption
  ·exact h.elim
 refine⟨λvs H Q E ⟨us,A,r,_,h⟩=>by rw[←r.length];exact hl us A H Q h,λf cN A outer s0 H vs Q E hr ⟨us,A0,r,mu,h⟩=>⟨_,(iC f cN A outer s0 H E hr).un,?_⟩⟩;have l:=hl us A0 H Q h;unfold zp at h;rw[hZ l] at h;refine⟨⟨A0,H,0⟩,A0,cg N.length us,?_,?_⟩
 ·exact {
   slot:=λi u hu=>by
    have hu:=mQ hu;obtain⟨v,h1,h2⟩:=r.get hu;refine⟨v,kT h1,?_⟩;rw[hV (by rw[qb i (by rw[←l];exact (WE.mp hu).1)];exact WA)];exact h2
   dis:=λi j u w a ci cj ne hi hj si sj=>by
    rw[qb i (by rw[←l];exact (WE.mp (mQ hi)).1)] at ci;cases ci
   mu:=mu
   sup:=λa h=>h
   out:=λa h=>.inl h
   bas:=λa o h=>h
   io0:=λh=>by rw[Hq] at h;cases h
   len:=AR r.length}
 ·unfold eM at h;cases e:s (cg N.length us) with
  |nx ρ'=>
   rw[e] at h;dsimp only at h;intro A' σ' H' q;split at h
   ·rename_i hm;subst hm;exact h _ H' q.bas (show Rp K H' A0 .non .non from q_)
   ·exact h.elim
  |rt u ρ'=>
   rw[e] at h;intro A' σ' H' v q vm;refine h v H' q.bas ?_;cases m with
   |S=>exact vm
   |P=>exact vm.elim
   |O=>
    obtain⟨a,e1,e2,e3,e4⟩:=vm;exact⟨a,e1,e2,e4⟩
  |bk=>rw[e] at h;exact h.elim
  |ct=>rw[e] at h;exact h.elim
  |exc=>rw[e] at h;exact h.elim
  |stk=>rw[e] at h;exact h.elim
theorem Df.fnD (G:Gm)(m:Md)(s:Ev->SR)(d:Df K mg x st)(S:aJ N ps (ah st))(hb:∀(kV nF pm:WG) (an:Option W8) (cN ct:WG) (us:List WG),us.length=ps.length->bindArgs (YI x x (eR st) (bX st) (ah st) .none kV nF pm an cN ct) ⟨us,[]⟩=pure (ps.zip us))(Hq:G.io=false)(qb:∀i,i<ps.length->G.is i=false)(iC:∀(f:W8) (cN:WG) (A:XD) (outer:List Env) (s0:WT) (H:Hp) (E:XK),eQ k (A.deeper (ab3 x (ah st) s0.heap.objs.size f cN))->
   AM (pJ xk P w K mg base N x (ah st) f cN A outer s0 H E).nox G m (bX st) s):Fn P w K mg base x (k+1) ps (gF K ps.length (eM m N.length s) m):=
 d.fn S hb (vG G m s Hq qb iC).1 (vG G m s Hq qb iC).2
theorem Hk.okD (G:Gm)(m:Md)(s:Ev->SR)(F:Hk K x x st f fd)(S:aJ N ps (ah st))(Hq:G.io=false)(qb:∀i,i<ps.length->G.is i=false)(iC:∀(f:W8) (cN:WG) (A:XD) (outer:List Env) (s0:WT) (H:Hp) (E:XK),eQ k (A.deeper (ab3 x (ah st) s0.heap.objs.size f cN))->
   AM (pJ xk P w K mg base N x (ah st) f cN A outer s0 H E).nox G m (bX st) s):lq P w K mg base xk (k+1) f fd ps (gF K ps.length (eM m N.length s) m):=
 F.ok S (vG G m s Hq qb iC).1 ((vG G m s Hq qb iC).2 f)
def xB (K:WD):Sp:=λvs H Q _=>∃(a:W8) (ns:List Int),vs=[.ref a]/\Ic K H a (ns.map V.int)/\ns.length<=63/\∀H',Q (.bl true) H'
theorem Mo (hO:H0 H)(h:gc K H a xs):Ic K H a xs:=by
 rcases h with (h|h)|h
 ·rcases hO a with z|⟨o,ys,z⟩
  ·rw[h] at z;cases z
  ·rw[h] at z;cases z
 ·exact .inl h
 ·exact .inr h
theorem xC {H:Hp}{A:W8->Prop}:∀(ns:List Int),aE K H A (ns.map .int) (ns.map V.int)
 | []=>aE.nil
 |n::ns=>aE.cons di (xC ns)
theorem Mp {f:List U->R U}{fa:W8}(F:lq P w K mg base xk k fa fd ["script"] (gF K 1 f .S))(h:∀ns:List Int,ns.length<=63->f [.scr (ns.map .int)]=.ok (.bl true)):lq P w K mg base xk k fa fd ["script"] (xB K):=by
 refine F.imp λvs H Q E ⟨a,ns,e,sc,l,q⟩=>?_;subst e;have hl:(ns.map U.int).length<=WC:=by rw[Ww];have:WC=16777216:=rfl;lia
 refine⟨[.scr (ns.map .int)],λ_=>False,aE.cons ?_ aE.nil,λ_ h=>h.elim,?_⟩
 ·unfold Rp;exact⟨a,_,rfl,sc,hl,xC ns⟩
 ·have e:zp 1 f [.scr (ns.map .int)]=.ok (.bl true):=(hZ rfl).trans (h ns l);rw[e];intro v H' sm vm;have vm:Rp K H' (λ_=>False) (.bl true) v:=vm;unfold Rp at vm;subst vm;exact q H'
theorem Df.fnI (G:Gm)(s:Ev->SR)(d:Df K mg x st)(S:aJ N ps (ah st))(hb:∀(kV nF pm:WG) (an:Option W8) (cN ct:WG) (us:List WG),us.length=ps.length->bindArgs (YI x x (eR st) (bX st) (ah st) .none kV nF pm an cN ct) ⟨us,[]⟩=pure (ps.zip us))(Hq:G.io=true)(h0:G.is 0=true)(qb:∀i,i<ps.length->i≠0->G.is i=false)(iC:∀(f:W8) (cN:WG) (A:XD) (outer:List Env) (s0:WT) (H:Hp) (E:XK),eQ k (A.deeper (ab3 x (ah st) s0.heap.objs.size f cN))->
   AM (pJ xk P w K mg base N x (ah st) f cN A outer s0 H E).nox G .S (bX st) s):Fn P w K mg base x (k+1) ps (Es K ps.length (zy N.length s)):=by
 refine d.fn S hb ?_ ?_
 ·rintro vs H Q E ⟨u0,us,a0,vs',A,rfl,_,_,r,_,h⟩;unfold zp at h;split at h
  ·rename_i e;split at e
   ·rename_i l;rw[WS,←r.length,←l];rfl
   ·cases e
  ·exact h.elim
 ·rintro f cN A outer s0 H vs Q E hr ⟨u0,us,a0,vs',A0,rfl,ha,t0,r,mu,h⟩;refine⟨_,(iC f cN A outer s0 H E hr).un,?_⟩;have l:(u0::us).length=ps.length:=by
   unfold zp at h;by_cases c:(u0::us).length=ps.length
   ·exact c
   ·rw[hV c] at h;exact h.elim
  unfold zp at h;rw[hZ l] at h
  let Z:Pkg:=⟨A0,λb=>if b=a0 then none else H b,a0⟩
  have zb:∀b o,b≠a0->H b=some o->Z.B b=some o:=λb o nb z=>by
   show (if b=a0 then none else H b)=some o;rw[hV nb];exact z
  have rel:cz K G Z A0 (cg N.length (u0::us)) (aaH N (.ref a0::vs')) H:={
   slot:=λi u hu=>by
    have hu:=mQ hu;cases i with
    |zero=>
     simp at hu;subst hu;refine⟨.ref a0,kT (by simp),?_⟩;rw[hZ h0];exact⟨a0,rfl,ha,by show (if a0=a0 then none else H a0)=none;rw[hZ rfl],.inr ⟨Hq,rfl⟩,t0⟩
    |succ i=>
     have hl:=(WE.mp hu).1;rw[X2] at hu;obtain⟨v,h1,h2⟩:=r.get hu;refine⟨v,kT (by rw[X2];exact h1),?_⟩;rw[hV (by rw[qb (i+1) (by rw[←l];exact hl) (by lia)];exact WA)];exact h2
   dis:=λi j u w a ci cj ne hi hj si sj=>by
    have hi:=(WE.mp (mQ hi)).1;have hj:=(WE.mp (mQ hj)).1;by_cases e:i=0
    ·rw[qb j (by rw[←l];exact hj) (by lia)] at cj;cases cj
    ·rw[qb i (by rw[←l];exact hi) e] at ci;cases ci
   mu:=mu
   sup:=λa h=>h
   out:=λa h=>.inl h
   bas:=λa o h=>by
    by_cases c:a=a0
    ·have h:(if a=a0 then none else H a)=some o:=h;rw[hZ c] at h;cases h
    ·have h:(if a=a0 then none else H a)=some o:=h;rw[hV c] at h;exact h
   io0:=λ_=>⟨kT (vs:=.ref a0::vs') (i:=0) (v:=.ref a0) rfl,h0⟩
   len:=AR (by rw[WS,WS,r.length])}
  have fin:∀(A':W8->Prop) (ρ':Ev) (σ':St) (H':Hp) (w:U),cz K G Z A' ρ' σ' H'->ρ'[0]? = some (some w)->(∀b o,b≠a0->H b=some o->H' b=some o)/\ko K H' A0 w a0:=λA' ρ' σ' H' w q hw=>by
   obtain⟨a,e1,e2,e3,e4,e5⟩:=q.own h0 hw;rw[(q.io0 Hq).1] at e1;cases e1;exact⟨λb o nb z=>q.bas b o (zb b o nb z),e5.mono q.sup⟩
  refine⟨Z,A0,_,rel,?_⟩;unfold zy at h;cases e:s (cg N.length (u0::us)) with
  |nx ρ'=>
   rw[e] at h;dsimp only at h;intro A' σ' H' q;split at h
   ·rename_i hm;split at hm
    ·rename_i w hw;cases hm;obtain⟨z1,z2⟩:=fin A' ρ' σ' H' _ q hw;exact h _ H' z1 z2 q_
    ·cases hm
   ·exact h.elim
  |rt u ρ'=>
   rw[e] at h;dsimp only at h;intro A' σ' H' v q vm;split at h
   ·rename_i hm;split at hm
    ·rename_i w hw;cases hm;obtain⟨z1,z2⟩:=fin A' ρ' σ' H' _ q hw;exact h _ H' z1 z2 vm
    ·cases hm
   ·exact h.elim
  |bk=>rw[e] at h;exact h.elim
  |ct=>rw[e] at h;exact h.elim
  |exc=>rw[e] at h;exact h.elim
  |stk=>rw[e] at h;exact h.elim
end
section
variable {e e2:YV}{p1:Pos}{y:Str}{b1 b2:Bool}{m m1 m2:Md}{g1 g2:Ev->R (U×Ev)}
noncomputable def AS (i:Nat)(gv gk:Ev->R (U×Ev)):Ev->SR:=λρ=>SR.of (gv ρ) λx=>if live x.2 i=true then SR.of (gk x.2) λy=>match y.1 with
 | .int k=>match y.2[i]? with
  |some (some (.lst us))=>match Dy us.length k with
   |some j=>.nx (y.2.set i (some (.lst (us.set j x.1))))
   |none=>.stk
  |_=>.stk
 |_=>.stk
 else .stk
theorem AU (he:DE X G e b1 m1 g1)(hk:DE X G e2 b2 m2 g2)(hn:m1≠.P:=by decide)(hN:X.N[i]? = some y:=by rfl)(hv:Dx X.env.scope y:=by first|exact Or.inl rfl|exact Or.inr (Or.inl rfl)|exact Or.inr (Or.inr rfl))(c:G.is i=true:=by rfl)(hd:(y==("__debug__":Str))=false:=by decide)(ny:(y==("__classdict__":Str))=false:=by decide)(ha:∀v,assign (.Subscript (.Name y p1) e2 p2) X.env v=(do
   let ov ←holding [v] (aaj (.Name y p1) X.env)
   let iv ←holding [v,ov] (aaj e2 X.env)
   standAt p2
   holding [v,ov,iv] (setItem ov iv v)
   release [v,ov,iv] []):=by intro _;rfl)(hs:swapsWithSole [.Subscript (.Name y p1) e2 p2] e pos.line X.env=pure false:=by rfl)(hw:swappedStores [.Subscript (.Name y p1) e2 p2] e X.env=pure none:=by rfl)(h1:(ZQ [.Subscript (.Name y p1) e2 p2] X.env).map (·.2)=[assign (.Subscript (.Name y p1) e2 p2) X.env]:=by rfl):DS X G m (.Assign [.Subscript (.Name y p1) e2 p2] e pos) (AS i g1 g2):=⟨(LA he.un (Lz (i4 hN hv hd ny) hk.un D8 ha) hs hw h1).to λD σ H h00=>by
 obtain⟨Z,A,ρ,q,f⟩:=h00;obtain⟨⟨u,ρ1⟩,e1,f⟩:=f.of;refine⟨Z,A,ρ,q,?_⟩;rw[e1];intro v H1 q1 x1 s1 vm;dsimp only at f;split at f
 ·rename_i hl;obtain⟨u00,hu0⟩:=vB hl;obtain⟨a0,h0,_⟩:=q1.own c hu0;obtain⟨⟨k,ρ2⟩,e2,f⟩:=f.of;refine⟨.ref a0,h0,Z,A,ρ1,q1,?_⟩;rw[e2];intro v2 H2 q2 x2 s2 yV;dsimp only at f;cases k with
  |int kk=>
   dsimp only at f;split at f
   ·rename_i us hu;split at f
    ·rename_i j hj;obtain⟨a0',k1,k2,_,_,k5⟩:=q2.own c hu;rw[h0] at k1;cases k1;obtain⟨xs,t1,t2,t3⟩:=k5;refine⟨a0,xs,kk,j,rfl,yV.pk.int,t1,by rw[←t3.length];exact hj,?_⟩;have em:∀b o,b≠a0->H2 b=some o->cD H2 a0 (.lst (xs.set j v)) b=some o:=λb o nb z=>by rw[aS nb];exact z
     have ex:eO A H2 (cD H2 a0 (.lst (xs.set j v))):=λb o nb z=>em b o (λy=>nb (y▸k2)) z;refine f A σ _ (q2.put c hu h0 em ⟨xs.set j v,bg,by rw[Yl];exact t2,?_⟩);exact (t3.re q2.mu ex λb z=>.inl z).set j (((vm.rp hn).re q1.mu x2 λb z=>.inl z).re q2.mu ex λb z=>.inl z)
    ·exact f.elim
   ·exact f.elim
  |_=>exact f.elim
 ·exact f.elim⟩
noncomputable def Sj (i:Nat)(p:U->U->R U)(g:Ev->R (U×Ev)):Ev->SR:=λρ=>match ρ[i]? with
 |some (some u)=>SR.of (g ρ) λy=>SR.of (p u y.1) λz=>.nx (y.2.set i (some z))
 |_=>.stk
end
end L2
namespace L2
def EA:R2:=λx y H Q=>∃l b xs zs,x=.ref l/\y=.ref b/\H l=some (.lst xs)/\H b=some (.lst zs)/\xs.length+zs.length<=WC/\∀p,H p=none->Q (.ref p) (cD H p (.lst (xs++zs)))
theorem Iv:lL X (aar .Add) EA:=by
 intro pins s σ H x y v u Q I rx ry h;obtain⟨l,b,xs,zs,rfl,rfl,hH,hB,hz,q⟩:=h;cases rx;cases ry;obtain⟨z,au,n,r,hl,e⟩:=I.lstM hH;obtain⟨z2,its2,n2,r2,Ho,e2⟩:=I.lstM hB;refine PySem.P.add_list e e2 ?_ (by rw[WJ,WJ];lia);have ea:au.toArray++its2.toArray=(au++its2).toArray:=by simp
 rw[ea];exact⟨.ref _,_,I.lnew (t':=s.toks) (r.append r2) (by rw[WI];lia),rfl,q _ I.fresh⟩
noncomputable def cM:U->U->R U:=λu w=>match u,w with
 | .int i,.int j=>.ok (.int (i+j))
 | .tup a,.tup b=>if a.length+b.length<=WC then .ok (.tup (a++b)) else .stk
 | .lst a,.lst b=>if a.length+b.length<=WC then .ok (.lst (a++b)) else .stk
 |_,_=>.stk
noncomputable def Mq:U->U->R U:=λu w=>match u,w with
 | .lst a,.lst b=>if a.length+b.length<=WC then .ok (.lst (a++b)) else .stk
 |_,_=>.stk
def JT:R2:=λx y H Q=>(Cp λi j=>.int (i+j)) x y H Q\/Em x y H Q\/EA x y H Q
theorem bY:lL X (aar .Add) JT:=LJ.or (En.or Iv)
theorem Iw:g_ K EA .O Mq:=λA H x y u w z Q hx hy mu e q=>by
 unfold Mq at e;split at e
 ·split at e
  ·rename_i hl;cases e;unfold Pk at hx hy;obtain⟨a,xs,rfl,h1,l1,r1⟩:=hx;obtain⟨b,ys,rfl,h2,l2,r2⟩:=hy;exact⟨a,b,xs,ys,rfl,rfl,h1,h2,by rw[←r1.length,←r2.length];exact hl,λp hp=>q _ _ (cC hp _) ⟨p,rfl,hp,bT mu (r1.append r2) hp (by rw[WI];exact hl)⟩⟩
  ·cases e
 ·cases e
theorem bZ:g_ K JT .S cM:=λA H x y u w z Q hx hy mu e q=>by
 unfold cM at e;split at e
 ·cases e;exact .inl ⟨_,_,hx.int,hy.int,q _ H (aG.refl _) (show Rp K H A _ _ from di)⟩
 ·split at e
  ·rename_i hl;cases e;unfold Pk at hx hy;obtain⟨a,xs,rfl,h1,l1,r1⟩:=hx;obtain⟨b,ys,rfl,h2,l2,r2⟩:=hy;refine .inr (.inl ⟨a,b,xs,ys,rfl,rfl,h1,h2,by rw[←r1.length,←r2.length];exact hl,λr H' sm hr=>q _ H' sm (show Rp K H' A _ _ from ?_)⟩);unfold Rp;exact⟨r,_,rfl,hr,by rw[WI];exact hl,(r1.append r2).same sm⟩
  ·cases e
 ·refine .inr (.inr (Iw A H x y _ _ z Q hx hy mu (show Mq (.lst _) (.lst _)=_ from e) λv H' sm vm=>q v H' sm ?_));obtain⟨a,rfl,na,t⟩:=vm;exact t.rp (λb h=>.inl h) λh=>by have:=mu a h;rw[na] at this;exact this
 ·cases e
noncomputable def pI (c:Int->Int->Bool)(f:Int->Int->Int):U->U->R U:=λu w=>match u,w with
 | .int i,.int j=>if c i j=true then .ok (.int (f i j)) else .stk
 |_,_=>.stk
theorem AV {C:Int->Int->Prop}{c:Int->Int->Bool}{f:Int->Int->Int}(h:∀i j,c i j=true->C i j):g_ K (rI C λi j=>.int (f i j)) .S (pI c f):=λA H x y u w z Q hx hy mu e q=>by
 unfold pI at e;split at e
 ·rename_i i j;split at e
  ·rename_i hc;cases e;exact⟨i,j,hx.int,hy.int,h i j hc,q _ H (aG.refl _) (show Rp K H A _ _ from di)⟩
  ·cases e
 ·cases e
noncomputable def CD:U->U->R U:=λu w=>match u,w with
 | .int i,.int j=>.ok (.int (i-j))
 |_,_=>.stk
theorem AW:g_ K (Cp λi j=>.int (i-j)) .S CD:=λA H x y u w z Q hx hy mu e q=>by
 unfold CD at e;split at e
 ·cases e;exact⟨_,_,hx.int,hy.int,q _ H (aG.refl _) (show Rp K H A _ _ from di)⟩
 ·cases e
noncomputable def i7 (i j:Int):Bool:=(decide (-(2 ^ 64)<i)&&decide (i<2 ^ 64))||(decide (-(2 ^ 64)<j)&&decide (j<2 ^ 64))
noncomputable def fz:U->U->R U:=pI i7 (·*·)
theorem cS:g_ K (rI HJ λi j=>.int (i*j)) .S fz:=AV λi j h=>by
 unfold i7 at h;simp only[Z2,W2,decide_eq_true_eq] at h;exact h
noncomputable def xD (_ j:Int):Bool:=decide (0<j)&&decide (j<18446744073709551616)
noncomputable def jl:U->U->R U:=pI xD (· / ·)
theorem eV:g_ K (rI Ej λi j=>.int (i / j)) .S jl:=AV λi j h=>by
 unfold xD at h;simp only[W2,decide_eq_true_eq] at h;exact h
noncomputable def pM:U->U->R U:=pI (λ_ j=>decide (0<j)) (· % ·)
theorem iQ:g_ K (rI (λ_ j=>0<j) λi j=>.int (i % j)) .S pM:=AV λi j h=>of_decide_eq_true h
noncomputable def Iy (i j:Int):Bool:=decide (0<=j)&&decide (j<=1000000)&&decide (i.natAbs<2 ^ 64)
noncomputable def Iz:U->U->R U:=pI Iy λi j=>i ^ j.toNat
theorem AX:g_ K (rI Ox λi j=>.int (i ^ j.toNat)) .S Iz:=AV λi j h=>by
 unfold Iy at h;simp only[W2,decide_eq_true_eq] at h;exact⟨h.1.1,h.1.2,h.2⟩
noncomputable def IA:U->R U:=λu=>match u with
 | .int i=>.ok (.int (-i))
 |_=>.stk
theorem IB:Mf K (rU λi=>.int (-i)) .S IA:=λA H x u z Q hx mu e q=>by
 unfold IA at e;split at e
 ·cases e;exact⟨_,hx.int,q _ H (aG.refl _) (show Rp K H A _ _ from di)⟩
 ·cases e
noncomputable def pC (f:Int->Int->Bool):U->U->R U:=λu w=>match u,w with
 | .int i,.int j=>.ok (.bl (f i j))
 |_,_=>.stk
theorem EB {f:Int->Int->Bool}:g_ K (Cp λi j=>.bl (f i j)) .S (pC f):=λA H x y u w z Q hx hy mu e q=>by
 unfold pC at e;split at e
 ·cases e;exact⟨_,_,hx.int,hy.int,q _ H (aG.refl _) (show Rp K H A _ _ from lC)⟩
 ·cases e
noncomputable def NZ:U->U->R U:=pC λi j=>decide (i<j)
noncomputable def UR:U->U->R U:=pC λi j=>decide (i<=j)
noncomputable def Q_:U->U->R U:=pC λi j=>decide (j<i)
noncomputable def Sk:U->U->R U:=pC λi j=>decide (j<=i)
mutual
noncomputable def nR:U->Option D
 | .non=>some .non
 | .bl b=>some (.bl b)
 | .int i=>some (.int i)
 | .str x=>some (.str x)
 | .tup us=>(j8 us).map .tup
 | .lst us=>(j8 us).map .lst
 | .dct _ _=>none
 | .scr _=>none
noncomputable def j8:List U->Option (List D)
 | []=>some []
 |u::us=>(nR u).bind λd=>(j8 us).map λds=>d::ds
end
mutual
theorem zA {H:Hp}{A:W8->Prop}:∀{u:U} {v:V} {d:D},Rp K H A u v->nR u=some d->aM K H d v
 | .non,v,d,h,e=>by unfold nR at e;cases e;unfold Rp at h;unfold aM;exact h
 | .bl b,v,d,h,e=>by unfold nR at e;cases e;unfold Rp at h;unfold aM;exact h
 | .int b,v,d,h,e=>by unfold nR at e;cases e;unfold Rp at h;unfold aM;exact h
 | .str b,v,d,h,e=>by unfold nR at e;cases e;unfold Rp at h;unfold aM;exact h
 | .tup us,v,d,h,e=>by
  unfold nR at e;cases e2:j8 us with
  |none=>rw[e2] at e;cases e
  |some ds=>
   rw[e2] at e;cases e;unfold Rp at h;unfold aM;obtain⟨a,xs,r,q,l,z⟩:=h;exact⟨a,xs,r,gU.of q,qk z e2⟩
 | .lst us,v,d,h,e=>by
  unfold nR at e;cases e2:j8 us with
  |none=>rw[e2] at e;cases e
  |some ds=>
   rw[e2] at e;cases e;unfold Rp at h;unfold aM;obtain⟨a,xs,r,_,q,l,z⟩:=h;exact⟨a,xs,r,gc.of q,qk z e2⟩
 | .dct _ _,v,d,h,e=>by unfold nR at e;cases e
 | .scr _,v,d,h,e=>by unfold nR at e;cases e
theorem qk {H:Hp}{A:W8->Prop}:∀{us:List U} {vs:List V} {ds:List D},aE K H A us vs->j8 us=some ds->fT K H ds vs
 | [],vs,ds,h,e=>by unfold j8 at e;cases e;unfold aE at h;unfold fT;exact h
 |u::us,vs,ds,h,e=>by
  unfold j8 at e;cases e1:nR u with
  |none=>rw[e1] at e;cases e
  |some d=>
   cases e2:j8 us with
   |none=>rw[e1,e2] at e;cases e
   |some ds'=>
    rw[e1,e2] at e;cases e;unfold aE at h;unfold fT;obtain⟨x,r,q,p,z⟩:=h;exact⟨x,r,q,zA p e1,qk z e2⟩
end
theorem EC {d:D}(h:Pk K H A u v)(e:nR u=some d):aM K H d v:=by
 cases u with
 |lst us=>
  unfold nR at e;cases e2:j8 us with
  |none=>rw[e2] at e;cases e
  |some ds=>
   rw[e2] at e;cases e;unfold Pk at h;unfold aM;obtain⟨a,xs,r,q,l,z⟩:=h;exact⟨a,xs,r,gc.of q,qk z e2⟩
 |dct=>unfold nR at e;cases e
 |scr=>unfold nR at e;cases e
 |tup us=>exact zA (A:=A) (by unfold Pk at h;unfold Rp;exact h) e
 |_=>exact zA (A:=A) (by unfold Pk at h;unfold Rp;exact h) e
noncomputable def ED (u w:U):R Bool:=match nR u,nR w with
 |some d,some d'=>if dg d<=30 then .ok (mm d d') else .stk
 |_,_=>.stk
noncomputable def O9 (f:Bool->Bool):U->U->R U:=λu w=>(ED u w).bind λb=>.ok (.bl (f b))
theorem EE {f:Bool->Bool}:g_ K (L4 K f) .S (O9 f):=λA H x y u w z Q hx hy mu e q=>by
 unfold O9 ED at e;obtain⟨b,e1,e2⟩:=R.bind_ok e;split at e1
 ·rename_i d d' h1 h2;split at e1
  ·rename_i hd;cases e1;cases e2;exact⟨d,d',EC hx h1,EC hy h2,hd,q _ H (aG.refl _) (show Rp K H A _ _ from lC)⟩
  ·cases e1
 ·cases e1
noncomputable def JU:U->Bool
 | .non=>true
 |_=>false
noncomputable def Sl (f:Bool->Bool):U->U->R U:=λu w=>match w with
 | .non=>.ok (.bl (f (JU u)))
 |_=>.stk
noncomputable def Sm (f:Bool->Bool):U->U->R U:=λu w=>match u,w with
 | .bl a,.bl b=>.ok (.bl (f (decide (a=b))))
 |_,_=>.stk
theorem zB {i:Int}{z:U}(r:aE K H A us xs)(e:my us i=some z):∃v,my xs i=some v/\Rp K H A z v:=by
 unfold my at e ⊢;rw[←r.length];cases h:Dy us.length i with
 |none=>rw[h] at e;cases e
 |some j=>
  rw[h] at e;obtain⟨v,h1,h2⟩:=r.get (show us[j]? = some z from e);exact⟨v,h1,h2⟩
noncomputable def je:U->U->R U:=λu w=>match u,w with
 | .lst us,.int i=>match my us i with
  |some z=>.ok z
  |none=>.stk
 | .tup us,.int i=>match my us i with
  |some z=>.ok z
  |none=>.stk
 | .scr us,.int i=>match my us i with
  |some z=>.ok z
  |none=>.stk
 | .str x,.int i=>match my x.cps.toList i with
  |some c=>if x.length<=WC then .ok (.str ⟨#[c]⟩) else .stk
  |none=>.stk
 |_,_=>.stk
theorem bI:g_ K (TB K) .S je:=λA H x y u w z Q hx hy mu e q=>by
 unfold je at e;split at e
 ·split at e
  ·rename_i z' hz;cases e;unfold Pk at hx;obtain⟨a,xs,rfl,h1,l1,r1⟩:=hx;obtain⟨v,h2,h3⟩:=zB r1 hz;exact .inl ⟨a,xs,_,v,rfl,hy.int,gc.of h1,h2,q _ H (aG.refl _) h3⟩
  ·cases e
 ·split at e
  ·rename_i z' hz;cases e;unfold Pk at hx;obtain⟨a,xs,rfl,h1,l1,r1⟩:=hx;obtain⟨v,h2,h3⟩:=zB r1 hz;exact .inr (.inl ⟨a,xs,_,v,rfl,hy.int,gU.of h1,h2,q _ H (aG.refl _) h3⟩)
  ·cases e
 ·split at e
  ·rename_i z' hz;cases e;unfold Pk at hx;obtain⟨a,xs,rfl,h1,l1,r1⟩:=hx;obtain⟨v,h2,h3⟩:=zB r1 hz;exact .inl ⟨a,xs,_,v,rfl,hy.int,h1.sq,h2,q _ H (aG.refl _) h3⟩
  ·cases e
 ·split at e
  ·rename_i z' hz;split at e
   ·rename_i hl;cases e;exact .inr (.inr ⟨_,_,z',hx.str,hy.int,hl,hz,q _ H (aG.refl _) (show Rp K H A _ _ from L_)⟩)
   ·cases e
  ·cases e
 ·cases e
noncomputable def jH {α:Type}(xs:List α)(lo hi:Option Int):List α:=(xs.drop (HT.sIx xs.length 0 lo)).take (HT.sIx xs.length xs.length hi-HT.sIx xs.length 0 lo)
theorem ku {α:Type}(xs:List α)(lo hi:Option Int):(jH xs lo hi).length<=xs.length:=by
 unfold jH;rw[W_,XA];lia
theorem vH (r:aE K H A us xs)(lo hi:Option Int):aE K H A (jH us lo hi) (qL xs lo hi):=by
 unfold jH qL;rw[←r.length];exact (r.drop _).take _
theorem fX:D6 X (λx lo hi H Q=>HY X.K x lo hi H Q\/El X.K x lo hi H Q):=HZ.or Ia
noncomputable def oG:U->Option Int->Option Int->R U:=λu lo hi=>match u with
 | .lst us=>.ok (.lst (jH us lo hi))
 | .scr us=>.ok (.lst (jH us lo hi))
 | .tup us=>.ok (.tup (jH us lo hi))
 |_=>.stk
noncomputable def O_:U->Option Int->Option Int->R U:=λu lo hi=>match u with
 | .lst us=>.ok (.lst (jH us lo hi))
 | .scr us=>.ok (.lst (jH us lo hi))
 |_=>.stk
theorem AY:Ew K (HY K) .O O_:=λA H x u lo hi z Q hx mu e q=>by
 unfold O_ at e;split at e
 ·cases e;unfold Pk at hx;obtain⟨a,xs,rfl,h1,l1,r1⟩:=hx;exact⟨a,xs,rfl,gc.of h1,λp hp=>q _ _ (cC hp _) ⟨p,rfl,hp,bT mu (vH r1 lo hi) hp (XG (ku _ _ _) l1)⟩⟩
 ·cases e;unfold Pk at hx;obtain⟨a,xs,rfl,h1,l1,r1⟩:=hx;exact⟨a,xs,rfl,h1.sq,λp hp=>q _ _ (cC hp _) ⟨p,rfl,hp,bT mu (vH r1 lo hi) hp (XG (ku _ _ _) l1)⟩⟩
 ·cases e
theorem JV (mu:∀a,A a->Mu (H a))(vm:AK K .O A H H' u v):Rp K H' A u v:=by
 obtain⟨a,rfl,na,t⟩:=vm;exact t.rp (λb h=>.inl h) λh=>by have:=mu a h;rw[na] at this;exact this
theorem ky:Ew K (λx lo hi H Q=>HY K x lo hi H Q\/El K x lo hi H Q) .S oG:=λA H x u lo hi z Q hx mu e q=>by
 unfold oG at e;split at e
 ·cases e;exact .inl (AY A H x _ lo hi _ Q hx mu rfl λv H' sm vm=>q v H' sm (JV mu vm))
 ·cases e;exact .inl (AY A H x _ lo hi _ Q hx mu rfl λv H' sm vm=>q v H' sm (JV mu vm))
 ·cases e;unfold Pk at hx;obtain⟨a,xs,rfl,h1,l1,r1⟩:=hx;refine .inr ⟨a,xs,rfl,h1,λr H' sm hr=>q _ H' sm (show Rp K H' A _ _ from ?_)⟩;unfold Rp;exact⟨r,_,rfl,hr,XG (ku _ _ _) l1,(vH r1 lo hi).same sm⟩
 ·cases e
end L2
namespace L2
section
theorem zo.one (h:zo K H A [u] vs):∃v,vs=[v]/\Pk K H A u v:=by
 unfold zo at h;obtain⟨x,r,rfl,p,q⟩:=h;unfold zo at q;subst q;exact⟨x,rfl,p⟩
theorem zo.two {w:U}(h:zo K H A [u,w] vs):∃v v',vs=[v,v']/\Pk K H A u v/\Pk K H A w v':=by
 unfold zo at h;obtain⟨x,r,rfl,p,q⟩:=h;obtain⟨v,rfl,q'⟩:=zo.one q;exact⟨x,v,rfl,p,q'⟩
noncomputable def iN:List U->R U:=λus=>match us with
 | [.lst xs]=>.ok (.int xs.length)
 | [.tup xs]=>.ok (.int xs.length)
 | [.scr xs]=>.ok (.int xs.length)
 | [.str x]=>if x.length<=WC then .ok (.int x.length) else .stk
 |_=>.stk
theorem gJ:mL K (λxs H Q=>∃x n,xs=[x]/\OD K x H n/\Q (.int n) H) .S iN:=λA H vs us z Q h mu e q=>by
 unfold iN at e;split at e
 ·rename_i xs;cases e;obtain⟨v,rfl,p⟩:=h.one;unfold Pk at p;obtain⟨a,ys,rfl,h1,l1,r1⟩:=p;exact⟨_,xs.length,rfl,.inl ⟨ys,gc.of h1,r1.length⟩,q _ H (aG.refl _) (show Rp K H A _ _ from di)⟩
 ·rename_i xs;cases e;obtain⟨v,rfl,p⟩:=h.one;unfold Pk at p;obtain⟨a,ys,rfl,h1,l1,r1⟩:=p;exact⟨_,xs.length,rfl,.inr ⟨ys,gU.of h1,r1.length⟩,q _ H (aG.refl _) (show Rp K H A _ _ from di)⟩
 ·rename_i xs;cases e;obtain⟨v,rfl,p⟩:=h.one;unfold Pk at p;obtain⟨a,ys,rfl,h1,l1,r1⟩:=p;exact⟨_,xs.length,rfl,.inl ⟨ys,h1.sq,r1.length⟩,q _ H (aG.refl _) (show Rp K H A _ _ from di)⟩
 ·rename_i x;split at e
  ·rename_i hl;cases e;obtain⟨v,rfl,p⟩:=h.one;have:=p.str;subst this;exact⟨_,x.length,rfl,⟨hl,rfl⟩,q _ H (aG.refl _) (show Rp K H A _ _ from di)⟩
  ·cases e
 ·cases e
noncomputable def JW:List U->R U:=λus=>match us with
 | [.lst xs]=>.ok (.lst xs)
 | [.tup xs]=>.ok (.lst xs)
 |_=>.stk
noncomputable def cT:List U->R U:=λus=>match us with
 | [.lst xs]=>.ok (.tup xs)
 | [.tup xs]=>.ok (.tup xs)
 |_=>.stk
theorem bB:mL K (λxs H Q=>∃p ys,xs=[.ref p]/\((gc K H p ys/\∀l,H l=none->Q (.ref l) (cD H l (.tup ys)))\/(gU K H p ys/\Q (.ref p) H))) .S cT:=λA H vs us z Q h mu e q=>by
 unfold cT at e;split at e
 ·rename_i xs;cases e;obtain⟨v,rfl,p⟩:=h.one;unfold Pk at p;obtain⟨a,ys,rfl,h1,l1,r1⟩:=p;exact⟨a,ys,rfl,.inl ⟨gc.of h1,λl hl=>q _ _ (cC hl _) (nO r1 hl l1)⟩⟩
 ·rename_i xs;cases e;obtain⟨v,rfl,p⟩:=h.one;have p':=p;unfold Pk at p;obtain⟨a,ys,rfl,h1,l1,r1⟩:=p;refine⟨a,ys,rfl,.inr ⟨gU.of h1,q _ H (aG.refl _) (show Rp K H A _ _ from ?_)⟩⟩;unfold Rp;unfold Pk at p';exact p'
 ·cases e
noncomputable def xE:List U->R U:=λus=>match us with
 | [.int i]=>.ok (.int (if i<0 then -i else i))
 |_=>.stk
theorem qm:mL K (λxs H Q=>∃i,xs=[.int i]/\Q (.int (if i<0 then -i else i)) H) .S xE:=λA H vs us z Q h mu e q=>by
 unfold xE at e;split at e
 ·cases e;obtain⟨v,rfl,p⟩:=h.one;exact⟨_,by rw[p.int],q _ H (aG.refl _) (show Rp K H A _ _ from di)⟩
 ·cases e
noncomputable def AZ:List U->R U:=λus=>match us with
 | [.int i,.int j]=>.ok (.int (if j>i then j else i))
 |_=>.stk
theorem EF:mL K (λxs H Q=>∃i j,xs=[.int i,.int j]/\Q (.int (if j>i then j else i)) H) .S AZ:=λA H vs us z Q h mu e q=>by
 unfold AZ at e;split at e
 ·cases e;obtain⟨v,w,rfl,p,p'⟩:=h.two;exact⟨_,_,by rw[p.int,p'.int],q _ H (aG.refl _) (show Rp K H A _ _ from di)⟩
 ·cases e
noncomputable def xF:List U->R U:=λus=>match us with
 | [.int i,.int j]=>.ok (.int (if j<i then j else i))
 |_=>.stk
theorem xG:mL K (λxs H Q=>∃i j,xs=[.int i,.int j]/\Q (.int (if j<i then j else i)) H) .S xF:=λA H vs us z Q h mu e q=>by
 unfold xF at e;split at e
 ·cases e;obtain⟨v,w,rfl,p,p'⟩:=h.two;exact⟨_,_,by rw[p.int,p'.int],q _ H (aG.refl _) (show Rp K H A _ _ from di)⟩
 ·cases e
noncomputable def EG:List U->R U:=λus=>match us with
 | [.int i]=>.ok (.int i)
 | [.bl k]=>.ok (.int (if k then 1 else 0))
 |_=>.stk
theorem IC:mL K (λxs H Q=>(∃i,xs=[.int i]/\Q (.int i) H)\/∃k,xs=[.bl k]/\Q (.int (if k then 1 else 0)) H) .S EG:=λA H vs us z Q h mu e q=>by
 unfold EG at e;split at e
 ·cases e;obtain⟨v,rfl,p⟩:=h.one;exact .inl ⟨_,by rw[p.int],q _ H (aG.refl _) (show Rp K H A _ _ from di)⟩
 ·cases e;obtain⟨v,rfl,p⟩:=h.one;exact .inr ⟨_,by rw[p.bl],q _ H (aG.refl _) (show Rp K H A _ _ from di)⟩
 ·cases e
noncomputable def kz:List U->Option (List Int)
 | []=>some []
 | .int i::us=>(kz us).map (i::·)
 |_::_=>none
noncomputable def EH:List U->Option (List Bool)
 | []=>some []
 | .bl i::us=>(EH us).map (i::·)
 |_::_=>none
theorem qo:∀{us:List U} {ns:List Int},kz us=some ns->us=ns.map .int
 | [],ns,h=>by unfold kz at h;cases h;rfl
 |u::us,ns,h=>by
  cases u<;>unfold kz at h<;>try cases h
  rename_i i;cases e:kz us with
  |none=>rw[e] at h;cases h
  |some ms=>rw[e] at h;cases h;rw[qo e];rfl
theorem aE.toI {H:Hp}{A:W8->Prop}:∀{ns:List Int} {vs:List V},aE K H A (ns.map .int) vs->vs=ns.map V.int
 | [],vs,h=>by rw[XX] at h;unfold aE at h;exact h
 |n::ns,vs,h=>by
  rw[WB] at h;unfold aE at h;obtain⟨x,r,rfl,p,q⟩:=h;unfold Rp at p;rw[p,aE.toI q];rfl
theorem mR {H:Hp}{A:W8->Prop}:∀(ns:List Int),aE K H A (ns.map .int) (ns.map V.int)
 | []=>aE.nil
 |n::ns=>aE.cons di (mR ns)
noncomputable def US:List U->R U:=λus=>match us with
 | [.lst xs]=>match EH xs with
  |some bs=>.ok (.bl (bs.all id))
  |none=>.stk
 |_=>.stk
noncomputable def CF (x:Int):List Int->List Int
 | []=>[x]
 |y::r=>if y<x then y::CF x r else x::y::r
noncomputable def uG (ns:List Int):List Int:=ns.foldr CF []
theorem nU (x:Int):∀l,(CF x l).Perm (x::l)
 | []=>.refl _
 |y::r=>by
  unfold CF;split
  ·exact ((nU x r).cons y).trans (.swap x y r)
  ·exact .refl _
theorem lM:∀ns:List Int,(uG ns).Perm ns
 | []=>.refl _
 |x::l=>(nU x _).trans ((lM l).cons x)
theorem A4 (x:Int):∀{l:List Int},l.Pairwise (·<=·)->(CF x l).Pairwise (·<=·)
 | [],_=>ZN _ _
 |y::r,h=>by
  obtain⟨h1,h2⟩:=YB.mp h;unfold CF;split
  ·refine YB.mpr ⟨λz hz=>?_,A4 x h2⟩;rcases WZ.mp ((nU x r).mem_iff.mp hz) with rfl|hz
   ·lia
   ·exact h1 z hz
  ·refine YB.mpr ⟨λz hz=>?_,h⟩;rcases WZ.mp hz with rfl|hz
   ·lia
   ·have:=h1 z hz;lia
theorem xH:∀ns:List Int,(uG ns).Pairwise (·<=·)
 | []=>List.Pairwise.nil
 |x::l=>A4 x (xH l)
noncomputable def zC:List U->R U:=λus=>match us with
 | [.lst xs]=>match kz xs with
  |some ns=>if ns.length<64 then .ok (.lst ((uG ns).map .int)) else .stk
  |none=>.stk
 | [.tup xs]=>match kz xs with
  |some ns=>if ns.length<64 then .ok (.lst ((uG ns).map .int)) else .stk
  |none=>.stk
 |_=>.stk
theorem CG:mL K (λxs H Q=>∃(p:W8) (ns:List Int),xs=[.ref p]/\(gc K H p (ns.map V.int)\/gU K H p (ns.map V.int))/\ns.length<64/\
  ∀(l:W8) (vh:List Int),H l=none->vh.Perm ns->vh.Pairwise (·<=·)->Q (.ref l) (cD H l (.lst (vh.map V.int)))) .O zC:=λA H vs us z Q h mu e q=>by
 have fin:∀(ns:List Int),ns.length<64->z=.lst ((uG ns).map .int)->∀(l:W8) (vh:List Int),H l=none->vh.Perm ns->vh.Pairwise (·<=·)->Q (.ref l) (cD H l (.lst (vh.map V.int))):=λns hl hz l vh hn hp hw=>by
  have e:vh=uG ns:=PySem.W.ksm_same (hp.trans (lM ns).symm) hw (xH ns);subst e hz;refine q _ _ (cC hn _) ⟨l,rfl,hn,bT mu (mR _) hn ?_⟩;have:WC=16777216:=rfl;rw[Ww,(lM ns).length_eq];lia
 unfold zC at e;split at e
 ·rename_i xs;split at e
  ·rename_i ns hb;split at e
   ·rename_i hl;cases e;obtain⟨v,rfl,p⟩:=h.one;unfold Pk at p;obtain⟨a,ys,rfl,h1,l1,r1⟩:=p;rw[qo hb] at r1;rw[r1.toI] at h1;exact⟨a,ns,rfl,.inl (gc.of h1),hl,fin ns hl rfl⟩
   ·cases e
  ·cases e
 ·rename_i xs;split at e
  ·rename_i ns hb;split at e
   ·rename_i hl;cases e;obtain⟨v,rfl,p⟩:=h.one;unfold Pk at p;obtain⟨a,ys,rfl,h1,l1,r1⟩:=p;rw[qo hb] at r1;rw[r1.toI] at h1;exact⟨a,ns,rfl,.inr (gU.of h1),hl,fin ns hl rfl⟩
   ·cases e
  ·cases e
 ·cases e
noncomputable def Sn (ks:List U):String:=match ks with
 | .tup _::_=>"script"
 |_=>"dict"
noncomputable def N0:U->String
 | .non=>"NoneType"
 | .bl _=>"bool"
 | .int _=>"int"
 | .str _=>"str"
 | .tup _=>"tuple"
 | .lst _=>"list"
 | .dct ks _=>Sn ks
 | .scr _=>"script"
theorem Pa (h:Pk K H A u v)(hs:N0 u≠"script"):yY K H v (N0 u):=by
 cases u<;>unfold Pk at h
 case scr=>exact absurd rfl hs
 case non=>subst h;exact .non
 case bl=>subst h;exact .bl _
 case int=>subst h;exact .int _
 case str=>subst h;exact .str _
 case tup=>obtain⟨a,xs,rfl,h1,_⟩:=h;exact .tup h1
 case lst=>
  obtain⟨a,xs,rfl,h1,_⟩:=h;exact .lst h1
 case dct=>
  obtain⟨a,xs,rfl,h1,_⟩:=h;rcases h1 with⟨k,h1,e,_⟩|⟨k,n,h1,e,_⟩
  ·have:Sn (k.map λp=>kU p.1)="dict":=by
    cases k with
    |nil=>rfl
    |cons p k=>
     obtain⟨p1,p2⟩:=p;cases p1<;>rfl
   show yY K H _ (Sn _);rw[e,this];exact .dK h1
  ·refine absurd e λe=>?_;cases k with
   |nil=>exact n rfl
   |cons p k=>rw[e] at hs;exact hs rfl
variable {e:YV}{p1:Pos}{b1:Bool}{m1:Md}{g1:Ev->R (U×Ev)}
noncomputable def EI (T:String)(g:Ev->R (U×Ev)):Ev->R (U×Ev):=λρ=>(g ρ).bind λx=>if N0 x.1="script" then .stk else .ok (.bl (iK (N0 x.1) T),x.2)
theorem ID {T:String}(hT:T∈["bool","int","str","list","tuple","dict"])(he:DE X G e b1 m1 g1)(zi:X.mg "isinstance"=none)(zt:X.mg x=none)(bt:XM x=some (.type T))(hg:Gl X "isinstance":=by rfl)(ht:Gl X x:=by rfl)(hn:x≠"__name__":=by decide)(hd:(x==("__debug__":Str))=false:=by decide)(hs:W7 [e,.Name x p2] X.env=(false,aaj e X.env)::W7 [.Name x p2] X.env:=by rfl)(b_:W7 [.Name x p2] X.env=(false,aaj (.Name x p2) X.env)::W7 [] X.env:=by rfl)(qC:(Zy pos (W7 [.Name x p2] X.env)).any (·.1)=false:=by rfl) :
  DE X G (.Call (.Name "isinstance" p1) [e,.Name x p2] [] pos) b1 .S (EI T g1):=⟨(qJ (xq (m:=T) hT) hg zi tH (jC he.un (jC (Hz (v:=.ty T) ht zt bt rfl hn hd) qI b_) hs) (by decide) (by decide) hs qC).to λσ H Q h=>by
 obtain⟨Z,A,ρ,q,f⟩:=h;obtain⟨⟨u,ρ1⟩,e1,f⟩:=f.bind;refine⟨Z,A,ρ,q,?_⟩;rw[e1];intro v H1 q1 x1 s1 vm;dsimp only at f;split at f
 ·exact f.elim
 ·rename_i hn;exact⟨v,_,rfl,Pa vm.pk hn,f _ H1 q1 x1 s1 (y3.ofS lC)⟩⟩
noncomputable def xI (i j:Int):Bool:=decide (-1000000<=i)&&decide (i<=1000000)&&decide (-1000000<=j)&&decide (j<=1000000)
noncomputable def A5 (g:Ev->R (List U×Ev)):Ev->R (U×Ev):=λρ=>(g ρ).bind λx=>match x.1 with
 | [.int j]=>if xI 0 j=true then .ok (.lst (av 0 (j-0).toNat),x.2) else .stk
 |_=>.stk
noncomputable def EJ (g:Ev->R (List U×Ev)):Ev->R (U×Ev):=λρ=>(g ρ).bind λx=>match x.1 with
 | [.int j]=>if xI 0 j=true then .ok (.tup (av 0 (j-0).toNat),x.2) else .stk
 |_=>.stk
theorem uH (lo:Int)(n:Nat):aE K H A (av lo n) ((WY n).map λi=>V.int (lo+(i:Nat))):=by
 unfold av;have e1:(WY n).map (λi=>U.int (lo+(i:Nat)))=((WY n).map λi=>lo+(i:Nat)).map U.int:=by rw[WW];rfl
 have e2:(WY n).map (λi=>V.int (lo+(i:Nat)))=((WY n).map λi=>lo+(i:Nat)).map V.int:=by rw[WW];rfl
 rw[e1,e2];exact mR _
theorem aI (lo:Int)(n:Nat):(av lo n).length=n:=by unfold av;rw[Ww,Xf]
variable {ga:Ev->R (List U×Ev)}{a:YV}{p3 p4:Pos}
theorem A6 (hc:X.calm=true)(ha:DA X G [a] b1 false ga)(zl:X.mg "list"=none)(zr:X.mg "range"=none)(hg:Gl X "list":=by rfl)(QP:Gl X "range":=by rfl)
  (hs:W7 [.Call (.Name "range" p3) [a] [] p4] X.env=(false,aaj (.Call (.Name "range" p3) [a] [] p4) X.env)::W7 [] X.env:=by rfl) (b_:W7 [a] X.env=(false,aaj a X.env)::W7 [] X.env:=by rfl)
  (qC:(Zy pos (W7 [] X.env)).any (·.1)=false:=by rfl) (Hb:(Zy p4 (W7 [] X.env)).any (·.1)=false:=by rfl):DE X G (.Call (.Name "list" p1) [.Call (.Name "range" p3) [a] [] p4] [] pos) b1 .O (A5 ga):=⟨(gW (tG hc) hg zl AJ (jC (gW oE QP zr xr ha.un (by decide) (by decide) b_ Hb) qI hs) (by decide) (by decide) hs qC).to λσ H Q h=>by
 obtain⟨Z,A,ρ,q,f⟩:=h;obtain⟨⟨us,ρ1⟩,e1,f⟩:=f.bind;refine⟨Z,A,ρ,q,?_⟩;rw[e1];intro vs H1 q1 x1 s1 vm;dsimp only at f;split at f
 ·rename_i j;split at f
  ·rename_i hj;have r:=vm.rps;unfold aE at r;obtain⟨v,vr,rfl,r1,r2⟩:=r;unfold aE at r2;subst r2;unfold Rp at r1;subst r1;unfold xI at hj;simp only[W2,decide_eq_true_eq] at hj;refine⟨j,rfl,λp hp=>⟨p,0,j,rfl,bg,by lia,by lia,λl hl=>?_⟩⟩;have sp:=cC hp (.rng 0 j);have sl:=cC hl (.lst ((WY (j-0).toNat).map λi=>V.int (0+(i:Nat))));exact f _ _ ((q1.same sp).same sl) (x1.trans (eO.same (sp.trans sl))) (qZ s1 (sp.trans sl)) (AK.e (q1.same sp) sl ⟨l,rfl,hl,bT (q1.same sp).mu (uH 0 _) hl (by rw[aI];have:WC=16777216:=rfl;lia)⟩)
  ·exact f.elim
 ·exact f.elim⟩
theorem IE (hc:X.calm=true)(ha:DA X G [a] b1 false ga)(zl:X.mg "tuple"=none)(zr:X.mg "range"=none)(hg:Gl X "tuple":=by rfl)(QP:Gl X "range":=by rfl)
  (hs:W7 [.Call (.Name "range" p3) [a] [] p4] X.env=(false,aaj (.Call (.Name "range" p3) [a] [] p4) X.env)::W7 [] X.env:=by rfl) (b_:W7 [a] X.env=(false,aaj a X.env)::W7 [] X.env:=by rfl)
  (qC:(Zy pos (W7 [] X.env)).any (·.1)=false:=by rfl) (Hb:(Zy p4 (W7 [] X.env)).any (·.1)=false:=by rfl):DE X G (.Call (.Name "tuple" p1) [.Call (.Name "range" p3) [a] [] p4] [] pos) b1 .S (EJ ga):=⟨(gW (qT hc) hg zl bG (jC (gW oE QP zr xr ha.un (by decide) (by decide) b_ Hb) qI hs) (by decide) (by decide) hs qC).to λσ H Q h=>by
 obtain⟨Z,A,ρ,q,f⟩:=h;obtain⟨⟨us,ρ1⟩,e1,f⟩:=f.bind;refine⟨Z,A,ρ,q,?_⟩;rw[e1];intro vs H1 q1 x1 s1 vm;dsimp only at f;split at f
 ·rename_i j;split at f
  ·rename_i hj;have r:=vm.rps;unfold aE at r;obtain⟨v,vr,rfl,r1,r2⟩:=r;unfold aE at r2;subst r2;unfold Rp at r1;subst r1;unfold xI at hj;simp only[W2,decide_eq_true_eq] at hj;refine⟨j,rfl,λp hp=>⟨p,0,j,rfl,bg,by lia,by lia,λl hl=>?_⟩⟩;have sp:=cC hp (.rng 0 j);have sl:=cC hl (.tup ((WY (j-0).toNat).map λi=>V.int (0+(i:Nat))));exact f _ _ ((q1.same sp).same sl) (x1.trans (eO.same (sp.trans sl))) (qZ s1 (sp.trans sl)) (y3.ofS (nO (uH 0 _) hl (by rw[aI];have:WC=16777216:=rfl;lia)))
  ·exact f.elim
 ·exact f.elim⟩
noncomputable def jI:U->List U->R (U×U):=λu us=>match u,us with
 | .lst xs,[y]=>if xs.length<WC then .ok (.non,.lst (xs++[y])) else .stk
 |_,_=>.stk
theorem jJ {a:W8}(o:HO):∀b u,b≠a->H b=some u->cD H a o b=some u:=λb u nb z=>by rw[aS nb];exact z
theorem qp {a:W8}(mu:∀a,A a->Mu (H a))(ha:A a)(r:aE K H A us xs)(l:us.length<=WC):ko K (cD H a (.lst xs)) A (.lst us) a:=
 ⟨xs,bg,l,r.re mu (λb o nb z=>jJ _ b o (λy=>nb (y▸ha)) z) λb z=>.inl z⟩
theorem jK:Et K "list" AI jI:=λA H a u vs us z w Q t ha r mu e q=>by
 unfold jI at e;split at e
 ·rename_i xs y;split at e
  ·rename_i hl;cases e;obtain⟨ys,h1,l1,r1⟩:=t;unfold aE at r;obtain⟨v,vr,rfl,p,r2⟩:=r;unfold aE at r2;subst r2;exact⟨a,ys,v,rfl,rfl,h1,by rw[←r1.length];exact hl,q _ _ (jJ _) (qp mu ha (r1.append (aE.cons p aE.nil)) (by rw[WI];exact hl)) q_⟩
  ·cases e
 ·cases e
def xJ:V->List V->Hp->VK->Prop:=λx vs H Q=>∃l b xs zs,x=.ref l/\vs=[.ref b]/\H l=some (.lst xs)/\H b=some (.lst zs)/\xs.length+zs.length<=WC/\Q .non (cD H l (.lst (xs++zs)))
theorem zD:JO X "list.extend" xJ:=by
 intro pins s σ H x vs v us Q I rx rv h;obtain⟨l,b,xs,zs,rfl,rfl,hH,hB,hz,q⟩:=h;cases rx;obtain⟨u,rfl,ru⟩:=rv.one;cases ru;obtain⟨z,au,n,r,hl,e⟩:=I.lstM hH;obtain⟨z2,its2,n2,r2,Ho,e2⟩:=I.lstM hB;have hsz:au.toArray.size+its2.toArray.size<=WC:=by rw[WJ,WJ];lia
 have Ha:¬(!au.toArray.isEmpty&&ZC (au.toArray.size+its2.toArray.size))=true:=by
  rw[xj hsz,abd];exact WA
 refine call_meets F.slot_list_extend ⟨_,e,rfl⟩ F.entry_list_extend (F.args_list_extend_2 _ _)
  (PySem.AutoSeq1.list_extend_list_list_0 l au.toArray n b its2.toArray n2 Ha (by rw[WJ];lia) (by lia)) ⟨e,e2,?_⟩
 refine⟨.non,_,I.lset (its':=au++its2) hH e (by simp) (r.append r2) ?_,rfl,q⟩;rw[WI];lia
def JX:V->List V->Hp->VK->Prop:=λx vs H Q=>xJ x vs H Q\/xt x vs H Q
theorem vI:JO X "list.extend" JX:=zD.or zk
noncomputable def gK:U->List U->R (U×U):=λu us=>match u,us with
 | .lst xs,[.lst ys]=>if xs.length+ys.length<=WC then .ok (.non,.lst (xs++ys)) else .stk
 | .lst xs,[.tup ys]=>if xs.length+ys.length<=WC then .ok (.non,.lst (xs++ys)) else .stk
 |_,_=>.stk
theorem lP:Et K "list" JX gK:=λA H a u vs us z w Q t ha r mu e q=>by
 unfold gK at e;split at e
 ·rename_i xs ys;split at e
  ·rename_i hl;cases e;obtain⟨zs,h1,l1,r1⟩:=t;unfold aE at r;obtain⟨v,vr,rfl,p,r2⟩:=r;unfold aE at r2;subst r2;unfold Rp at p;obtain⟨b,ws,rfl,nb,h2,l2,r3⟩:=p;exact .inl ⟨a,b,zs,ws,rfl,rfl,h1,h2,by rw[←r1.length,←r3.length];exact hl,q _ _ (jJ _) (qp mu ha (r1.append r3) (by rw[WI];exact hl)) q_⟩
  ·cases e
 ·rename_i xs ys;split at e
  ·rename_i hl;cases e;obtain⟨zs,h1,l1,r1⟩:=t;unfold aE at r;obtain⟨v,vr,rfl,p,r2⟩:=r;unfold aE at r2;subst r2;unfold Rp at p;obtain⟨b,ws,rfl,h2,l2,r3⟩:=p;exact .inr ⟨a,b,zs,ws,rfl,rfl,h1,h2,by rw[←r1.length,←r3.length];exact hl,q _ _ (jJ _) (qp mu ha (r1.append r3) (by rw[WI];exact hl)) q_⟩
  ·cases e
 ·cases e
noncomputable def nV:U->List U->R (U×U):=λu us=>match u,us with
 | .lst xs,[.int i]=>if -9223372036854775808<=i/\i<9223372036854775808 then (match acq i xs.length with
  |some k=>match xs[k]? with
   |some y=>.ok (y,.lst (xs.eraseIdx k))
   |none=>.stk
  |none=>.stk) else .stk
 |_,_=>.stk
theorem aE.erase {H:Hp}{A:W8->Prop}:∀{us:List U} {vs:List V} (n:Nat),aE K H A us vs->aE K H A (us.eraseIdx n) (vs.eraseIdx n)
 | [],vs,n,h=>by unfold aE at h;subst h;exact aE.nil
 |u::us,vs,0,h=>by
  unfold aE at h;obtain⟨x,r,rfl,p,q⟩:=h;exact q
 |u::us,vs,n+1,h=>by
  unfold aE at h;obtain⟨x,r,rfl,p,q⟩:=h;exact aE.cons p (aE.erase n q)
theorem CH:Et K "list" D9 nV:=λA H a u vs us z w Q t ha r mu e q=>by
 unfold nV at e;split at e
 ·rename_i xs i;split at e
  ·rename_i hi;split at e
   ·rename_i k hk;split at e
    ·rename_i y hy;cases e;obtain⟨zs,h1,l1,r1⟩:=t;unfold aE at r;obtain⟨v,vr,rfl,p,r2⟩:=r;unfold aE at r2;subst r2;unfold Rp at p;subst p;obtain⟨v,h2,h3⟩:=r1.get hy;exact⟨a,zs,i,k,v,rfl,rfl,h1,by have:=hi.1;lia,by have:=hi.2;lia,by rw[←r1.length];exact hk,h2,q _ _ (jJ _) (qp mu ha (r1.erase k) (XG (List.length_eraseIdx_le _ _) l1)) (h3.re mu (λb o nb z=>jJ _ b o (λy=>nb (y▸ha)) z) λb z=>.inl z)⟩
    ·cases e
   ·cases e
  ·cases e
 ·cases e
end
end L2
namespace L2
section
variable {m:Md}
theorem vJ:g_ K (Cp λi j=>.bl (decide (i<j))) .S NZ:=EB
theorem Mr:g_ K (Cp λi j=>.bl (decide (j<i))) .S Q_:=EB
theorem Ms:g_ K (Cp λi j=>.bl (decide (j<=i))) .S Sk:=EB
noncomputable def N1:Ev->R (U×Ev):=λρ=>.ok (.dct [] [],ρ)
theorem mS:DE X G (.Dict [] [] pos) false .O N1:=⟨Ed.to λσ H Q h=>by
 obtain⟨Z,A,ρ,q,f⟩:=h;intro a na;have sn:=cC na (.dK []);exact f _ _ (q.same sn) (eO.same sn) (λ_=>⟨rfl,sn⟩) (AK.e q sn ⟨a,rfl,na,[],.inl ⟨[],bg,rfl,rfl⟩,Ys _,aE.nil⟩)⟩
end
end L2
namespace L2
def IF (H:Hp)(a:W8)(y:V)(o:Option V):Prop:=Ec H a y o\/∃es k b,iM H a es/\y=.ref b/\tK H k b/\o=mJ es k
def Ra (H:Hp)(a:W8)(y v:V)(C:Hp->Prop):Prop:=(∃H',OT H a y v H'/\C H')\/∃es k b,iM H a es/\y=.ref b/\tK H k b/\es.length<=WC/\∀ep,C (cD H a (DN a ep (j7 es k b v)))
def Mt (H:Hp)(a:W8):Prop:=TF H a\/∃es,iM H a es
section
variable {d:V}{u r:WG}{o:Option V}{A:XD}
theorem EK (I:az X pins σ H s)(g:IF H a y o):s.TypeIs (.ref a) "dict":=by
 rcases g with g|⟨es,k,b,g,_⟩
 ·exact xn I g
 ·exact g.typeIs I
theorem Pb (I:az X pins σ H s)(d:Mt H a):s.TypeIs (.ref a) "dict"/\(∀b,Value.ref a=.ref b->∃ob,s.heap.get? b=some ob/\ob.dict=none):=by
 rcases d with d|⟨es,d⟩
 ·obtain⟨x,y,_⟩:=LZ I d;exact⟨x,y⟩
 ·exact⟨d.typeIs I,d.noDict I⟩
theorem CI (hu:A.units+64<YH)(I:az X pins σ H s)(g:IF H a y (some v))(ry:aO y u)(h:∀w' s',az X pins σ H s'->aO v w'->Q w' s') :
  WX (Xg X.prog X.w) A (abH (.ref a) u) Q E s:=by
 rcases g with g|⟨es,k,b,g,rfl,kb,e⟩
 ·exact Cy (by lia) I g ry h
 ·cases ry;exact CA hu I g kb e.symm h
theorem So (hu:A.units+64<YH)(I:az X pins σ H s)(g:IF H a y o)(ry:aO y u)(h:∀s',az X pins σ H s'->Q (.bool o.isSome) s') :
  WX (Xg X.prog X.w) A (Zc .In u (.ref a)) Q E s:=by
 rcases g with g|⟨es,k,b,g,rfl,kb,e⟩
 ·exact R5 (by lia) I g ry h
 ·cases ry;subst e;exact R9 hu I g kb h
theorem Mv (hu:A.units+64<YH)(I:az X pins σ H s)(g:IF H a y o)(ry:aO y u)(rd:aO d r)(h:∀w' s',az X pins σ H s'->aO (o.getD d) w'->Q w' s') :
  WX (Xg X.prog X.w) A (call (.builtin "dict.get") [.ref a,u,r]) Q E s:=by
 rcases g with g|⟨es,k,b,g,rfl,kb,e⟩
 ·exact L1 (by lia) I g ry rd h
 ·cases ry;subst e;exact L8 hu I g kb rd h
theorem CJ {C:Hp->Prop}{Q:Unit->WT->Prop}(hu:A.units+64<YH)(I:az X pins σ H s)(g:Ra H a y v C)(ry:aO y u)(rv:aO v r)(h:∀H' s',C H'->az X pins σ H' s'->Q () s') :
  WX (Xg X.prog X.w) A (setItem (.ref a) u r) Q E s:=by
 rcases g with⟨H',g,c⟩|⟨es,k,b,g,rfl,kb,hz,e⟩
 ·exact Cz (by lia) I g ry rv λs'=>h H' s' c
 ·cases ry;exact CB hu I g kb hz rv λep s'=>h _ s' (e ep)
end
def Pc (td ty:TE):TE:=λσ H Q=>td σ H λx H1=>ty σ H1 λy H2=>∃a v,x=.ref a/\IF H2 a y (some v)/\Q v H2
def Pd (f:Bool->Bool):R2:=λy x H Q=>∃a o,x=.ref a/\IF H a y o/\Q (.bl (f o.isSome)) H
def Mw (td ty tx:TE):TE:=λσ H Q=>td σ H λx H1=>∃a,x=.ref a/\Mt H1 a/\ty σ H1 λy H2=>tx σ H2 λz H3=>∃o,IF H3 a y o/\Q (o.getD z) H3
def Pe (td ty tv:TE):TS:=λD σ H=>tv σ H λv H1=>td σ H1 λx H2=>ty σ H2 λy H3=>∃a,x=.ref a/\Ra H3 a y v λH4=>D.nx σ H4
section
variable {o i e f value:YV}{ka gz cpos:Pos}{td ty tv tx:TE}
theorem IG (hu:X.A.units+64<YH)(ho:PE X o td)(hi:PE X i ty)(hs:LX i):PE X (.Subscript o i pos) (Pc td ty):=by
 intro pins s σ H Q I h;refine H9 PySem.F.slot_dict_getitem.lookup hs (dC (ho pins s σ H _ I h) λu s1 ⟨x,H1,I1,rx,q1⟩=>dC (hi pins s1 σ H1 _ I1 q1) λiv s2 ⟨y,H2,I2,ry,a,v,ex,g,q2⟩=>?_);subst ex;obtain rfl:u=Value.ref a:=rx;exact⟨EK I2 g,CI hu I2 g ry λw' s3 I3 yW=>⟨v,H2,I3,yW,q2⟩⟩
theorem My (hu:X.A.units+64<YH):lL X (Zc .In) (Pd id):=by
 intro pins s σ H y x v u Q I ry rx h;obtain⟨a,o,rfl,g,q⟩:=h;cases rx;exact So hu I g ry λs' I'=>⟨.bl o.isSome,H,I',rfl,q⟩
theorem EL (hu:X.A.units+64<YH)(ho:PE X o td)(he:PE X e ty)(hf:PE X f tx)(m:M2 X o "get" gz e f cpos):PE X (.Call (.Attribute o "get" gz) [e,f] [] cpos) (Mw td ty tx):=by
 intro pins s σ H Q I h;refine wpAny_Call_method m.base m.few m.line PySem.F.plainAttrs_dict Z0 PySem.F.type_dict_get (dC (ho pins s σ H _ I h) λu s1 ⟨x,H1,I1,rx,a,ex,d,q1⟩=>?_);subst ex;obtain rfl:u=Value.ref a:=rx;obtain⟨t1,t2⟩:=Pb I1 d;refine⟨t1,t2,?_⟩;rw[m.trees];refine aaZ rfl (Calls.evalArgs_plain (ab1 (dC (he pins s1 σ H1 _ I1 q1) λiv s2 ⟨y,H2,I2,ry,q2⟩=>
  ab1 (dC (hf pins s2 σ H2 _ I2 q2) λfv s3 ⟨z,H3,I3,rz,ov,g,q3⟩=>Calls.spliced_nil ?_))))
 exact Mv hu I3 g ry rz λw' s4 I4 yW=>⟨_,H3,I4,yW,q3⟩
theorem IH (hu:X.A.units+64<YH)(ho:PE X o td)(hi:PE X i ty)(hv:PE X value tv)(hs:aaI value (some (.Subscript o i ka)) pos.line X.env=pure false) :
  PS X (.Assign [.Subscript o i ka] value pos) (Pe td ty tv):=by
 intro pins s σ H D I h;refine wpAny_Assign_Subscript (dC (hv pins s σ H _ I h) λr s1 ⟨v,H1,I1,rv,q1⟩=>dC (ho pins s1 σ H1 _ I1 q1) λu s2 ⟨x,H2,I2,rx,q2⟩=>dC (hi pins s2 σ H2 _ I2 q2) λiv s3 ⟨y,H3,I3,ry,a,ex,g⟩=>?_) hs;subst ex;obtain rfl:u=Value.ref a:=rx;exact CJ hu I3 g ry rv λH4 s4 q3 I4=>⟨σ,H4,I4,q3⟩
end
noncomputable def EM:U->Bool
 | .int _=>true
 | .str _=>true
 |_=>false
mutual
noncomputable def vK:U->Bool
 | .int _=>true
 | .tup us=>xK us
 |_=>false
noncomputable def xK:List U->Bool
 | []=>true
 |u::us=>vK u&&xK us
end
noncomputable def EN:U->Bool
 | .tup us=>xK us&&decide (tJ us<=6)
 |_=>false
noncomputable def EO:U->Bool
 | .tup _=>true
 |_=>false
noncomputable def j9 (ks:List U)(k:U):Bool:=(EM k&&ks.all EM)||(EN k&&ks.all EO)
noncomputable def gL:List U->List U->U->Option U
 |k'::ks,u::us,k=>if k'=k then some u else gL ks us k
 |_,_,_=>none
noncomputable def eW (ks us:List U)(k v:U):List U:=if k∈ks then YL (λk' u=>if k'=k then v else u) ks us else us++[v]
noncomputable def gG (ks:List U)(k:U):List U:=if k∈ks then ks else ks++[k]
mutual
theorem Pf:∀{u:U} {v:V},vK u=true->Rp K H A u v->KH H u v
 | .int i,v,_,h=>by unfold Rp at h;unfold KH;exact h
 | .tup us,v,k,h=>by
  unfold vK at k;unfold Rp at h;unfold KH;obtain⟨a,xs,r,q,l,z⟩:=h;exact⟨a,xs,r,q,l,zE k z⟩
 | .non,v,k,h=>by unfold vK at k;cases k
 | .bl _,v,k,h=>by unfold vK at k;cases k
 | .str _,v,k,h=>by unfold vK at k;cases k
 | .lst _,v,k,h=>by unfold vK at k;cases k
 | .dct _ _,v,k,h=>by unfold vK at k;cases k
 | .scr _,v,k,h=>by unfold vK at k;cases k
theorem zE:∀{us:List U} {vs:List V},xK us=true->aE K H A us vs->qW H us vs
 | [],vs,_,h=>by unfold aE at h;unfold qW;exact h
 |u::us,vs,k,h=>by
  unfold xK at k;rw[W2] at k;unfold aE at h;unfold qW;obtain⟨x,r,q,p,z⟩:=h;exact⟨x,r,q,Pf k.1 p,zE k.2 z⟩
end
theorem xM (k:EN (.tup us)=true)(h:Rp K H A (.tup us) v):∃b,v=.ref b/\tK H us b:=by
 unfold EN at k;rw[W2] at k;unfold Rp at h;obtain⟨a,xs,r,q,l,z⟩:=h;exact⟨a,r,of_decide_eq_true k.2,xs,q,l,zE k.1 z⟩
theorem JY (k:EM u=true)(h:Rp K H A u v):∃q:Key,u=kU q/\v=kV q:=by
 cases u<;>first|(cases k;done)|skip
 ·unfold Rp at h;exact⟨.inl _,rfl,h⟩
 ·unfold Rp at h;exact⟨.inr _,rfl,h⟩
theorem zF {a b:Key}(h:kU a=kU b):a=b:=by
 cases a<;>cases b<;>unfold kU at h<;>first|(cases h;rfl)|cases h
theorem zG {k:Key}:∀{aL:List (Key×V)} {us:List U},aE K H A us (aL.map (·.2))->(∀u,gL (aL.map λp=>kU p.1) us (kU k)=some u->∃v,pL aL k=some v/\Rp K H A u v)/\(gL (aL.map λp=>kU p.1) us (kU k)=none->pL aL k=none)
 | [],us,r=>⟨(λu h=>by unfold gL at h;cases h),λ_=>rfl⟩
 |p::aL,us,r=>by
  cases us with
  |nil=>unfold aE at r;cases r
  |cons u us=>
   unfold aE at r;obtain⟨x,rr,e,h1,h2⟩:=r;cases e;rw[WB];unfold gL;by_cases c:p.1=k
   ·rw[hZ (by rw[c]),mC c];exact⟨λw h=>by cases h;exact⟨_,rfl,h1⟩,λh=>by cases h⟩
   ·rw[hV (λz=>c (zF z)),mE c];exact zG h2
theorem zH {k:List U}:∀{es:List (List U×W8×V)} {us:List U},aE K H A us (es.map (·.2.2))->(∀u,gL (es.map λp=>.tup p.1) us (.tup k)=some u->∃v,mJ es k=some v/\Rp K H A u v)/\(gL (es.map λp=>.tup p.1) us (.tup k)=none->mJ es k=none)
 | [],us,r=>⟨(λu h=>by unfold gL at h;cases h),λ_=>rfl⟩
 |p::es,us,r=>by
  cases us with
  |nil=>unfold aE at r;cases r
  |cons u us=>
   unfold aE at r;obtain⟨x,rr,e,h1,h2⟩:=r;cases e;rw[WB];unfold gL mJ;rw[Ym];by_cases c:p.1=k
   ·rw[hZ (by rw[c]),hG c];exact⟨λw h=>by cases h;exact⟨_,rfl,h1⟩,λh=>by cases h⟩
   ·rw[hV (λz=>c (mI.mp z)),hJ c];exact zH h2
theorem zI {k:U}(d:xb H a ks xs)(r:aE K H A us xs)(f:j9 ks k=true)(hk:Rp K H A k y) :
  ∃o,IF H a y o/\(∀u,gL ks us k=some u->∃v,o=some v/\Rp K H A u v)/\(gL ks us k=none->o=none):=by
 unfold j9 at f;rw[Z2,W2,W2] at f;rcases d with⟨aL,h,e1,e2⟩|⟨es,n,h,e1,e2⟩
 ·rcases f with⟨f1,f2⟩|⟨f1,f2⟩
  ·obtain⟨q,rfl,rfl⟩:=JY f1 hk;subst e1 e2;exact⟨_,.inl (.inl ⟨aL,q,.inl h,rfl,rfl⟩),(zG r).1,(zG r).2⟩
  ·cases aL with
   |nil=>
    subst e1 e2;cases k<;>first|(cases f1;done)|skip
    rename_i kk;obtain⟨b,rfl,kt⟩:=xM f1 hk;exact⟨none,.inr ⟨[],kk,b,⟨.inr ⟨rfl,h⟩,Y9,(λe he=>by cases he)⟩,rfl,kt,rfl⟩,(λu z=>by unfold gL at z;cases z),λ_=>rfl⟩
   |cons p aL=>
    exfalso;subst e1;rw[WB,aaN,W2] at f2;obtain⟨p1,p2⟩:=p;cases p1<;>cases f2.1
 ·rcases f with⟨f1,f2⟩|⟨f1,f2⟩
  ·exfalso;subst e1;cases es with
   |nil=>exact n rfl
   |cons p es=>rw[WB,aaN,W2] at f2;cases f2.1
  ·subst e1 e2;cases k<;>first|(cases f1;done)|skip
   rename_i kk;obtain⟨b,rfl,kt⟩:=xM f1 hk;exact⟨_,.inr ⟨es,kk,b,h,rfl,kt,rfl⟩,(zH r).1,(zH r).2⟩
end L2
namespace L2
theorem aE.snoc (h:aE K H A us vs)(p:Rp K H A u v):aE K H A (us++[u]) (vs++[v]):=h.append (aE.cons p aE.nil)
theorem Pg {k:Key}(aL:List (Key×V)):(aL.any λkv=>decide (kv.1=k))=decide (kU k∈aL.map λp=>kU p.1):=by
 rw[Yj,List.any_eq_true,decide_eq_true_eq,WN];constructor
 ·rintro⟨p,h1,h2⟩;exact⟨p,h1,by rw[of_decide_eq_true h2]⟩
 ·rintro⟨p,h1,h2⟩;exact⟨p,h1,hG (zF h2)⟩
theorem A7 {k:Key}(aL:List (Key×V))(v:V):mB aL k v=if (aL.any λkv=>decide (kv.1=k))=true then aL.map (λkv=>if kv.1=k then (kv.1,v) else kv) else aL++[(k,v)]:=by
 unfold mB;rfl
theorem CK {k:Key}(aL:List (Key×V))(v:V):(mB aL k v).map (λp=>kU p.1)=gG (aL.map λp=>kU p.1) (kU k):=by
 rw[A7,Pg];unfold gG;by_cases c:kU k∈aL.map λp=>kU p.1
 ·rw[hG c,hZ rfl,hZ c,WW];refine W3 λp _=>?_;show kU (if p.1=k then (p.1,v) else p).1=kU p.1;split<;>rfl
 ·rw[hJ c,hV WA,hV c,WR];rfl
theorem CL {k:Key}(p:Rp K H A u v){aL:List (Key×V)}(r:aE K H A us (aL.map (·.2))):aE K H A (eW (aL.map λp=>kU p.1) us (kU k) u) ((mB aL k v).map (·.2)):=by
 rw[A7,Pg];unfold eW;by_cases c:kU k∈aL.map λp=>kU p.1
 ·rw[hG c,hZ rfl,hZ c];clear c
  induction aL generalizing us with
  |nil=>
   rw[XX] at r;unfold aE at r;cases us with
   |nil=>exact aE.nil
   |cons=>obtain⟨_,_,e,_⟩:=r;cases e
  |cons q aL ih=>
   cases us with
   |nil=>unfold aE at r;cases r
   |cons w us=>
    unfold aE at r;obtain⟨x,rr,e,h1,h2⟩:=r;cases e;rw[WB,WB,WB,YQ];refine aE.cons ?_ (ih h2);by_cases c:q.1=k
    ·rw[hZ (by rw[c]),hZ c];exact p
    ·rw[hV (λz=>c (zF z)),hV c];exact h1
 ·rw[hJ c,hV WA,hV c,WR];exact r.snoc p
theorem mT {k:List U}:∀(es:List (List U×W8×V)),(mJ es k).isSome=decide (U.tup k∈es.map λp=>U.tup p.1)
 | []=>by simp[mJ]
 |e::es=>by
  have ih:=mT (k:=k) es;unfold mJ at ih ⊢;rw[Ym,WB];by_cases c:e.1=k
  ·rw[hG c,hG (by rw[c];exact WM)];rfl
  ·rw[hJ c];dsimp only;rw[ih,Yj,decide_eq_true_eq,decide_eq_true_eq,WZ];constructor
   ·exact .inr
   ·rintro (z|z)
    ·exact absurd (mI.mp z).symm c
    ·exact z
theorem CM {k:List U}(es:List (List U×W8×V))(v:V):(j7 es k b v).map (λp=>U.tup p.1)=gG (es.map λp=>.tup p.1) (.tup k):=by
 unfold j7 gG;rw[mT];by_cases c:U.tup k∈es.map λp=>U.tup p.1
 ·rw[hG c,hZ rfl,hZ c,WW];refine W3 λp _=>?_;show U.tup (if p.1=k then (p.1,p.2.1,v) else p).1=.tup p.1;split<;>rfl
 ·rw[hJ c,hV WA,hV c,WR];rfl
theorem CN {k:List U}(p:Rp K H A u v)(r:aE K H A us (es.map (·.2.2))):aE K H A (eW (es.map λp=>.tup p.1) us (.tup k) u) ((j7 es k b v).map (·.2.2)):=by
 unfold j7 eW;rw[mT];by_cases c:U.tup k∈es.map λp=>U.tup p.1
 ·rw[hG c,hZ rfl,hZ c];clear c
  induction es generalizing us with
  |nil=>
   rw[XX] at r;unfold aE at r;cases us with
   |nil=>exact aE.nil
   |cons=>obtain⟨_,_,e,_⟩:=r;cases e
  |cons q es ih=>
   cases us with
   |nil=>unfold aE at r;cases r
   |cons w us=>
    unfold aE at r;obtain⟨x,rr,e,h1,h2⟩:=r;cases e;rw[WB,WB,WB,YQ];refine aE.cons ?_ (ih h2);by_cases c:q.1=k
    ·rw[hZ (by rw[c]),hZ c];exact p
    ·rw[hV (λz=>c (mI.mp z)),hV c];exact h1
 ·rw[hJ c,hV WA,hV c,WR];exact r.snoc p
theorem II {k:List U}(h:(es.map (·.1)).Nodup):((j7 es k b v).map (·.1)).Nodup:=by
 unfold j7;split
 ·rw[WW];have:es.map ((λx=>x.1)∘λe=>if e.1=k then (e.1,e.2.1,v) else e)=es.map (·.1):=W3 λe _=>by
   show (if e.1=k then (e.1,e.2.1,v) else e).1=e.1;split<;>rfl
  rw[this];exact h
 ·rename_i c;rw[WR,WB,XX];refine aad.mpr ⟨h,by simp,?_⟩;intro x hx y hy e;rw[W0.mp hy] at e;subst e;rw[mT] at c;apply c;rw[decide_eq_true_eq];obtain⟨e,he,rfl⟩:=WN.mp hx;exact WN.mpr ⟨e,he,rfl⟩
theorem ER {k:List U}(h:∀e∈es,tK H e.1 e.2.1)(kb:tK H k b):∀e∈j7 es k b v,tK H e.1 e.2.1:=by
 unfold j7;split
 ·intro e he;obtain⟨e',h1,rfl⟩:=WN.mp he;split
  ·exact h e' h1
  ·exact h e' h1
 ·intro e he;rcases Xa.mp he with z|z
  ·exact h e z
  ·rw[W0.mp z];exact kb
theorem IJ {k:List U}:j7 es k b v≠[]:=by
 unfold j7;split
 ·rename_i c;intro z;cases es with
  |nil=>cases c
  |cons e es=>cases z
 ·simp
theorem ES {k v:U}(h:ks.length=us.length):(eW ks us k v).length<=us.length+1:=by
 unfold eW;split
 ·rw[ZO];lia
 ·rw[WI,Ya];exact WK _
theorem xb.len (d:xb H a ks xs)(r:aE K H A us xs):ks.length=us.length:=by
 rcases d with⟨aL,_,rfl,rfl⟩|⟨es,_,_,rfl,rfl⟩
 ·rw[r.length,Ww,Ww]
 ·rw[r.length,Ww,Ww]
theorem Mz {k w:U}(mu:∀a,A a->Mu (H a))(ha:A a)(d:xb H a ks xs)(r:aE K H A us xs)(f:j9 ks k=true)(hk:Rp K H A k y)(hw:Rp K H A w v)(hl:us.length<WC){C:Hp->Prop}(hC:∀H',(∀b o,b≠a->H b=some o->H' b=some o)->ko K H' A (.dct (gG ks k) (eW ks us k w)) a->C H'):Ra H a y v C:=by
 have ln:=d.len r;have l2:(eW ks us k w).length<=WC:=XG (ES ln) hl;have nt:∀b ys,H b=some (.tup ys)->b≠a:=λb ys h e=>by
  subst e;have:=mu b ha;rw[h] at this;exact this
 have fin:∀(o:HO) (zs:List V),xb (cD H a o) a (gG ks k) zs->aE K H A (eW ks us k w) zs->ko K (cD H a o) A (.dct (gG ks k) (eW ks us k w)) a:=λo zs d' r'=>
  ⟨zs,d',l2,r'.re mu (λb o' nb z=>jJ _ b o' (λy=>nb (y▸ha)) z) λb z=>.inl z⟩
 have QQ:∀(es:List (List U×W8×V)) (kk:List U) (b:W8),iM H a es->tK H kk b->k=.tup kk->y=.ref b->ks=es.map (λp=>.tup p.1)->xs=es.map (·.2.2)->Ra H a y v C:=by
  rintro es kk b h kt rfl rfl rfl rfl;have le:es.length=us.length:=by rw[r.length,Ww]
  refine .inr ⟨es,kk,b,h,rfl,kt,by lia,λep=>hC _ (jJ _) (fin _ _ (.inr ⟨j7 es kk b v,IJ,?_,(CM es v).symm,rfl⟩) (CN hw r))⟩;have tp:∀c ys,H c=some (.tup ys)->cD H a (DN a ep (j7 es kk b v)) c=some (.tup ys):=λc ys hc=>by rw[aS (nt c ys hc)];exact hc
  exact⟨.inl ⟨ep,bg⟩,II h.nd,λe he=>(ER h.key kt e he).to tp⟩
 unfold j9 at f;rw[Z2,W2,W2] at f;rcases d with⟨aL,h,e1,e2⟩|⟨es,n,h,e1,e2⟩
 ·rcases f with⟨f1,f2⟩|⟨f1,f2⟩
  ·obtain⟨q,rfl,rfl⟩:=JY f1 hk;subst e1 e2;have lk:aL.length=us.length:=by rw[r.length,Ww]
   exact .inl ⟨_,.inl ⟨aL,q,h,rfl,by lia,rfl⟩,hC _ (jJ _) (fin _ _ (.inl ⟨_,bg,(CK aL v).symm,rfl⟩) (CL hw r))⟩
  ·cases aL with
   |nil=>
    subst e1 e2;cases k<;>first|(cases f1;done)|skip
    rename_i kk;obtain⟨b,rfl,kt⟩:=xM f1 hk;exact QQ [] kk b ⟨.inr ⟨rfl,h⟩,Y9,(λe he=>by cases he)⟩ kt rfl rfl rfl rfl
   |cons p aL=>
    exfalso;subst e1;rw[WB,aaN,W2] at f2;obtain⟨p1,p2⟩:=p;cases p1<;>cases f2.1
 ·rcases f with⟨f1,f2⟩|⟨f1,f2⟩
  ·exfalso;subst e1;cases es with
   |nil=>exact n rfl
   |cons p es=>rw[WB,aaN,W2] at f2;cases f2.1
  ·cases k<;>first|(cases f1;done)|skip
   rename_i kk;obtain⟨b,rfl,kt⟩:=xM f1 hk;exact QQ es kk b h kt rfl rfl e1 e2
section
variable {o i e f value:YV}{ka gz cpos p1:Pos}{b1 b2 b3:Bool}{m m1 m2 m3:Md}{g1 g2 g3:Ev->R (U×Ev)}{y:Str}
noncomputable def vL:U->U->R U:=λu w=>match u with
 | .dct ks us=>if j9 ks w=true then (match gL ks us w with
  |some z=>.ok z
  |none=>.stk) else .stk
 |_=>.stk
theorem JZ (h:Pk K H A u v)(c:EM u=true\/EO u=true):Rp K H A u v:=by
 cases u<;>first|(exfalso;rcases c with c|c<;>cases c;done)|(unfold Pk at h;unfold Rp;exact h)
theorem A8 {k:U}(f:j9 ks k=true):EM k=true\/EO k=true:=by
 unfold j9 at f;rw[Z2,W2,W2] at f;rcases f with⟨f,_⟩|⟨f,_⟩
 ·exact .inl f
 ·cases k<;>first|(cases f;done)|exact .inr rfl
theorem ET (hu:X.A.units+64<YH)(ha:DE X G o b1 m1 g1)(hb:DE X G i b2 m2 g2)(hs:LX i:=by intro _ _;rfl)(hm:m1=.P->b2=false:=by first|exact λ_=>rfl|exact λh=>nomatch h):DE X G (.Subscript o i pos) (b1||b2) .S (aY vL g1 g2):=⟨(IG hu ha.un hb.un hs).to λσ H Q h=>by
 have hp:g_ X.K (λx y H Q=>∃a v,x=.ref a/\IF H a y (some v)/\Q v H) .S vL:=λA H x y u w z Q hx hy mu e q=>by
  unfold vL at e;split at e;rotate_left
  ·cases e
  split at e
  ·rename_i fk;split at e
   ·rename_i z' hz;cases e;unfold Pk at hx;obtain⟨a,xs,rfl,d,l,r⟩:=hx;obtain⟨ov,g,q1,_⟩:=zI d r fk (JZ hy (A8 fk));obtain⟨v,rfl,rp⟩:=q1 _ hz;exact⟨a,v,rfl,g,q v H (aG.refl _) rp⟩
   ·cases e
  ·cases e
 exact mK hp hm h⟩
noncomputable def CO (f:Bool->Bool):U->U->R U:=λk u=>match u with
 | .dct ks us=>if j9 ks k=true then .ok (.bl (f (gL ks us k).isSome)) else .stk
 |_=>.stk
theorem IK {f:Bool->Bool}:g_ K (Pd f) .S (CO f):=λA H y x k u z Q hy hx mu e q=>by
 unfold CO at e;split at e;rotate_left
 ·cases e
 rename_i ks us;split at e
 ·rename_i fk;cases e;unfold Pk at hx;obtain⟨a,xs,rfl,d,l,r⟩:=hx;obtain⟨ov,g,q1,q2⟩:=zI d r fk (JZ hy (A8 fk));refine⟨a,ov,rfl,g,?_⟩;have:ov.isSome=(gL ks us k).isSome:=by
   cases hz:gL ks us k with
   |none=>rw[q2 hz];rfl
   |some w=>obtain⟨v,rfl,_⟩:=q1 _ hz;rfl
  rw[this];exact q _ H (aG.refl _) (show Rp K H A _ _ from lC)
 ·cases e
noncomputable def i8 (i:Nat)(g2 g3:Ev->R (U×Ev)):Ev->R (U×Ev):=λρ=>match ρ[i]? with
 |some (some (.dct _ _))=>(g2 ρ).bind λk=>(g3 k.2).bind λx=>match x.2[i]? with
  |some (some (.dct ks us))=>if j9 ks k.1=true then .ok ((gL ks us k.1).getD x.1,x.2) else .stk
  |_=>.stk
 |_=>.stk
theorem IL {K:WD}(d:xb H a ks xs):Mt H a:=by
 rcases d with⟨aL,h,_⟩|⟨es,_,h,_⟩
 ·exact .inl (.inl ⟨aL,.inl h⟩)
 ·exact .inr ⟨es,h⟩
theorem uI (q:cz K G Z A ρ σ H)(h:ρ[j]? = some (some (.dct ks us))):∃a xs,σ[j]? = some (some (.ref a))/\xb H a ks xs/\us.length<=WC/\aE K H A us xs:=by
 obtain⟨v,h1,h2⟩:=q.slot j _ h;by_cases c:G.is j=true
 ·rw[hZ c] at h2;obtain⟨a,rfl,_,_,_,t⟩:=h2;obtain⟨xs,d,l,r⟩:=t;exact⟨a,xs,h1,d,l,r⟩
 ·rw[hV c] at h2;unfold Rp at h2;obtain⟨a,xs,rfl,_,d,l,r⟩:=h2;exact⟨a,xs,h1,d,l,r⟩
theorem rn (hu:X.A.units+64<YH)(he:DE X G e b1 m1 g1)(hf:DE X G f b2 m2 g2)(n1:m1≠.P:=by decide)(n2:m2≠.P:=by decide)(hN:X.N[j]? = some y:=by rfl)(hv:Dx X.env.scope y:=by first|exact Or.inl rfl|exact Or.inr (Or.inl rfl)|exact Or.inr (Or.inr rfl))(hd:(y==("__debug__":Str))=false:=by decide)(ny:(y==("__classdict__":Str))=false:=by decide)(M:M2 X (.Name y p1) "get" gz e f cpos:=by exact⟨rfl,rfl,rfl,rfl⟩):DE X G (.Call (.Attribute (.Name y p1) "get" gz) [e,f] [] cpos) (b1||b2) .S (i8 j g1 g2):=⟨(EL hu (i4 hN hv hd ny) he.un hf.un M).to λσ H Q h=>by
 obtain⟨Z,A,ρ,q,f⟩:=h;unfold i8 at f;split at f
 ·rename_i We Wf h0;obtain⟨a,xs0,s0,d0,_,_⟩:=uI q h0;obtain⟨⟨k,ρ1⟩,e1,f⟩:=f.bind;obtain⟨⟨x,ρ2⟩,e2,f⟩:=f.bind;dsimp only at e2 f;split at f
  ·rename_i ks us h2;split at f
   ·rename_i fk;refine⟨.ref a,s0,a,rfl,IL (K:=X.K) d0,Z,A,ρ,q,?_⟩;rw[e1];intro v1 H1 q1 x1 s1 qD;refine⟨Z,A,ρ1,q1,?_⟩;rw[e2];intro v2 H2 q2 x2 s2 yV;obtain⟨a',xs,s0',d,_,r⟩:=uI q2 h2;rw[s0] at s0';cases s0';obtain⟨ov,g,z1,z2⟩:=zI d r fk (qD.laterS q1 x2 n1);refine⟨ov,g,f _ H2 q2 (x1.trans x2) (two s1 s2) ?_⟩;cases hz:gL ks us k with
    |none=>rw[z2 hz];exact yV.rp n2
    |some w=>obtain⟨v,rfl,rp⟩:=z1 _ hz;exact rp
   ·exact f.elim
  ·exact f.elim
 ·exact f.elim⟩
noncomputable def i9 (i:Nat)(gv gk:Ev->R (U×Ev)):Ev->SR:=λρ=>SR.of (gv ρ) λx=>if live x.2 i=true then SR.of (gk x.2) λy=>match y.2[i]? with
 |some (some (.dct ks us))=>if j9 ks y.1=true/\us.length<WC then .nx (y.2.set i (some (.dct (gG ks y.1) (eW ks us y.1 x.1)))) else .stk
 |_=>.stk
 else .stk
theorem qr (hu:X.A.units+64<YH)(hv:DE X G value b1 m1 g1)(hk:DE X G i b2 m2 g2)(n1:m1≠.P:=by decide)(n2:m2≠.P:=by decide)(hN:X.N[j]? = some y:=by rfl)(Vg:Dx X.env.scope y:=by first|exact Or.inl rfl|exact Or.inr (Or.inl rfl)|exact Or.inr (Or.inr rfl))(c:G.is j=true:=by rfl)(hd:(y==("__debug__":Str))=false:=by decide)(ny:(y==("__classdict__":Str))=false:=by decide)(hs:aaI value (some (.Subscript (.Name y p1) i ka)) pos.line X.env=pure false:=by rfl):DS X G m (.Assign [.Subscript (.Name y p1) i ka] value pos) (i9 j g1 g2):=⟨(IH hu (i4 hN Vg hd ny) hk.un hv.un hs).to λD σ H h00=>by
 obtain⟨Z,A,ρ,q,f⟩:=h00;obtain⟨⟨w,ρ1⟩,e1,f⟩:=f.of;refine⟨Z,A,ρ,q,?_⟩;rw[e1];intro v H1 q1 x1 s1 vm;dsimp only at f;split at f
 ·rename_i hl;obtain⟨u00,hu0⟩:=vB hl;obtain⟨a0,h0,_⟩:=q1.own c hu0;obtain⟨⟨k,ρ2⟩,e2,f⟩:=f.of;refine⟨.ref a0,h0,Z,A,ρ1,q1,?_⟩;rw[e2];intro v2 H2 q2 x2 s2 yV;dsimp only at f;split at f
  ·rename_i ks us Uo;split at f
   ·rename_i fk;obtain⟨a0',k1,k2,_,_,k5⟩:=q2.own c Uo;rw[h0] at k1;cases k1;obtain⟨xs,d,_,r⟩:=k5;exact⟨a0,rfl,Mz q2.mu k2 d r fk.1 (yV.rp n2) ((vm.rp n1).re q1.mu x2 λb z=>.inl z) fk.2 λH' em t=>f A σ H' (q2.put c Uo h0 em t)⟩
   ·exact f.elim
  ·exact f.elim
 ·exact f.elim⟩
end
end L2
namespace Hc.Sx
open PySem.SetTable
noncomputable def gH:Nat->Nat
 |0=>0
 |n+1=>5*gH n+1
theorem A9 (n:Nat):5 ^ n=4*gH n+1:=by
 induction n with
 |zero=>rfl
 |succ n ih=>rw[Zk,ih];show _=4*(5*gH n+1)+1;lia
theorem IM (m n:Nat):gH (m+n)=5 ^ n*gH m+gH n:=by
 induction n with
 |zero=>simp[gH]
 |succ n ih=>
  show 5*gH (m+n)+1=5 ^ (n+1)*gH m+(5*gH n+1);rw[ih,Zk,Yb (5 ^ n) 5,Nat.mul_add,Ye];lia
theorem IP (n:Nat):gH n % 2=n % 2:=by
 induction n with
 |zero=>rfl
 |succ n ih=>unfold gH;lia
theorem IQ (d:Nat):gH (d+d)=gH d*(2*(2*gH d+1)):=by
 rw[IM,A9];have:gH d*(2*(2*gH d+1))=4*(gH d*gH d)+2*gH d:=by
  rw[←Ye,Nat.mul_add,Yb (gH d) 2,Nat.mul_one];have:2*gH d*(2*gH d)=4*(gH d*gH d):=by
   rw[Ye,aa6 (gH d) 2,←Ye]
  rw[this]
 rw[this,Nat.add_mul,Ye];lia
theorem TH (k q:Nat):Nat.Coprime (2 ^ k) (2*q+1):=by
 refine Nat.Coprime.pow_left k ?_;unfold Nat.Coprime;rw[Nat.gcd_rec,show (2*q+1) % 2=1 by lia];rfl
theorem A_:∀(k d:Nat),2 ^ k ∣ gH d->2 ^ k ∣ d
 |0,d,_=>⟨d,by simp⟩
 |k+1,d,h=>by
  have e:d % 2=0:=by
   rw[←IP];obtain⟨c,hc⟩:=h;rw[hc,Zk,Ye,aa6];lia
  obtain⟨d',rfl⟩:∃d',d=d'+d':=⟨d / 2,by lia⟩;rw[IQ,Zk,Yb (2 ^ k) 2,aa6 (gH d') 2] at h;have h1:2 ^ k ∣ gH d'*(2*gH d'+1):=Nat.dvd_of_mul_dvd_mul_left (by decide) h;have h2:2 ^ k ∣ gH d':=aaV (TH k _) h1;obtain⟨c,hc⟩:=A_ k d' h2;exact⟨c,by rw[Zk,Ye,aa6,←hc];lia⟩
noncomputable def tL (M x:Nat):Nat->Nat
 |0=>x
 |n+1=>(tL M x n*5+1) % M
theorem Ba (M x:Nat):∀n,tL M x n % M=(5 ^ n*x+gH n) % M
 |0=>by simp[tL,gH]
 |n+1=>by
  unfold tL gH;rw[Nat.mod_mod,Zk,Yb (5 ^ n) 5,Ye];have:=Ba M x n;rw[Nat.add_mod,Nat.mul_mod,this,←Nat.mul_mod,←Nat.add_mod];congr 1;rw[Yb _ 5,Nat.mul_add];lia
theorem vM (M x m:Nat):∀n,tL M x (m+n)=tL M (tL M x m) n
 |0=>rfl
 |n+1=>by
  show (tL M x (m+n)*5+1) % M=_;rw[vM M x m n];rfl
theorem EU {M x:Nat}(h:x<M):∀n,tL M x n<M
 |0=>h
 |n+1=>aae _ (by lia)
theorem EV {x d:Nat}(hx:x<2 ^ k)(h:tL (2 ^ k) x d=x):2 ^ k ∣ d:=by
 have e:=Ba (2 ^ k) x d;rw[h,A9,Nat.add_mul,Nat.one_mul] at e;have h2:2 ^ k ∣ gH d*(2*(2*x)+1):=by
  have:gH d*(2*(2*x)+1)=4*gH d*x+gH d:=by
   rw[Nat.mul_add,Nat.mul_one,←Ye,←Ye,Ye (gH d) 2 2,Yb (gH d)]
  rw[this];have e2:(x+(4*gH d*x+gH d)) % 2 ^ k=x % 2 ^ k:=by rw[e];congr 1;lia
  have e3:((4*gH d*x+gH d)) % 2 ^ k=0:=by
   have:=(Nat.mod_eq_mod_iff (x:=x+(4*gH d*x+gH d)) (y:=x) (z:=2 ^ k)).mp e2;obtain⟨a,b,vi⟩:=this;have:4*gH d*x+gH d+2 ^ k*a=2 ^ k*b:=by rw[Yb _ a,Yb _ b];lia
   have h3:2 ^ k ∣ 4*gH d*x+gH d:=(Nat.dvd_add_right (Nat.dvd_mul_right (2 ^ k) a)).mp (by rw[Nat.add_comm,this];exact Nat.dvd_mul_right _ _);exact Nat.mod_eq_zero_of_dvd h3
  exact Nat.dvd_of_mod_eq_zero e3
 exact A_ k d (aaV (TH k _) h2)
theorem IS {x a b:Nat}(hx:x<2 ^ k)(ha:a<2 ^ k)(hb:b<2 ^ k)(h:tL (2 ^ k) x a=tL (2 ^ k) x b):a=b:=by
 have key:∀a b,a<=b->b<2 ^ k->tL (2 ^ k) x a=tL (2 ^ k) x b->a=b:=λa b vi hb h=>by
  obtain⟨d,rfl⟩:∃d,b=a+d:=⟨b-a,by lia⟩;rw[vM] at h;have:=EV (EU hx a) h.symm;have:d=0:=Nat.eq_zero_of_dvd_of_lt this (by lia);lia
 rcases Nat.le_total a b with z|z
 ·exact key a b z hb h
 ·exact (key b a z ha h.symm).symm
theorem IT {x y:Nat}(hx:x<2 ^ k)(hy:y<2 ^ k):∃n,n<2 ^ k/\tL (2 ^ k) x n=y:=by
 refine Zo λhn=>?_;have nd:((WY (2 ^ k)).map (tL (2 ^ k) x)).Nodup:=by
  unfold List.Nodup;rw[Za];refine ZE (λ{a b} ha hb vi e=>?_) abr;exact vi (IS hx (Xv.mp ha) (Xv.mp hb) e)
 have:=ZL (l₁:=y::(WY (2 ^ k)).map (tL (2 ^ k) x)) (l₂:=WY (2 ^ k))
  (Zd.mpr ⟨λh=>by
   obtain⟨n,h1,h2⟩:=WN.mp h;exact hn ⟨n,Xv.mp h1,h2⟩,nd⟩)
  (λz hz=>by
   rcases WZ.mp hz with e|hz
   ·rw[e];exact Xv.mpr hy
   ·obtain⟨n,_,rfl⟩:=WN.mp hz;exact Xv.mpr (EU hx n))
 rw[WS,Ww,Xf] at this;lia
noncomputable def eX (mask:Nat):Nat->Nat×Nat->Nat×Nat
 |0,p=>p
 |n+1,p=>eX mask n (leap mask p.1 p.2)
theorem uJ (mask m n:Nat)(p:Nat×Nat):eX mask (m+n) p=eX mask n (eX mask m p):=by
 induction m generalizing p with
 |zero=>rw[Zj];rfl
 |succ m ih=>rw[Nat.succ_add];exact ih _
theorem uK (mask:Nat):∀(n i q:Nat),(eX mask n (i,q)).2=q / 32 ^ n
 |0,i,q=>by simp[eX]
 |n+1,i,q=>by
  show (eX mask n (leap mask i q)).2=_;unfold leap;rw[uK,Nat.div_div_eq_div_mul,Zk,Yb 32]
theorem xN (mask:Nat):∀(n i q:Nat),i<=mask->(eX mask n (i,q)).1<=mask
 |0,i,q,h=>h
 |n+1,i,q,h=>xN mask n _ _ (Zb (aae _ (Z3 _)))
theorem rq (mask:Nat):∀(n i:Nat),eX mask n (i,0)=(tL (mask+1) i n,0)
 |0,i=>rfl
 |n+1,i=>by
  rw[Nat.add_comm n 1,uJ];show eX mask n (leap mask i 0)=_;rw[show leap mask i 0=(tL (mask+1) i 1,0) by unfold leap tL tL;simp,rq,vM]
theorem uL (hm:mask+1=2 ^ k){q y:Nat}(hi:i<=mask)(hq:q<2 ^ 64)(hy:y<=mask):∃n,n<mask+14/\(eX mask n (i,q)).1=y:=by
 have z:(eX mask 13 (i,q)).2=0:=by
  rw[uK];exact Nat.div_eq_of_lt (Nat.lt_trans hq (by decide))
 have e:eX mask 13 (i,q)=((eX mask 13 (i,q)).1,0):=by rw[←z]
 obtain⟨n,h1,h2⟩:=IT (k:=k) (x:=(eX mask 13 (i,q)).1) (y:=y) (by rw[←hm];exact Nat.lt_succ_of_le (xN mask 13 i q hi)) (by lia);refine⟨13+n,by lia,?_⟩;rw[uJ,e,rq,hm];exact h2
end Hc.Sx
namespace Hc.Sx
open PySem.SetTable
def Ph (xs:Array Nat):Prop:=∀i j (hi:i<xs.size) (hj:j<xs.size),i<j->xs[i]<xs[j]
theorem rA {xs:Array Nat}{j:Nat}(hr:Ph xs):∀(fuel lo hi:Nat),lo<=hi->hi<=xs.size->hi-lo<=fuel->(∀i (h:i<xs.size),i<lo->xs[i]<j)->(∀i (h:i<xs.size),hi<=i->j<=xs[i])->
  (∀i (h:i<xs.size),i<below.go xs j fuel lo hi->xs[i]<j)/\(∀i (h:i<xs.size),below.go xs j fuel lo hi<=i->j<=xs[i])/\below.go xs j fuel lo hi<=xs.size
 |0,lo,hi,h1,h2,h3,a,b=>by
  have:lo=hi:=by lia
  subst this;exact⟨a,b,h2⟩
 |fuel+1,lo,hi,h1,h2,h3,a,b=>by
  unfold below.go;by_cases c:lo<hi
  ·rw[hZ c];dsimp only;have hm:(lo+hi) / 2<xs.size:=by lia
   have hd:xs.getD ((lo+hi) / 2) j=xs[(lo+hi) / 2]:=by simp[aa7,hm]
   rw[hd];by_cases c2:xs[(lo+hi) / 2]<j
   ·rw[hZ c2];refine rA hr fuel _ hi (by lia) h2 (by lia) (λi h wX=>?_) b;rcases YM i ((lo+hi) / 2) with z|z
    ·exact Nat.lt_trans (hr _ _ h hm z) c2
    ·have:i=(lo+hi) / 2:=by lia
     subst this;exact c2
   ·rw[hV c2];refine rA hr fuel lo _ (by lia) (by lia) (by lia) a (λi h wX=>?_);rcases YM ((lo+hi) / 2) i with z|z
    ·have:=hr _ _ hm h z;lia
    ·have:i=(lo+hi) / 2:=by lia
     subst this;lia
  ·rw[hV c];have:lo=hi:=by lia
   subst this;exact⟨a,b,h2⟩
theorem mU {xs:Array Nat}(hr:Ph xs):(∀i (h:i<xs.size),i<below xs j->xs[i]<j)/\(∀i (h:i<xs.size),below xs j<=i->j<=xs[i])/\below xs j<=xs.size:=
 rA hr _ _ _ (Ys _) (WK _) (by lia) (λi _ h=>by lia) (λi h h'=>by lia)
theorem EW {xs:Array Nat}(hr:Ph xs)(h:xs[i]? = some j):below xs j=i:=by
 obtain⟨hi,e⟩:=XO.mp h;obtain⟨a,b,c⟩:=mU (j:=j) hr;rcases aa8 (below xs j) i with z|z|z
 ·have h1:=b (below xs j) (by lia) (WK _);have h2:=hr _ _ (by lia) hi z;lia
 ·exact z
 ·have:=a i hi z;lia
variable {V:Type}
structure Bb (t:aaq)(es:Array (Int×V))(C:Nat->Option (Int×V)):Prop where
 ris:Ph t.place
 sz:t.place.size=es.size
 dum:t.dummies=#[]
 pow:∃k,t.mask+1=2 ^ k
 room:es.size<=t.mask
 top:∀(i j:Nat),t.place[i]? = some j->j<=t.mask
 con:∀(j:Nat) (e:Int×V),C j=some e↔∃i:Nat,t.place[i]? = some j/\es[i]? = some e
section
variable {es:Array (Int×V)}{C:Nat->Option (Int×V)}
theorem xO {xs:Array Nat}(h:xs=#[])(j:Nat):has xs j=false:=by subst h;rfl
theorem Bb.live (T:Bb t es C){e:Int×V}(h:C j=some e):∃i,t.slot j=.live i/\es[i]? = some e/\t.place[i]? = some j:=by
 obtain⟨i,h1,h2⟩:=(T.con j e).mp h;refine⟨i,?_,h2,h1⟩;unfold SetTable.slot;dsimp only;rw[EW T.ris h1,h1];simp
theorem Bb.empty (T:Bb t es C)(h:C j=none):t.slot j=.empty:=by
 unfold SetTable.slot;dsimp only;have n:(t.place[below t.place j]? == some j)=false:=by
  rw[aa5];intro c;have c:t.place[below t.place j]? = some j:=by simpa using c
  have hi:=(XO.mp c).1;have QR:below t.place j<es.size:=by rw[←T.sz];exact hi
  have:es[below t.place j]? = some es[below t.place j]:=Xc QR;rw[(T.con j _).mpr ⟨_,c,this⟩] at h;cases h
 rw[n,xO T.dum];rfl
theorem Bb.free (T:Bb t es C):∃y,y<=t.mask/\C y=none:=by
 refine Zo λhn=>?_;have hs:=T.sz;have hr:=T.room;have:=ZL (l₁:=WY (t.mask+1)) (l₂:=t.place.toList) abr (λy hy=>by
  have hy:=Xv.mp hy;cases e:C y with
  |none=>exact absurd ⟨y,by lia,e⟩ hn
  |some v=>
   obtain⟨i,h1,_⟩:=(T.con y v).mp e;have:=Array.mem_of_getElem? h1;simpa using this)
 rw[Xf,WH] at this;lia
end
noncomputable def adv (mask:Nat)(p:Probe):Probe:=
 if p.more>0 then {p with j:=p.j+1,more:=p.more-1} else
 {p with j:=(leap mask p.i p.perturb).1,more:=runEnd mask (leap mask p.i p.perturb).1-(leap mask p.i p.perturb).1,i:=(leap mask p.i p.perturb).1,perturb:=(leap mask p.i p.perturb).2}
theorem EX (t:aaq)(p:Probe):t.advance p=adv t.mask p:=by unfold SetTable.advance adv;rfl
noncomputable def advs (mask:Nat):Nat->Probe->Probe
 |0,p=>p
 |n+1,p=>advs mask n (adv mask p)
theorem ie (mask m n:Nat)(p:Probe):advs mask (m+n) p=advs mask n (advs mask m p):=by
 induction m generalizing p with
 |zero=>rw[Zj];rfl
 |succ m ih=>rw[Nat.succ_add];exact ih _
theorem uM (mask n:Nat)(p:Probe):advs mask (n+1) p=adv mask (advs mask n p):=by rw[ie];rfl
structure kA (mask:Nat)(p:Probe):Prop where
 i:p.i<=mask
 q:p.perturb<2 ^ 64
 m:p.more<=9
 d:p.dummy=none
theorem nW (mask i:Nat):runEnd mask i-i<=9:=by unfold runEnd;split<;>lia
theorem kA.adv {p:Probe}(h:kA mask p):kA mask (adv mask p):=by
 unfold Hc.Sx.adv;split
 ·exact⟨h.i,h.q,by have:=h.m;dsimp only;lia,h.d⟩
 ·refine⟨Zb (aae _ (Z3 _)),?_,nW _ _,h.d⟩;exact ZW (Nat.div_le_self _ _) h.q
theorem kA.advs {mask:Nat}:∀(n:Nat) {p:Probe},kA mask p->kA mask (advs mask n p)
 |0,_,h=>h
 |n+1,_,h=>kA.advs n h.adv
theorem Bc (h:Int):bits h<2 ^ 64:=by
 unfold bits;have:h % (2 ^ 64:Int)<2 ^ 64:=YC _ (by decide);have h0:0<=h % (2 ^ 64:Int):=Zf _ (by decide);lia
theorem kA.start (t:aaq)(h:Int):kA t.mask (t.probeStart h):=
 ⟨Zb (aae _ (Z3 _)),Bc h,nW _ _,rfl⟩
theorem rB {mask:Nat}:∀(n:Nat) {p:Probe},p.more=n->(advs mask (n+1) p).j=(leap mask p.i p.perturb).1/\(advs mask (n+1) p).i=(leap mask p.i p.perturb).1/\(advs mask (n+1) p).perturb=(leap mask p.i p.perturb).2/\(advs mask (n+1) p).more<=9
 |0,p,e=>by
  show (adv mask p).j=_/\(adv mask p).i=_/\(adv mask p).perturb=_/\(adv mask p).more<=9;unfold adv;rw[hV (by lia)];exact⟨rfl,rfl,rfl,nW _ _⟩
 |n+1,p,e=>by
  have:=rB (mask:=mask) n (p:=adv mask p) (by unfold adv;rw[hZ (by lia)];show p.more-1=n;lia);have e1:(adv mask p).i=p.i/\(adv mask p).perturb=p.perturb:=by unfold adv;rw[hZ (by lia)];exact⟨rfl,rfl⟩
  rw[e1.1,e1.2] at this;exact this
theorem oH {mask:Nat}:∀(n:Nat) {p:Probe},kA mask p->∃m,m<=10*(n+1)/\(advs mask m p).j=(eX mask (n+1) (p.i,p.perturb)).1
 |0,p,h=>by
  obtain⟨a,_⟩:=rB (mask:=mask) p.more (p:=p) rfl;exact⟨p.more+1,by have:=h.m;lia,a⟩
 |n+1,p,h=>by
  obtain⟨a,b,c,d⟩:=rB (mask:=mask) p.more (p:=p) rfl;obtain⟨m,h1,h2⟩:=oH n (kA.advs (p.more+1) h);refine⟨p.more+1+m,by have:=h.m;lia,?_⟩;rw[ie,h2,b,c];rfl
theorem uN (hm:mask+1=2 ^ k){p:Probe}(h:kA mask p){y:Nat}(hy:y<=mask):∃m,m<10*turns mask/\(advs mask m p).j=y:=by
 obtain⟨n,h1,h2⟩:=uL hm (i:=(leap mask p.i p.perturb).1) (q:=(leap mask p.i p.perturb).2) (y:=y) (Zb (aae _ (Z3 _))) (ZW (Nat.div_le_self _ _) h.q) hy;obtain⟨m,h3,h4⟩:=oH n h;refine⟨m,by unfold turns;lia,?_⟩;rw[h4];exact h2
section
variable {es:Array (Int×V)}{C:Nat->Option (Int×V)}{hashAt:Nat->Int}
theorem Be (T:Bb t es C)(hh:∀i e,es[i]? = some e->hashAt i=e.1)(h:Int):∀(m fuel:Nat) (p:Probe),kA t.mask p->m<fuel->C (advs t.mask m p).j=none->
    ∃m',m'<=m/\(∀a,a<m'->∃e,C (advs t.mask a p).j=some e/\e.1≠h)/\
      ((C (advs t.mask m' p).j=none/\probe.go t hashAt h fuel p=some (.empty (advs t.mask m' p).j none)) \/
       ∃e i,C (advs t.mask m' p).j=some e/\e.1=h/\es[i]? = some e/\t.place[i]? = some (advs t.mask m' p).j/\probe.go t hashAt h fuel p=some (.candidate (advs t.mask m' p).j i (advs t.mask (m'+1) p)))
  |m,0,p,_,hf,_=>by lia
  |m,fuel+1,p,hp,hf,he=>by
    unfold probe.go;cases c:C p.j with
    |none=>
      refine⟨0,Ys _,λa ha=>by lia,.inl ⟨c,?_⟩⟩;rw[T.empty c];dsimp only;rw[hp.d];rfl
    |some e=>
      obtain⟨i,h1,h2,h3⟩:=T.live c;rw[h1];dsimp only;rw[hh i e h2];by_cases q:e.1=h
      · refine⟨0,Ys _,λa ha=>by lia,.inr ⟨e,i,c,q,h2,h3,?_⟩⟩;rw[hZ (by rw[q];simp),EX];rfl
      · rw[hV (by simpa using q),EX];cases m with
        |zero=>rw[show advs t.mask 0 p=p from rfl,c] at he;cases he
        |succ m=>
          obtain⟨m',g1,g2,g3⟩:=Be T hh h m fuel (adv t.mask p) hp.adv (by lia) he;refine⟨m'+1,by lia,λa ha=>?_,g3⟩;cases a with
          |zero=>exact⟨e,c,q⟩
          |succ a=>exact g2 a (by lia)
theorem zJ (T:Bb t es C)(hh:∀i e,es[i]? = some e->hashAt i=e.1)(h:Int){p:Probe}(hp:kA t.mask p) :
    ∃m',(∀a,a<m'->∃e,C (advs t.mask a p).j=some e/\e.1≠h)/\
      ((C (advs t.mask m' p).j=none/\t.probe hashAt h p=some (.empty (advs t.mask m' p).j none)) \/
       ∃e i,C (advs t.mask m' p).j=some e/\e.1=h/\es[i]? = some e/\t.place[i]? = some (advs t.mask m' p).j/\t.probe hashAt h p=some (.candidate (advs t.mask m' p).j i (advs t.mask (m'+1) p))):=by
  obtain⟨y,hy,hc⟩:=T.free;obtain⟨k,hk⟩:=T.pow;obtain⟨m,h1,h2⟩:=uN hk hp hy;obtain⟨m',_,g2,g3⟩:=Be T hh h m _ p hp h1 (by rw[h2];exact hc);exact⟨m',g2,g3⟩
end
end Hc.Sx
namespace Hc.Sx
open PySem.SetTable
theorem i_ {α:Type}(xs:Array α)(p:Nat)(x:α):(insertAt xs p x).toList=xs.toList.take p++x::xs.toList.drop p:=by
 unfold insertAt;simp[Zw,List.extract_eq_drop_take];exact Yi (by simp)
theorem bE {α:Type}{xs:Array α}{p:Nat}{x:α}(h:p<=xs.size)(i:Nat):(insertAt xs p x)[i]? = if i<p then xs[i]? else if i=p then some x else xs[i-1]? := by
 rw[←W4,i_];have lt:(xs.toList.take p).length=p:=by rw[W_,WH];lia
 by_cases c:i<p
 ·rw[hZ c,X5 (by lia),acp c,W4]
 ·rw[hV c,XN (by lia),lt];by_cases c2:i=p
  ·rw[hZ c2,c2,ab8];rfl
  ·rw[hV c2,show i-p=(i-p-1)+1 by lia,X2,aaP,W4];congr 1;lia
theorem fN {α:Type}{xs:Array α}{p:Nat}{x:α}(h:p<=xs.size):(insertAt xs p x).size=xs.size+1:=by
 rw[←WH,i_,WI,WS,W_,XA,WH];lia
variable {V:Type}
noncomputable def MA (C:Nat->Option (Int×V))(j:Nat)(e:Int×V):Nat->Option (Int×V):=λy=>if y=j then some e else C y
def J0 (mask:Nat)(st:Int->Probe)(C:Nat->Option (Int×V)):Prop:=∀(j:Nat) (e:Int×V),C j=some e->∃n,(advs mask n (st e.1)).j=j/\∀m,m<n->∃e',C (advs mask m (st e.1)).j=some e'
section
variable {es:Array (Int×V)}{C:Nat->Option (Int×V)}
theorem Bb.put (T:Bb t es C){e:Int×V}(hj:j<=t.mask)(hc:C j=none)(hr:es.size+1<=t.mask) :
  Bb (t.put j).1 (insertAt es (t.put j).2 e) (MA C j e)/\(t.put j).1.mask=t.mask/\(t.put j).1.plain=t.plain/\(t.put j).1.led=t.led/\(t.put j).1.moves=t.moves/\(t.put j).1.finger=t.finger:=by
 obtain⟨a,b,c⟩:=mU (j:=j) T.ris;have nz:∀i,t.place[i]? ≠ some j:=λi h=>by
  have hi:=(XO.mp h).1;have QR:i<es.size:=by rw[←T.sz];exact hi
  rw[(T.con j es[i]).mpr ⟨i,h,Xc QR⟩] at hc;cases hc
 have ep:(t.put j).1={t with place:=insertAt t.place (below t.place j) j}:=by
  unfold SetTable.put;dsimp only;rw[xO T.dum];rfl
 have e2:(t.put j).2=below t.place j:=rfl;have c2:below t.place j<=es.size:=by rw[←T.sz];exact c
 rw[ep,e2];refine⟨⟨?_,?_,T.dum,T.pow,?_,?_,?_⟩,rfl,rfl,rfl,rfl,rfl⟩
 ·intro i i' hi wX lt;have g:=λx=>bE (x:=j) c x;dsimp only at hi wX ⊢;have e1:=g i;have Az:=g i';rw[Xc hi] at e1;rw[Xc wX] at Az;rw[fN c] at hi wX;have at_:∀x (hx:x<t.place.size),t.place[x]? = some t.place[x]:=λx hx=>Xc hx;have Vh:∀x (hx:x<t.place.size),t.place[x]≠j:=λx hx z=>nz x (by rw[at_ x hx,z]);by_cases q:i<below t.place j
  ·rw[hZ q,at_ i (by lia)] at e1;have e1:=W6 e1;rw[e1];by_cases q':i'<below t.place j
   ·rw[hZ q',at_ i' (by lia)] at Az;rw[W6 Az];exact T.ris _ _ _ _ lt
   ·rw[hV q'] at Az;by_cases r':i'=below t.place j
    ·rw[hZ r'] at Az;rw[W6 Az];exact a i (by lia) q
    ·rw[hV r',at_ (i' - 1) (by lia)] at Az;rw[W6 Az];have h1:=a i (by lia) q;have h2:=b (i' - 1) (by lia) (by lia);lia
  ·rw[hV q] at e1;rw[hV (by lia),hV (by lia),at_ (i' - 1) (by lia)] at Az;rw[W6 Az];by_cases r:i=below t.place j
   ·rw[hZ r] at e1;rw[W6 e1];have h2:=b (i' - 1) (by lia) (by lia);have h3:=Vh (i' - 1) (by lia);lia
   ·rw[hV r,at_ (i-1) (by lia)] at e1;rw[W6 e1];exact T.ris _ _ _ _ (by lia)
 ·show (insertAt t.place _ j).size=_;rw[fN c,fN c2,T.sz]
 ·rw[fN c2];exact hr
 ·intro i y h;have h:(insertAt t.place (below t.place j) j)[i]? = some y:=h;rw[bE c] at h;split at h
  ·exact T.top i y h
  ·split at h
   ·cases h;exact hj
   ·exact T.top _ y h
 ·intro y v;show MA C j e y=some v↔∃i,(insertAt t.place (below t.place j) j)[i]? = some y/\(insertAt es (below t.place j) e)[i]? = some v;unfold MA;constructor
  ·intro h;split at h
   ·rename_i q;cases h;subst q;refine⟨below t.place y,?_,?_⟩
    ·rw[bE c,hV (YT _),hZ rfl]
    ·rw[bE c2,hV (YT _),hZ rfl]
   ·obtain⟨i,h1,h2⟩:=(T.con y v).mp h;by_cases q:i<below t.place j
    ·exact⟨i,by rw[bE c,hZ q];exact h1,by rw[bE c2,hZ q];exact h2⟩
    ·exact⟨i+1,by rw[bE c,hV (by lia),hV (by lia)];exact h1,by rw[bE c2,hV (by lia),hV (by lia)];exact h2⟩
  ·rintro⟨i,h1,h2⟩;rw[bE c] at h1;rw[bE c2] at h2;by_cases q:i<below t.place j
   ·rw[hZ q] at h1 h2;rw[hV (λz=>nz i (by rw[h1,z]))];exact (T.con y v).mpr ⟨i,h1,h2⟩
   ·rw[hV q] at h1 h2;by_cases r:i=below t.place j
    ·rw[hZ r] at h1 h2;rw[hZ (W6 h1).symm];exact h2
    ·rw[hV r] at h1 h2;rw[hV (λz=>nz (i-1) (by rw[h1,z]))];exact (T.con y v).mpr ⟨_,h1,h2⟩
theorem J0.up {st:Int->Probe}(P:J0 mask st C){e:Int×V}(hb:∀m,m<n->∃e',C (advs mask m (st e.1)).j=some e')(hc:C (advs mask n (st e.1)).j=none):J0 mask st (MA C (advs mask n (st e.1)).j e):=by
 have Hd:∀y,(∃e',C y=some e')->∃e',MA C (advs mask n (st e.1)).j e y=some e':=λy h00=>by
  obtain⟨e',h⟩:=h00;unfold MA;split
  ·exact⟨_,rfl⟩
  ·exact⟨e',h⟩
 intro j v h;unfold MA at h;split at h
 ·rename_i q;cases h;exact⟨n,q.symm,λm hm=>Hd _ (hb m hm)⟩
 ·obtain⟨n',h1,h2⟩:=P j v h;exact⟨n',h1,λm hm=>Hd _ (h2 m hm)⟩
theorem J0.met {st:Int->Probe}(P:J0 mask st C){h:Int}(hc:C (advs mask n (st h)).j=none){e:Int×V}(he:C j=some e)(hh:e.1=h):∃m,m<n/\(advs mask m (st h)).j=j:=by
 obtain⟨m,h1,h2⟩:=P j e he;rw[hh] at h1 h2;rcases aa8 m n with z|z|z
 ·exact⟨m,z,h1⟩
 ·subst z;rw[h1,he] at hc;cases hc
 ·obtain⟨e',q⟩:=h2 n z;rw[q] at hc;cases hc
end
noncomputable def aaH (mask:Nat)(h:Int):Probe:={j:=bits h % (mask+1),more:=runEnd mask (bits h % (mask+1))-bits h % (mask+1),i:=bits h % (mask+1),perturb:=bits h,dummy:=none}
theorem nX {mask:Nat}:∀(k:Nat) {p:Probe},k<=p.more->(advs mask k p).j=p.j+k/\(advs mask k p).more=p.more-k/\(advs mask k p).i=p.i/\(advs mask k p).perturb=p.perturb/\(advs mask k p).dummy=p.dummy
 |0,p,_=>⟨rfl,rfl,rfl,rfl,rfl⟩
 |k+1,p,h=>by
  obtain⟨a,b,c,d,e⟩:=nX (mask:=mask) k (p:=adv mask p) (by unfold adv;rw[hZ (by lia)];dsimp only;lia);have e1:(adv mask p).j=p.j+1/\(adv mask p).more=p.more-1/\(adv mask p).i=p.i/\(adv mask p).perturb=p.perturb/\(adv mask p).dummy=p.dummy:=by unfold adv;rw[hZ (by lia)];exact⟨rfl,rfl,rfl,rfl,rfl⟩
  refine⟨?_,?_,c.trans e1.2.2.1,d.trans e1.2.2.2.1,e.trans e1.2.2.2.2⟩
  ·show (advs mask k (adv mask p)).j=_;rw[a,e1.1];lia
  ·show (advs mask k (adv mask p)).more=_;rw[b,e1.2.1];lia
theorem uO {mask:Nat}{owner:Array (Option Nat)}(hs:owner.size=mask+1):∀(n fuel:Nat) (p:Probe),p.j=p.i->p.more=runEnd mask p.i-p.i->p.i<=mask->n<fuel->owner[(eX mask n (p.i,p.perturb)).1]? = some none->
  ∃m,layClean.free mask owner fuel p.i p.perturb=some (advs mask m p).j/\owner[(advs mask m p).j]? = some none/\∀a,a<m->∃i,owner[(advs mask a p).j]? = some (some i)
 |n,0,p,_,_,_,hf,_=>by lia
 |n,fuel+1,p,hj,hm,hi,hf,hn=>by
  have re:runEnd mask p.i<=mask/\p.i<=runEnd mask p.i:=by unfold runEnd;split<;>lia
  have at_:∀a,a<=p.more->∃o,owner[p.i+a]? = some o:=λa ha=>⟨owner[p.i+a]'(by lia),Xc (by lia)⟩;have gd:∀a o,owner[p.i+a]? = some o->owner.getD (p.i+a) (some 0)=o:=λa o h=>by
   obtain⟨h1,h2⟩:=XO.mp h;simp[aa7,h1,h2]
  unfold layClean.free;cases hq:(WY (runEnd mask p.i+1-p.i)).find? (λk=>(owner.getD (p.i+k) (some 0)).isNone) with
  |some k=>
   obtain⟨h1,as,bs,h2,h3⟩:=List.find?_eq_some_iff_append.mp hq;have hk:k<runEnd mask p.i+1-p.i:=Xv.mp (by rw[h2];simp);have Ll:k<=p.more:=by lia
   obtain⟨o,ho⟩:=at_ k Ll;rw[gd k o ho] at h1;have on:o=none:=by cases o with
    |none=>rfl
    |some x=>cases h1
   subst on;refine⟨k,?_,?_,λa ha=>?_⟩
   ·dsimp only;rw[(nX k Ll).1,hj]
   ·rw[(nX k Ll).1,hj];exact ho
   ·rw[(nX a (by lia)).1,hj];obtain⟨o,ho⟩:=at_ a (by lia);have am:a∈as:=by
     have la:as.length=k:=by
      have e:(WY (runEnd mask p.i+1-p.i))[as.length]? = some k:=by rw[h2,XN (WK _),ab8];rfl
      have lt:as.length<runEnd mask p.i+1-p.i:=by
       have:=(WE.mp e).1;simpa using this
      rw[Yt lt] at e;exact W6 e
     have e:(WY (runEnd mask p.i+1-p.i))[a]? = some a:=Yt (by lia);rw[h2,X5 (by lia)] at e;exact Yg e
    have:=h3 a am;rw[gd a o ho] at this;cases o with
    |none=>simp at this
    |some x=>exact⟨x,ho⟩
  |none=>
   have all:=List.find?_eq_none.mp hq;have Up:∀a,a<=p.more->∃i,owner[p.i+a]? = some (some i):=λa ha=>by
    obtain⟨o,ho⟩:=at_ a ha;have:=all a (Xv.mpr (by lia));rw[gd a o ho] at this;cases o with
    |none=>simp at this
    |some x=>exact⟨x,ho⟩
   cases n with
   |zero=>
    obtain⟨i,h⟩:=Up 0 (Ys _);rw[show eX mask 0 (p.i,p.perturb)=(p.i,p.perturb) from rfl,←ab9 p.i,h] at hn;cases hn
   |succ n=>
    obtain⟨a1,a2,a3,a4,a5⟩:=nX (mask:=mask) p.more (p:=p) (WK _);have e1:advs mask (p.more+1) p={advs mask p.more p with j:=(leap mask p.i p.perturb).1,more:=runEnd mask (leap mask p.i p.perturb).1-(leap mask p.i p.perturb).1,i:=(leap mask p.i p.perturb).1,perturb:=(leap mask p.i p.perturb).2}:=by
     rw[uM];unfold adv;rw[hV (by lia),a3,a4]
    obtain⟨m,g1,g2,g3⟩:=uO hs n fuel (advs mask (p.more+1) p) (by rw[e1]) (by rw[e1]) (by rw[e1];exact Zb (aae _ (Z3 _))) (by lia) (by rw[e1];exact hn);refine⟨p.more+1+m,?_,by rw[ie];exact g2,λa ha=>?_⟩
    ·rw[ie];rw[e1] at g1 ⊢;exact g1
    ·rcases YM a (p.more+1) with z|z
     ·rw[(nX a (by lia)).1,hj];exact Up a (by lia)
     ·have:=g3 (a-(p.more+1)) (by lia);rw[←ie,show p.more+1+(a-(p.more+1))=a by lia] at this;exact this
end Hc.Sx
namespace Hc.Sx
open PySem.SetTable
structure J1 (mask:Nat)(owner:Array (Option Nat))(k:Nat)(Hf:Nat->Int):Prop where
 sz:owner.size=mask+1
 ix:∀(j i:Nat),owner[j]? = some (some i)->i<k
 ex:∀i:Nat,i<k->∃j:Nat,owner[j]? = some (some i)
 un:∀(j j' i:Nat),owner[j]? = some (some i)->owner[j']? = some (some i)->j=j'
 pt:∀(j i:Nat),owner[j]? = some (some i)->∃n,(advs mask n (aaH mask (Hf i))).j=j/\∀m,m<n->∃i':Nat,owner[(advs mask m (aaH mask (Hf i))).j]? = some (some i')
section
variable {owner:Array (Option Nat)}{Hf:Nat->Int}
theorem J1.free (O:J1 mask owner k Hf)(hk:k<=mask):∃y,y<=mask/\owner[y]? = some none:=by
 refine Zo λhn=>?_;have Tc:∀y,y<mask+1->∃i,owner[y]? = some (some i):=λy hy=>by
  have h1:y<owner.size:=by rw[O.sz];exact hy
  cases e:owner[y] with
  |none=>exact absurd ⟨y,by lia,by rw[Xc h1,e]⟩ hn
  |some i=>exact⟨i,by rw[Xc h1,e]⟩
 have g:∀y,∃i,y<mask+1->owner[y]? = some (some i):=λy=>by
  by_cases h:y<mask+1
  ·obtain⟨i,e⟩:=Tc y h;exact⟨i,λ_=>e⟩
  ·exact⟨0,λz=>absurd z h⟩
 let f:=λy=>Classical.choose (g y)
 have hf:∀y,y<mask+1->owner[y]? = some (some (f y)):=λy=>Classical.choose_spec (g y);have:=ZL (l₁:=(WY (mask+1)).map f) (l₂:=WY k) (by
  unfold List.Nodup;rw[Za];refine ZE (λ{a b} ha hb vi e=>?_) abr;have h1:=hf a (Xv.mp ha);have h2:=hf b (Xv.mp hb);rw[e] at h1;exact vi (O.un _ _ _ h1 h2)) (λx hx=>by
  obtain⟨y,hy,rfl⟩:=WN.mp hx;exact Xv.mpr (O.ix y _ (hf y (Xv.mp hy))))
 rw[Ww,Xf,Xf] at this;lia
theorem J1.step (O:J1 mask owner k Hf)(hp:∃p,mask+1=2 ^ p)(hk:k<=mask):∃j,layClean.free mask owner (turns mask) (bits (Hf k) % (mask+1)) (bits (Hf k))=some j/\J1 mask (owner.setIfInBounds j (some k)) (k+1) Hf:=by
 obtain⟨y,hy,ho⟩:=O.free hk;obtain⟨p,hp⟩:=hp;have hi:bits (Hf k) % (mask+1)<=mask:=Zb (aae _ (Z3 _));obtain⟨n,h1,h2⟩:=uL hp (i:=bits (Hf k) % (mask+1)) (q:=bits (Hf k)) hi (Bc _) hy;obtain⟨m,g1,g2,g3⟩:=uO O.sz n (turns mask) (aaH mask (Hf k)) rfl rfl hi (by unfold turns;lia) (by
  show owner[(eX mask n (bits (Hf k) % (mask+1),bits (Hf k))).1]? = _;rw[h2];exact ho)
 refine⟨_,g1,?_⟩;have hj:(advs mask m (aaH mask (Hf k))).j<owner.size:=(XO.mp g2).1;generalize ej:(advs mask m (aaH mask (Hf k))).j=j at *;have gt:∀x,(owner.setIfInBounds j (some k))[x]? = if x=j then some (some k) else owner[x]? := λx=>by
  rw[Array.getElem?_setIfInBounds];by_cases c:j=x
  ·rw[hZ c,hZ c.symm,hZ hj]
  ·rw[hV c,hV (λz=>c z.symm)]
 have Hd:∀x:Nat,(∃i':Nat,owner[x]? = some (some i'))->∃i':Nat,(owner.setIfInBounds j (some k))[x]? = some (some i'):=λx h00=>by
  obtain⟨i',h⟩:=h00;rw[gt];split
  ·exact⟨k,rfl⟩
  ·exact⟨i',h⟩
 refine⟨by rw[Array.size_setIfInBounds];exact O.sz,λx i h=>?_,λi hi=>?_,λx x' i h h'=>?_,λx i h=>?_⟩
 ·rw[gt] at h;split at h
  ·cases h;lia
  ·have:=O.ix x i h;lia
 ·by_cases c:i=k
  ·exact⟨j,by rw[gt,hZ rfl,c]⟩
  ·obtain⟨x,h⟩:=O.ex i (by lia);refine⟨x,?_⟩;rw[gt,hV (λz=>by rw[z,g2] at h;cases h)];exact h
 ·rw[gt] at h h';by_cases c:x=j
  ·by_cases c':x'=j
   ·rw[c,c']
   ·rw[hZ c] at h;rw[hV c'] at h';cases h;have:=O.ix _ _ h';lia
  ·by_cases c':x'=j
   ·rw[hV c] at h;rw[hZ c'] at h';cases h';have:=O.ix _ _ h;lia
   ·rw[hV c] at h;rw[hV c'] at h';exact O.un _ _ _ h h'
 ·rw[gt] at h;split at h
  ·rename_i c;cases h;exact⟨m,by rw[ej,c],λa ha=>Hd _ (g3 a ha)⟩
  ·obtain⟨n,h1,h2⟩:=O.pt x i h;exact⟨n,h1,λa ha=>Hd _ (h2 a ha)⟩
end
noncomputable def IU (mask:Nat)(bq:Option (Array (Option Nat)×Nat))(h:Int):Option (Array (Option Nat)×Nat):=do
  let (owner,k) ←bq
  let j ←layClean.free mask owner (turns mask) (bits h % (mask+1)) (bits h)
  pure (owner.setIfInBounds j (some k),k+1)
theorem Bf {mask:Nat}{Hf:Nat->Int}(hp:∃p,mask+1=2 ^ p):∀(hs:List Int) (k:Nat) (owner:Array (Option Nat)),J1 mask owner k Hf->(∀i,i<hs.length->hs[i]? = some (Hf (k+i)))->k+hs.length<=mask->
  ∃owner',hs.foldl (IU mask) (some (owner,k))=some (owner',k+hs.length)/\J1 mask owner' (k+hs.length) Hf
 | [],k,owner,O,_,_=>⟨owner,rfl,O⟩
 |h::hs,k,owner,O,he,hl=>by
  have e0:h=Hf k:=by have:=he 0 (by simp);simpa using this
  rw[WS] at hl;obtain⟨j,g1,g2⟩:=O.step hp (by lia);obtain⟨owner',f1,f2⟩:=Bf hp hs (k+1) _ g2 (λi hi=>by
   have:=he (i+1) (by rw[WS];lia);rw[X2] at this;rw[this];congr 2;lia) (by lia)
  refine⟨owner',?_,?_⟩
  ·rw[YY,show IU mask (some (owner,k)) h=some (owner.setIfInBounds j (some k),k+1) by unfold IU;rw[e0];simp[g1],f1,WS];congr 2;lia
  ·rw[WS,show k+(hs.length+1)=k+1+hs.length by lia];exact f2
theorem IV (mask:Nat)(Hf:Nat->Int):J1 mask (Array.replicate (mask+1) none) 0 Hf:=by
 have no:∀(j i:Nat),(Array.replicate (mask+1) (none:Option Nat))[j]? ≠ some (some i):=λj i h=>by
  rw[Array.getElem?_replicate] at h;split at h<;>cases h
 exact⟨by simp,λj i h=>absurd h (no j i),λi h=>absurd h (Nat.not_lt_zero _),λj _ i h=>absurd h (no j i),λj i h=>absurd h (no j i)⟩
theorem ja {α β:Type}{f:α->Option β}:∀{l:List α},(∀x∈l,∃y,f x=some y)->∀n:Nat,(l.filterMap f)[n]? = (l[n]?).bind f
 | [],_,n=>by simp
 |x::l,h,n=>by
  obtain⟨y,hy⟩:=h x WM;rw[acv hy];cases n with
  |zero=>simp[hy]
  |succ n=>simpa using ja (λz hz=>h z (WO _ hz)) n
theorem lD {α β:Type}{f:α->Option β}:∀{l:List α},(∀x∈l,∃y,f x=some y)->(l.filterMap f).length=l.length
 | [],_=>rfl
 |x::l,h=>by
  obtain⟨y,hy⟩:=h x WM;rw[acv hy,WS,WS,lD λz hz=>h z (WO _ hz)]
variable {V:Type}
theorem qt {finger moves:Nat}{led plain:Bool}{es:Array (Int×V)}(hp:∃p,mask+1=2 ^ p)(hl:es.size<=mask):∃(t:aaq) (order:Array Nat) (C:Nat->Option (Int×V)),laid mask finger moves led plain (es.map (·.1))=some (t,order)/\
  Bb t (order.filterMap (es[·]?)) C/\J0 mask (aaH mask) C/\(order.filterMap (es[·]?)).size=es.size/\t.mask=mask/\t.finger=finger/\t.moves=moves/\t.led=led/\t.plain=plain/\
  (order.filterMap (es[·]?)).toList.Perm es.toList:=by
 obtain⟨owner,f1,O⟩:=Bf (Hf:=λi=>(es[i]?.map (·.1)).getD 0) hp (es.map (·.1)).toList 0 _ (IV mask _) (λi hi=>by
  have QR:i<es.size:=by simpa using hi
  simp[QR]) (by simpa using hl)
 rw[Zj,WH,Array.size_map] at f1 O;have lc:layClean mask (es.map (·.1))=some owner:=by
  unfold layClean;rw[←Array.foldl_toList];show ((es.map (·.1)).toList.foldl (IU mask) (some (Array.replicate (mask+1) none,0))).map (·.1)=some owner;rw[f1];rfl
 let live:=(WY (mask+1)).filterMap λj=>(owner.getD j none).map (j,·)
 have gd:∀j i,owner.getD j none=some i↔owner[j]? = some (some i):=λj i=>by
  by_cases h:j<owner.size
  ·simp[aa7,h]
  ·simp[aa7,h]
 have ml:∀j i,(j,i)∈live↔owner[j]? = some (some i):=λj i=>by
  show (j,i)∈List.filterMap _ _↔_;rw[ab0];constructor
  ·rintro⟨a,_,h⟩;cases e:owner.getD a none with
   |none=>rw[e] at h;cases h
   |some x=>rw[e] at h;cases h;exact (gd _ _).mp e
  ·intro h;refine⟨j,Xv.mpr ?_,by rw[(gd j i).mpr h];rfl⟩;have:=(XO.mp h).1;rw[O.sz] at this;exact this
 have pw:live.Pairwise (λa b=>a.1<b.1/\a.2≠b.2):=by
  show List.Pairwise _ (List.filterMap _ _);rw[List.pairwise_filterMap];refine List.pairwise_lt_range.imp λ{a b} vi x hx y hy=>?_;cases e:owner.getD a none with
  |none=>rw[e] at hx;cases hx
  |some i=>cases e':owner.getD b none with
   |none=>rw[e'] at hy;cases hy
   |some i'=>
    rw[e] at hx;rw[e'] at hy;cases hx;cases hy;refine⟨vi,λz=>?_⟩;dsimp only at z;subst z;have:=O.un _ _ _ ((gd _ _).mp e) ((gd _ _).mp e');lia
 have Uq:(live.map (·.2)).Perm (WY es.size):=by
  have nd:(live.map (·.2)).Nodup:=by
   unfold List.Nodup;rw[Za];exact pw.imp λh=>h.2
  exact (abW nd abr).mpr λi=>by
   rw[WN,Xv];constructor
   ·rintro⟨⟨j,i'⟩,h,rfl⟩;exact O.ix j i' ((ml j i').mp h)
   ·intro h;obtain⟨j,e⟩:=O.ex i h;exact⟨(j,i),(ml j i).mpr e,rfl⟩
 have len:live.length=es.size:=by
  have:=Uq.length_eq
  rwa [Ww,Xf] at this
 have Vi:∀x∈live,∃y,es[x.2]? = some y:=λx hx=>by
  have:=O.ix x.1 x.2 ((ml x.1 x.2).mp hx);exact⟨es[x.2],Xc this⟩
 have QS:∀x∈live.map (·.2),∃y,es[x]? = some y:=λx hx=>by
  obtain⟨z,hz,rfl⟩:=WN.mp hx;exact Vi z hz
 have Td:((live.map (·.2)).toArray.filterMap (es[·]?)).toList=(live.map (·.2)).filterMap (es[·]?):=by simp
 have Ur:∀n:Nat,((live.map (·.2)).toArray.filterMap (es[·]?))[n]? = (live[n]?).bind λx=>es[x.2]? := λn=>by
  rw[←W4,Td,ja QS,WQ];cases live[n]? <;> rfl
 have Te:∀n:Nat,(live.map (·.1)).toArray[n]? = (live[n]?).map (·.1):=λn=>by
  rw[←W4];simp
 let C:Nat->Option (Int×V):=λj=>(owner.getD j none).bind (es[·]?)
 have hC:∀j e,C j=some e↔∃i,owner[j]? = some (some i)/\es[i]? = some e:=λj e=>by
  show (owner.getD j none).bind _=some e↔_;cases q:owner.getD j none with
  |none=>
   refine⟨λh=>(by cases h),fun⟨i,h,_⟩=>?_⟩;rw[(gd j i).mpr h] at q;cases q
  |some i=>
   constructor
   ·intro h;exact⟨i,(gd j i).mp q,h⟩
   ·rintro⟨i',h,h2⟩;rw[(gd j i').mpr h] at q;cases q;exact h2
 have Hr:((live.map (·.2)).toArray.filterMap (es[·]?)).size=es.size:=by
  rw[←WH,Td,lD QS,Ww,len]
 refine⟨{mask,place:=(live.map (·.1)).toArray,dummies:=#[],finger,led,moves,plain},(live.map (·.2)).toArray,C,?_,⟨?_,?_,rfl,hp,?_,?_,?_⟩,?_,Hr,rfl,rfl,rfl,rfl,rfl,?_⟩
 ·unfold laid;rw[lc];rfl
 ·intro i j hi hj lt;have g:=pw;rw[Zq] at g;have wX:i<live.length:=by simpa using hi
  have Vj:j<live.length:=by simpa using hj
  have:=(g i j wX Vj lt).1;simpa using this
 ·show ((live.map (·.1)).toArray).size=_;rw[Hr];simp[len]
 ·rw[Hr];exact hl
 ·intro i j h;have h:(live.map (·.1)).toArray[i]? = some j:=h;rw[Te] at h;cases e:live[i]? with
  |none=>rw[e] at h;cases h
  |some x=>
   rw[e] at h;cases h;have:=(XO.mp ((ml x.1 x.2).mp (Yg e))).1;rw[O.sz] at this;exact Zb this
 ·intro j e;show C j=some e↔∃i:Nat,(live.map (·.1)).toArray[i]? = some j/\_;rw[hC];constructor
  ·rintro⟨i,h1,h2⟩;obtain⟨n,hn⟩:=List.mem_iff_getElem?.mp ((ml j i).mpr h1);exact⟨n,by rw[Te,hn];rfl,by rw[Ur,hn];exact h2⟩
  ·rintro⟨n,h1,h2⟩;rw[Te] at h1;rw[Ur] at h2;cases q:live[n]? with
   |none=>rw[q] at h1;cases h1
   |some x=>
    rw[q] at h1 h2;cases h1;exact⟨x.2,(ml x.1 x.2).mp (Yg q),h2⟩
 ·intro j e h;obtain⟨i,h1,h2⟩:=(hC j e).mp h;obtain⟨n,g1,g2⟩:=O.pt j i h1;have hf:(es[i]?.map (·.1)).getD 0=e.1:=by rw[h2];rfl
  rw[hf] at g1 g2;refine⟨n,g1,λm hm=>?_⟩;obtain⟨i',h3⟩:=g2 m hm;have:=O.ix _ _ h3;exact⟨es[i'],(hC _ _).mpr ⟨i',h3,Xc this⟩⟩
 ·rw[Td];refine (Uq.filterMap _).trans ?_;have e:(WY es.size).filterMap (es[·]?)=es.toList:=by
   refine ZD λn=>?_;rw[ja (λx hx=>⟨es[x]'(Xv.mp hx),Xc (Xv.mp hx)⟩)];by_cases h:n<es.size
   ·rw[Yt h];simp
   ·rw[Xw.mpr (by simpa using h),Xw.mpr (by simpa using h)];rfl
  rw[e]
end Hc.Sx
namespace Hc.Sx
open PySem.SetTable
theorem xP:∀(fuel size n:Nat),(∃p,size=2 ^ p)->8<=size->(size<=8\/size<=2*n)->n<size*2 ^ fuel->(∃p,sizeAbove.go n fuel size=2 ^ p)/\n<sizeAbove.go n fuel size/\8<=sizeAbove.go n fuel size/\(sizeAbove.go n fuel size<=8\/sizeAbove.go n fuel size<=2*n)
 |0,size,n,hp,h8,hb,hn=>by
  unfold sizeAbove.go;exact⟨hp,by simpa using hn,h8,hb⟩
 |fuel+1,size,n,⟨p,hp⟩,h8,hb,hn=>by
  unfold sizeAbove.go;by_cases c:size<=n
  ·rw[hZ c];exact xP fuel (size*2) n ⟨p+1,by rw[hp,Zk]⟩ (by lia) (.inr (by lia)) (by rw[Zk,Yb (2 ^ fuel) 2,←Ye] at hn;exact hn)
  ·rw[hV c];exact⟨⟨p,hp⟩,by lia,h8,hb⟩
theorem EY (h:n<2 ^ 60):(∃p,sizeAbove n=2 ^ p)/\n<sizeAbove n/\8<=sizeAbove n/\(sizeAbove n<=8\/sizeAbove n<=2*n):=
 xP 64 8 n ⟨3,rfl⟩ (WK _) (.inl (WK _)) (Nat.lt_trans h (by decide))
structure oI {prog:Zx}{w:ZU}{K:Type}[DecidableEq K](knd:aaO prog w K):Prop where
 cls:∀{A:XD} {E:WG->WT->Prop} {s:WT} {k:K} {a:W8} {Q:Bool->WT->Prop},knd.is s.heap k a->Q false s->WX (Xg prog w) A (ofAClassStatement 8 (.ref a)) Q E s
 byv:∀{A:XD} {E:WG->WT->Prop} {s:WT} {k:K} {a:W8} {Q:Bool->WT->Prop},knd.is s.heap k a->Q true s->WX (Xg prog w) A (hashByValue 8 (.ref a)) Q E s
 kept:∀{h h':Zv} {k:K} {a d:W8} {o:Obj} {es:Array (Int×WG)} {ep:Nat} {t:aaq},knd.is h k a->h.get? d=some o->o.data=.set es ep t->Yh d h h'->knd.is h' k a
section
variable {K:Type}[DecidableEq K]{knd:aaO prog w K}
noncomputable def Rb (knd:aaO prog w K)(x:K×W8):Int×WG:=(knd.hash x.1,.ref x.2)
structure HS (knd:aaO prog w K)(h:Zv)(xs:List (K×W8))(es:Array (Int×WG))(t:aaq)(C:Nat->Option (Int×WG)):Prop where
 tab:Bb t es C
 pth:J0 t.mask (aaH t.mask) C
 pl:t.plain=true
 lo:7<=t.mask
 hi:t.mask<=8191
 few:es.size*5<t.mask*3
 per:es.toList.Perm (xs.map (Rb knd))
 keys:∀x∈xs,knd.is h x.1 x.2
 nd:(xs.map (·.1)).Nodup
def lQ (knd:aaO prog w K)(byText:Bool)(h:Zv)(a:W8)(xs:List (K×W8)):Prop:=
 ∃o es ep t C,h.get? a=some o/\o.ExactSet/\o.data=.set es ep t/\HS knd h xs es t C/\(byText=true\/t.led=true)
variable {A:XD}
theorem HS.fits {xs:List (K×W8)}{es:Array (Int×WG)}(S:HS knd h xs es t C):t.fits es.size=true:=by
 unfold SetTable.fits SetTable.fill;rw[S.tab.sz,S.tab.dum];simp;exact S.tab.room
theorem HS.stays {xs:List (K×W8)}{es:Array (Int×WG)}(S:HS knd h xs es t C):t.gaveWay=false:=by
 unfold SetTable.gaveWay;obtain⟨p,hp⟩:=S.tab.pow;have:=S.lo;cases p with
 |zero=>simp at hp;lia
 |succ p=>rw[Zk] at hp;simp;lia
theorem HS.entry {xs:List (K×W8)}{es:Array (Int×WG)}(S:HS knd h xs es t C){e:Int×WG}(he:e∈es.toList):∃k b,(k,b)∈xs/\e=(knd.hash k,.ref b)/\knd.is h k b:=by
 obtain⟨⟨k,b⟩,hx,rfl⟩:=WN.mp (S.per.mem_iff.mp he);exact⟨k,b,hx,rfl,S.keys _ hx⟩
theorem HS.at {xs:List (K×W8)}{es:Array (Int×WG)}(S:HS knd h xs es t C){e:Int×WG}(hc:C j=some e):∃k b,(k,b)∈xs/\e=(knd.hash k,.ref b)/\knd.is h k b:=by
 obtain⟨i,_,h2⟩:=(S.tab.con j e).mp hc;exact S.entry (by have:=Array.mem_of_getElem? h2;simpa using this)
theorem HS.has {xs:List (K×W8)}{es:Array (Int×WG)}(S:HS knd h xs es t C){k:K}(hx:(k,b)∈xs):∃j,C j=some (knd.hash k,.ref b):=by
 have:Rb knd (k,b)∈es.toList:=S.per.mem_iff.mpr (WN.mpr ⟨_,hx,rfl⟩);obtain⟨i,hi⟩:=List.mem_iff_getElem?.mp this;rw[W4] at hi;have h2:i<t.place.size:=by rw[S.tab.sz];exact (XO.mp hi).1
 exact⟨t.place[i],(S.tab.con _ _).mpr ⟨i,Xc h2,hi⟩⟩
theorem CP (sk:oI knd){k:K}(hk:knd.is s.heap k b){Q:Bool->WT->Prop}(l:List WG)(hl:∀y∈l,∃k' b',y=.ref b'/\knd.is s.heap k' b')(h:Q false s):WX (Xg prog w) A (searchCouldBeSeen (.ref b) l) Q E s:=by
 unfold searchCouldBeSeen;refine Wv ?_;refine wpAny_forIn_list _ (λrest r s'=>r.1=none/\s'=s/\∀y∈rest,∃k' b',y=.ref b'/\knd.is s.heap k' b') _ ?_ ?_ _ _ ⟨rfl,rfl,hl⟩
 ·rintro y rest r s' ⟨hr,rfl,hy⟩;obtain⟨k',b',rfl,Ll⟩:=hy y WM;have next:∀z∈rest,∃k' b',z=Value.ref b'/\knd.is s'.heap k' b':=λz hz=>hy z (WO _ hz)
  dsimp only;split
  ·exact Wy ⟨rfl,rfl,next⟩
  ·refine Wv (knd.quiet hk ?_);simp only[aac,Xm,if_false];refine Wv (knd.quiet Ll ?_);simp only[aac,Xm,if_false];refine Wv (sk.cls hk ?_);simp only[Xm,if_false];refine Wv (sk.cls Ll ?_);simp only[Xm,if_false];exact Wy ⟨rfl,rfl,next⟩
 ·rintro⟨r1,r2⟩ s' ⟨hr,rfl,_⟩;simp only at hr;subst hr;exact Wy h
end
end Hc.Sx
namespace Hc.Sx
open PySem.SetTable
section
variable {K:Type}[DecidableEq K]{knd:aaO prog w K}{A:XD}
variable {o:Obj}{es:Array (Int×WG)}{xs:List (K×W8)}{k:K}
noncomputable abbrev Bg (t:aaq)(h:Int)(n:Nat):Nat:=(advs t.mask n (aaH t.mask h)).j
theorem oJ (sk:oI knd)(hr:knd.room A)(hk:knd.is s.heap k b)(ho:s.heap.get? a=some o)(hd:o.data=.set es ep t)(S:HS knd s.heap xs es t C){Q:SetFound->WT->Prop}{N:Nat}(hN:C (Bg t (knd.hash k) N)=none)
  (wY:k∈xs.map (·.1)->Q (.there none) s)
  (tj:k∉xs.map (·.1)->∀n,(∀m,m<n->∃e,C (Bg t (knd.hash k) m)=some e)->C (Bg t (knd.hash k) n)=none->Q (.free (Bg t (knd.hash k) n) false) s) :
  ∀(fuel n:Nat) (stand:Option Probe),stand.getD (t.probeStart (knd.hash k))=advs t.mask n (aaH t.mask (knd.hash k))->N<n+fuel->(∀m,m<n->∃k' b',C (Bg t (knd.hash k) m)=some (knd.hash k',.ref b')/\(k',b')∈xs/\k'≠k)->
   WX (Xg prog w) A (setSearchFrom a (.ref b) (knd.hash k) true fuel stand) Q E s
 |0,n,stand,hs,hf,hb=>by
  obtain⟨k',b',e,_⟩:=hb N (by lia);rw[e] at hN;cases hN
 |fuel+1,n,stand,hs,hf,hb=>by
  unfold setSearchFrom;refine Wv (X7 ho hd S.fits ?_);dsimp only;rw[S.stays];simp only[Xm,if_false];obtain⟨m',g1,g2⟩:=zJ S.tab (hashAt:=λi=>(es[i]?.map (·.1)).getD 0) (λi e h=>by show (es[i]?.map (·.1)).getD 0=e.1;rw[h];rfl) (knd.hash k) (kA.advs n (kA.start t (knd.hash k)));have pa:∀x,(advs t.mask x (advs t.mask n (t.probeStart (knd.hash k)))).j=Bg t (knd.hash k) (n+x):=λx=>by rw[←ie];rfl
  have RA:∀m,m<n+m'->∃k' b',C (Bg t (knd.hash k) m)=some (knd.hash k',.ref b')/\(k',b')∈xs/\k'≠k:=λm hm=>by
   rcases YM m n with z|z
   ·exact hb m z
   ·obtain⟨e,h1,h2⟩:=g1 (m-n) (by lia);rw[pa,show n+(m-n)=m by lia] at h1;obtain⟨k',b',hx,rfl,_⟩:=S.at h1;exact⟨k',b',h1,hx,λz=>h2 (by rw[z])⟩
  have pe:t.probe (λi=>(es[i]?.map (·.1)).getD 0) (knd.hash k) (stand.getD (t.probeStart (knd.hash k)))=t.probe (λi=>(es[i]?.map (·.1)).getD 0) (knd.hash k) (advs t.mask n (t.probeStart (knd.hash k))):=by rw[hs];rfl
  rcases g2 with⟨c1,c2⟩|⟨e,i,c1,c2,c3,c4,c5⟩
  ·
   have Tf:=pe.trans c2;rw[pa] at c1 Tf;have nx:k∉xs.map (·.1):=λhm=>by
    obtain⟨⟨k0,b0⟩,hx,rfl⟩:=WN.mp hm;obtain⟨j,hj⟩:=S.has hx;obtain⟨m,hm,hmj⟩:=S.pth.met c1 hj rfl;obtain⟨k',b',h1,h2,h3⟩:=RA m hm;have h1:C j=some (knd.hash k',.ref b'):=by rw[←hmj];exact h1
    rw[hj] at h1;have eb:b0=b':=by
     have:=(Prod.mk.inj (W6 h1)).2;injection this
    subst eb;exact h3 (knd.inj (S.keys _ h2) (S.keys _ hx))
   have fin:=tj nx (n+m') (λm hm=>let ⟨k',b',h1,_⟩:=RA m hm;⟨_,h1⟩) c1;split
   ·rename_i met hq;have e:=(hq.symm.trans Tf);cases e;exact Wy fin
   ·rename_i hq;exact absurd Tf (by intro z;exact hq _ z)
  ·
   have NN:=pe.trans c5;rw[pa] at c1 c4 NN;rw[←ie] at NN;obtain⟨k',b',hx,rfl,Ll⟩:=S.at c1;have lN:n+m'<N:=by
    rcases aa8 N (n+m') with z|z|z
    ·obtain⟨_,_,e,_⟩:=RA N z;rw[e] at hN;cases hN
    ·rw[z,c1] at hN;cases hN
    ·exact z
   have body:∀R:Sem SetFound,R=(do
     let some (_,y):=es[i]? | aaw "internal:set-entry"
     let equal ←holding [y] (eqBool y (.ref b))
     let (He,_,t') ←setState a
     if true&&equal then return .there none
     let some same:=t'.sameMemory t.moves t.mask|aaw "set.changed-during-lookup:is-the-new-block-at-the-old-address"
     let Ce ←match (if same then t'.slot (Bg t (knd.hash k) (n+m')) else .empty) with
      | .live i'=>match He[i']? with
       |some (_,y')=>do pure (if ←isSame y' y then some i' else none)
       |none=>pure none
      |_=>pure none
     match Ce with
     |none=>rule "set.search.anew";setSearchFrom a (.ref b) (knd.hash k) true fuel none
     |some i'=>if equal then return .there (some i') else setSearchFrom a (.ref b) (knd.hash k) true fuel (some (advs t.mask (n+(m'+1)) (t.probeStart (knd.hash k)))))->WX (Xg prog w) A R Q E s:=λR hR=>by
    subst hR;rw[c3];dsimp only;refine Wv (X0 (knd.eqBool hr Ll hk ?_));refine Wv (X7 ho hd S.fits ?_);dsimp only;by_cases q:k'=k
    ·rw[hG q];simp only[Bool.and_self,if_true];subst q;exact Wy (wY (WN.mpr ⟨_,hx,rfl⟩))
    ·rw[hJ q];simp only[abd,Xm,if_false];have sm:t.sameMemory t.moves t.mask=some true:=by unfold SetTable.sameMemory;simp
     rw[sm];dsimp only;obtain⟨i2,l1,l2,l3⟩:=S.tab.live c1;rw[l1];simp only[if_true];rw[l2];dsimp only;refine Wv (wpAny_isSame_ref_self ?_);simp only[if_true];refine Wv (Wy ?_);dsimp only;refine oJ sk hr hk ho hd S hN wY tj fuel (n+(m'+1)) _ rfl (by lia) λm hm=>?_;rcases YM m (n+m') with z|z
     ·exact RA m z
     ·have:m=n+m':=by lia
      subst this;exact⟨k',b',c1,hx,q⟩
   split
   ·rename_i met hq;have e:=(hq.symm.trans NN);cases e;dsimp only;split
    ·refine Wv (CP sk hk _ (λy hy=>?_) ?_)
     ·obtain⟨e,he,rfl⟩:=WN.mp hy;have he:e∈es.toList:=by
       have:e∈(es.filter λx=>x.1==knd.hash k):=by simpa using he
       have:=(Array.mem_filter.mp this).1;simpa using this
      obtain⟨k2,b2,_,rfl,h2⟩:=S.entry he;exact⟨k2,b2,rfl,h2⟩
     ·simp only[Xm,if_false];exact body _ rfl
    ·exact body _ rfl
   ·rename_i hq;exact absurd NN (by intro z;exact hq _ z)
theorem CQ (sk:oI knd)(hr:knd.room A)(hk:knd.is s.heap k b)(ho:s.heap.get? a=some o)(hd:o.data=.set es ep t)(S:HS knd s.heap xs es t C){Q:SetFound->WT->Prop}
  (wY:k∈xs.map (·.1)->Q (.there none) s)
  (tj:k∉xs.map (·.1)->∀n,(∀m,m<n->∃e,C (Bg t (knd.hash k) m)=some e)->C (Bg t (knd.hash k) n)=none->Q (.free (Bg t (knd.hash k) n) false) s) :
  WX (Xg prog w) A (setSearch a (.ref b) (knd.hash k) true) Q E s:=by
 obtain⟨y,hy,hc⟩:=S.tab.free;obtain⟨p,hp⟩:=S.tab.pow;obtain⟨N,h1,h2⟩:=uN hp (kA.start t (knd.hash k)) hy;unfold setSearch;refine oJ sk hr hk ho hd S (N:=N) (by show C (advs t.mask N (t.probeStart (knd.hash k))).j=none;rw[h2];exact hc) wY tj 100000 0 none rfl ?_ λm hm=>by lia
 have:=S.hi;unfold turns at h1;lia
end
end Hc.Sx
namespace Hc.Sx
open PySem.SetTable
theorem lE {α:Type}(xs:Array α)(p:Nat)(x:α):(insertAt xs p x).toList.Perm (xs.toList++[x]):=by
 rw[i_];have h:(x::xs.toList.drop p).Perm (xs.toList.drop p++[x]):=(List.perm_append_singleton x _).symm;refine (XY _ h).trans ?_;rw[←W9,Xs]
section
variable {K:Type}[DecidableEq K]{knd:aaO prog w K}{A:XD}
variable {o:Obj}{es:Array (Int×WG)}{xs:List (K×W8)}{k:K}{byText:Bool}
noncomputable def lF (xs:List (K×W8))(k:K)(b:W8):List (K×W8):=if k∈xs.map (·.1) then xs else xs++[(k,b)]
theorem stored (ho:h.get? a=some o)(hd:o.data=.set es ep t)(He:Array (Int×WG))(t':aaq) :
  (h.update a (acw He t')).get? a=some {o with data:=.set He (ep+1) t'}:=by
 have:=YW (acw He t') ho (by rw[putSet_of He t' hd];rfl);rw[putSet_of He t' hd] at this;exact this
theorem EZ {h:Zv}(sk:oI knd)(ho:s.heap.get? a=some o)(Hn:o.ExactSet)(hd:o.data=.set es ep t)(tab:Bb t es C)(pl:t.plain=true)(per:es.toList.Perm (xs.map (Rb knd)))(keys:∀x∈xs,knd.is s.heap x.1 x.2)(nd:(xs.map (·.1)).Nodup)(led:byText=true\/t.led=true)(hn:es.size=n)(Wg:1<=n)(Us:n<=2047){Q:Unit->WT->Prop}(q:∀h',Yh a s.heap h'->lQ knd byText h' a xs->Q () {s with heap:=h'}) :
  WX (Xg prog w) A (setRelay a (grown n)) Q E s:=by
 have hw:grown n=n*4:=by unfold grown;rw[hV (by lia)]
 have ab:=EY (n:=grown n) (by rw[hw];exact ZW (show n*4<=8192 by lia) (by decide));have sz:WC=16777216:=rfl;generalize eS:sizeAbove (grown n)=sA at ab;obtain⟨⟨p,hp⟩,a1,a2,a3⟩:=ab;have m1:sA-1+1=2 ^ p:=by lia
 have m8:sA<=8192:=by
  have Wh:p<14:=by
   refine Zo λz=>?_;have Wi:(2:Nat) ^ 14<=2 ^ p:=Nat.pow_le_pow_right (by decide) (by lia);rw[hw] at a3;lia
  have Wj:(2:Nat) ^ p<=2 ^ 13:=Nat.pow_le_pow_right (by decide) (by lia);lia
 have Vk:t.fits es.size=true:=by
  unfold SetTable.fits SetTable.fill;rw[tab.sz,tab.dum];simp;exact tab.room
 obtain⟨t',order,C',h1,T',P',hsz,e1,e2,e3,e4,e5,hall⟩:=qt (mask:=sA-1) (finger:=t.finger) (moves:=t.movedTo (sA-1)) (led:=t.led) (plain:=t.plain) (es:=es) ⟨p,m1⟩ (by rw[hw] at a1;lia);unfold setRelay;refine Wv (X7 ho hd Vk ?_);dsimp only;rw[eS,hV (by rw[hw] at a3;lia)];have hr:t.relaid (es.map (·.1)) (grown n)=some (t',order):=by unfold SetTable.relaid;rw[eS];exact h1
 have Hr:(order.filterMap (es[·]?)).size<=WC:=by rw[hsz,hn];lia
 have Lj:¬(((order.filterMap (es[·]?)).size != es.size)=true):=by rw[hsz];simp
 refine Wv (aax (a:=(order.filterMap (es[·]?),t')) (by rw[hr];exact hV Lj) ?_);refine wpAny_storeSet_of ho hd ?_ Hr;have NO:=X3 s.heap a (acw (order.filterMap (es[·]?)) t');refine q _ NO ⟨_,_,_,t',C',stored ho hd _ _,Hn,rfl,⟨T',by rw[e1];exact P',by rw[e5];exact pl,by rw[e1];lia,by rw[e1];rw[hw] at a3;lia,by rw[hsz,e1,hn];rw[hw] at a1;lia,?_,λx hx=>sk.kept (keys x hx) ho hd NO,nd⟩,led.imp id λz=>by rw[e4];exact z⟩;exact hall.trans per
end
end Hc.Sx
namespace Hc.Sx
open PySem.SetTable
section
variable {K:Type}[DecidableEq K]{knd:aaO prog w K}{A:XD}
variable {xs:List (K×W8)}{k:K}{byText:Bool}
theorem zK (b:W8)(es:Array (Int×WG)):byScan (.ref b) es=false:=by unfold byScan Value.scannable;simp
theorem MB (sk:oI knd)(hr:knd.room A)(hk:knd.is s.heap k b)(hS:lQ knd byText s.heap a xs)(hl:xs.length+1<=2047){Q:Bool->WT->Prop}
  (q:∀h' r,Yh a s.heap h'->lQ knd byText h' a (lF xs k b)->Q r {s with heap:=h'}):WX (Xg prog w) A (setAddHashed a (.ref b) (knd.hash k)) Q E s:=by
 obtain⟨o,es,ep,t,C,ho,Hn,hd,S,led⟩:=hS;have Wl:es.size=xs.length:=by have:=S.per.length_eq;simpa using this
 unfold setAddHashed setAddHashedIn;refine X0 (Wv (X7 ho hd S.fits ?_));dsimp only;rw[zK];simp only[Xm,if_false];refine Wv (CQ sk hr hk ho hd S (λwW=>?_) λQT n hb hc=>?_)
 ·dsimp only;refine Wy ?_;have e:s={s with heap:=s.heap}:=by cases s;rfl
  rw[e];exact q s.heap false (Heap.SameBut.refl a s.heap) (by unfold lF;rw[hZ wW];exact⟨o,es,ep,t,C,ho,Hn,hd,S,led⟩)
 ·dsimp only;refine Wv (X7 ho hd S.fits ?_);dsimp only;have few:=S.few;have lo:=S.lo;have jm:Bg t (knd.hash k) n<=t.mask:=by
   obtain⟨p,hp⟩:=S.tab.pow;have:∀n,(advs t.mask n (aaH t.mask (knd.hash k))).j+(advs t.mask n (aaH t.mask (knd.hash k))).more<=t.mask:=by
    intro n
    induction n with
    |zero=>
     show bits (knd.hash k) % (t.mask+1)+(runEnd t.mask (bits (knd.hash k) % (t.mask+1))-bits (knd.hash k) % (t.mask+1))<=t.mask;have:bits (knd.hash k) % (t.mask+1)<t.mask+1:=aae _ (Z3 _);unfold runEnd;split<;>lia
    |succ n ih=>
     rw[uM];unfold adv;split
     ·dsimp only;lia
     ·dsimp only;have:(leap t.mask (advs t.mask n (aaH t.mask (knd.hash k))).i (advs t.mask n (aaH t.mask (knd.hash k))).perturb).1<t.mask+1:=aae _ (Z3 _);unfold runEnd;split<;>lia
   have:=this n;show (advs t.mask n (aaH t.mask (knd.hash k))).j<=t.mask;lia
  obtain⟨T1,p1,p2,p3,p4,p5⟩:=S.tab.put (e:=(knd.hash k,Value.ref b)) jm hc (by lia);have P1:=J0.up S.pth (e:=(knd.hash k,Value.ref b)) hb hc;generalize et:(t.put (Bg t (knd.hash k) n)).1=t1 at *;generalize ei:(t.put (Bg t (knd.hash k) n)).2=ip at *;have Hr:(insertAt es ip (knd.hash k,Value.ref b)).size=es.size+1:=by
   have:=(lE es ip (knd.hash k,Value.ref b)).length_eq;simpa using this
  rw[hZ (by rw[p2];exact S.pl)];refine Wv (sk.byv hk ?_);simp only[if_true];have sl:WC=16777216:=rfl;refine Wv (wpAny_storeSet_of ho hd ?_ (by rw[Hr];lia));have NO:=X3 s.heap a (acw (insertAt es ip (knd.hash k,Value.ref b)) t1);have Ut:=stored ho hd (insertAt es ip (knd.hash k,Value.ref b)) t1;have Uu:lF xs k b=xs++[(k,b)]:=by unfold lF;rw[hV QT]
  have QU:(insertAt es ip (knd.hash k,Value.ref b)).toList.Perm ((xs++[(k,b)]).map (Rb knd)):=by
   rw[WR];exact (lE _ _ _).trans (X9 _ S.per)
  have Lm:∀x∈xs++[(k,b)],knd.is (s.heap.update a (acw (insertAt es ip (knd.hash k,Value.ref b)) t1)) x.1 x.2:=λx hx=>by
   rcases Xa.mp hx with z|z
   ·exact sk.kept (S.keys x z) ho hd NO
   ·rw[W0.mp z];exact sk.kept hk ho hd NO
  have Uv:((xs++[(k,b)]).map (·.1)).Nodup:=by
   rw[WR,aad];exact⟨S.nd,by simp,λx hx y hy e=>by
    simp at hy;subst e hy;exact QT hx⟩
  have QV:byText=true\/t1.led=true:=led.imp id λz=>by rw[p3];exact z
  have QW:t1.fill=es.size+1:=by
   unfold SetTable.fill;rw[T1.sz,T1.dum,Hr];rfl
  cases tf:t1.tooFull with
  |false=>
   simp only[acf,abd,Xm,if_false];refine Wy (q _ true NO ?_);rw[Uu];refine⟨_,_,_,t1,_,Ut,Hn,rfl,⟨T1,by rw[p1];exact P1,by rw[p2];exact S.pl,by rw[p1];exact lo,by rw[p1];exact S.hi,?_,QU,Lm,Uv⟩,QV⟩;unfold SetTable.tooFull at tf;rw[QW] at tf;rw[Hr];simpa using tf
  |true=>
   simp only[acf,Bool.and_self,if_true];refine Wv (EZ (h:=s.heap) (s:={s with heap:=s.heap.update a (acw (insertAt es ip (knd.hash k,Value.ref b)) t1)}) sk Ut Hn rfl T1 (by rw[p2];exact S.pl) QU Lm Uv QV Hr (by lia) (by lia) λh' Tg H'=>?_);refine Wy (q h' true (NO.trans Tg) ?_);rw[Uu];exact H'
theorem E1 {led:Bool}(hl:byText=true\/led=true)(hg:h.get? a=some {cls:=.type "set",dict:=none,data:=.set #[] 0 (.fresh 0 0 led)}):lQ knd byText h a []:=by
 refine⟨_,#[],0,.fresh 0 0 led,λ_=>none,hg,⟨rfl,rfl,rfl⟩,rfl,⟨⟨λi j hi=>absurd hi (Nat.not_lt_zero _),rfl,rfl,⟨3,rfl⟩,Ys _,λi j h=>?_,λj e=>⟨λh=>(by cases h),fun⟨i,h,_⟩=>?_⟩⟩,λj e h=>(by cases h),rfl,WK _,(show (7:Nat)<=8191 by decide),(show 0*5<7*3 by decide),Yd _,λx hx=>(by cases hx),Y9⟩,hl⟩
 ·have h:(#[]:Array Nat)[i]? = some j:=h;simp at h
 ·have h:(#[]:Array Nat)[i]? = some j:=h;simp at h
end
end Hc.Sx
namespace Hc.Sx
open PySem.SetTable
section
variable {K:Type}[DecidableEq K]{knd:aaO prog w K}{A:XD}
variable {xs:List (K×W8)}{k:K}{byText:Bool}
theorem lQ.keep (H:lQ knd byText h a xs)(e:∀o,h.get? a=some o->h'.get? a=some o)(hk:∀x∈xs,knd.is h' x.1 x.2):lQ knd byText h' a xs:=by
 obtain⟨o,es,ep,t,C,ho,Hn,hd,S,led⟩:=H;exact⟨o,es,ep,t,C,e o ho,Hn,hd,⟨S.tab,S.pth,S.pl,S.lo,S.hi,S.few,S.per,hk,S.nd⟩,led⟩
theorem lQ.setAt (H:lQ knd byText h a xs):∃o es ep t,h.get? a=some o/\o.data=.set es ep t:=by
 obtain⟨o,es,ep,t,C,ho,Hn,hd,S,led⟩:=H;exact⟨o,es,ep,t,ho,hd⟩
noncomputable def dN (val:Nat->K×W8):Nat->List (K×W8)
 |0=>[]
 |i+1=>lF (dN val i) (val i).1 (val i).2
theorem xQ (val:Nat->K×W8){i:Nat}:∀{n:Nat},i<=n->(dN val i).length<=(dN val n).length
 |0,h=>by rw[Nat.le_zero.mp h];exact WK _
 |n+1,h=>by
  by_cases e:i=n+1
  ·rw[e];exact WK _
  ·refine XG (xQ val (n:=n) (by lia)) ?_;show (dN val n).length<=(lF _ _ _).length;unfold lF;split
   ·exact WK _
   ·rw[WI];lia
theorem kW (val:Nat->K×W8):∀(i:Nat) (x:K×W8),x∈dN val i->∃j,j<i/\x=val j
 |0,x,h=>by cases h
 |i+1,x,h=>by
  unfold dN lF at h;split at h
  ·obtain⟨j,h1,h2⟩:=kW val i x h;exact⟨j,by lia,h2⟩
  ·rcases Xa.mp h with z|z
   ·obtain⟨j,h1,h2⟩:=kW val i x z;exact⟨j,by lia,h2⟩
   ·exact⟨i,by lia,W0.mp z⟩
variable {R:Result->WT->Prop}{I:W8}{wr:List W8}{G:Array GenState->Array GenState->Prop}{P:Nat->WG->Prop}{St:Nat->WT->Prop}
theorem CS (sk:oI knd)(hr:knd.room A.in1)(W:WalksS prog w A.in1 I fp wr G n P St)(S:W8)(Uw:S∉fp)(val:Nat->K×W8)(Th:∀i v,P i v->v=.ref (val i).2)(hn:(dN val n).length+1<=2047)
  (mv:∀i (s s':WT),i<=n->St i s->Moved wr G s s'->(∀j,j<n->knd.is s.heap (val j).1 (val j).2)->∀j,j<n->knd.is s'.heap (val j).1 (val j).2) :
  ∀(d i:Nat) (s:WT),n-i=d->i<=n->St i s->(∀j,j<n->knd.is s.heap (val j).1 (val j).2)->lQ knd byText s.heap S (dN val i)->
   (∀s',Moved (S::wr) G s s'->(∀j,j<n->knd.is s'.heap (val j).1 (val j).2)->lQ knd byText s'.heap S (dN val n)->R (.ok (.ret .none)) s')->
   codeAny (Xg prog w) A (.builtin "set.update.loop" ⟨[.ref S,.ref I],[]⟩) R s:=by
 have nS:S∉wr:=λh=>Uw (W.sub _ h);have up:∀b∈wr,b∈S::wr:=λb hb=>WO _ hb;have Ce:∀i (s s':WT),i<=n->St i s->Moved wr G s s'->(∀j,j<n->knd.is s.heap (val j).1 (val j).2)->lQ knd byText s.heap S (dN val i)->lQ knd byText s'.heap S (dN val i):=λi s s' hi st m hk H=>
  H.keep (λo e=>m.heap S o nS e) λx hx=>by
   obtain⟨j,h1,rfl⟩:=kW val i x hx;exact mv i s s' hi st m hk j (by lia)
 intro d
 induction d with
 |zero=>
  intro i s hd hi st hk H q;obtain rfl:i=n:=by lia
  refine Ze F.entry_set_update_loop ?_;rw[YG aaQ _];show WX _ A.in1 (aaB (Value.ref I) >>= _) _ _ s;refine Wv (W.done s _ _ st λs' m=>?_);exact Wy (q s' (m.mono up) (mv i s s' hi st m hk) (Ce i s s' hi st m hk H))
 |succ d ih=>
  intro i s hd hi st hk H q;have lt:i<n:=by lia
  refine Ze F.entry_set_update_loop ?_;rw[YG aaQ _];show WX _ A.in1 (aaB (Value.ref I) >>= _) _ _ s;refine Wv (W.item i s _ _ lt st λv s1 hP Ay m=>?_);obtain rfl:=Th i v hP;have H1:=Ce i s s1 hi st m hk H;have DH:=mv i s s1 hi st m hk;show WX _ A.in1 (holding [Value.ref (val i).2] (setAdd S (Value.ref (val i).2)) >>= _) _ _ s1;refine Wv (X0 ?_);unfold setAdd;refine X0 (Wv (knd.pyHash hr (DH i lt) ?_));refine MB (s:={s1 with toks:=s1.toks+knd.draws (val i).1}) sk hr (DH i lt) H1 (by have:=xQ val hi;lia) λh' r sb H2=>?_;obtain⟨oS,eS,epS,tS,gS,dS⟩:=H1.setAt;have RB:∀j,j<n->knd.is h' (val j).1 (val j).2:=λj hj=>sk.kept (DH j hj) gS dS sb;refine Wy ⟨plainId_quiet aaQ _,ih (i+1) _ (by lia) lt (W.frame _ s1 _ _ Ay (Yq _ _) λb hb o e=>?_) RB H2 λs2 m2 Vl H3=>?_⟩
  ·rw[sb.2 b (λz:b=S=>Uw (by rw[←z];exact hb))];exact e
  ·refine q s2 (Moved.trans W.gtrans ((m.mono up).then_heap (Yq _ _) λb o hb e=>?_) m2) Vl H3;rw[sb.2 b (λz:b=S=>hb (by rw[z];exact WM))];exact e
end
end Hc.Sx
namespace Hc.Sx
open PySem.SetTable
noncomputable abbrev y4 (w:ZU):Bool:=w.params.followText "set-order"
noncomputable abbrev pN (w:ZU):Obj:={cls:=.type "set",dict:=none,data:=.set #[] 0 (.fresh 0 0 (!y4 w))}
section
variable {A:XD}
theorem E2 (x:WG)(q:Q (.ref s.heap.objs.size) {s with heap:=s.heap.push (pN w)}):codeAny (Xg prog w) A (.call (.builtin "set.__new__") ⟨[.type "set",x],[]⟩) (wants Q E) s:=by
 refine codeAny_of_tree ?_;show WX _ A.in1 (do checkBuiltinCall "set.__new__" ⟨[Value.type "set",x],[]⟩;again (.builtin "set.__new__" ⟨[Value.type "set",x],[]⟩)) _ _ s;refine Wv (aax (PySem.F.newCall_set_1 x) (Wy ⟨plainId_quiet PySem.F.plain_set_new _,Ze PySem.F.entry_set_new ?_⟩));rw[YG PySem.F.plain_set_new _];unfold Builtin.«set.__new__» Builtin.Frozenset.newClass;have sb:=sub_set_self;obtain⟨hp,g,d,tk,os⟩:=s;dsimp only;wp_walk;refine Y2 (Wy ?_);dsimp only;simp only[newObj];exact Wv (wpAny_alloc (Wy (Wy q)))
theorem E3 {t:W8}(R:WT->Prop)(fill:WX (Xg prog w) A.in1.in1 (Builtin.«set.__init__» ⟨[.ref s.heap.objs.size,.ref t],[]⟩) (λfin s'=>∃r,fin=.done (.ret r)/\r=.none/\R s') E {s with heap:=s.heap.push (pN w)})(q:∀s',R s'->Q (.ref s.heap.objs.size) s'):WX (Xg prog w) A (call (.type "set") [.ref t]) Q E s:=by
 obtain⟨c0,tl0,mro0⟩:=PySem.F.called_set.mro;have Wm:=PySem.F.called_set.made;have Wn:=PySem.F.called_set.sub;have Wo:=PySem.F.called_set.notType;have Wq:=PySem.F.called_set.canCreate;have Wr:=PySem.F.typeCall_set_1 (Value.ref t);refine wpAny_call (codeAny_of_tree ?_);show WX _ _ (callAny (Value.type "set") _) _ _ _;refine Wy ⟨Code.quiet_builtin _ (by decide+kernel),Ze PySem.F.entry_type_call ?_⟩;rw[Around.under_plain (weight_type_call_type "set" [Value.ref t] []) rfl]
 repeat (any_goals first|assumption|wp_step)
 refine abi (E2 (Value.ref t) (E:=E) (Q:=λx s1=>x=.ref s.heap.objs.size/\s1={s with heap:=s.heap.push (pN w)}) ⟨rfl,rfl⟩) λr s1 hr=>?_;cases r with
 |error e=>exact hr
 |ok fl=>
  cases fl with
  |ret ob=>
   obtain⟨rfl,rfl⟩:=hr;have gS:(s.heap.push (pN w)).get? s.heap.objs.size=some (pN w):=WL _ rfl;have tS:Shared.TypeIs {s with heap:=s.heap.push (pN w)} (.ref s.heap.objs.size) "set":=⟨_,gS,rfl⟩;have il:=PySem.F.called_set.init.lookup;have ib:=PySem.F.called_set.init.bind (Value.ref s.heap.objs.size)
   repeat (any_goals first|assumption|wp_step)
   refine abi (codeAny_call_builtin (R:=wants (λr s2=>r=.none/\R s2) E) PySem.F.called_set.init.plain PySem.F.entry_set_init (check_set_init_1 tS ?_)) λr2 s2 fj=>?_
   ·exact XQ fill (λfin s' ⟨r,e,h1,h2⟩=>by subst e;exact⟨h1,h2⟩) (λe s' h=>h)
   ·cases r2 with
    |error e=>exact fj
    |ok f2=>
     cases f2 with
     |ret r=>
      obtain⟨rfl,h2⟩:=fj
      repeat (any_goals first|assumption|wp_step)
      exact q _ h2
     |_=>exact fj.elim
  |_=>exact hr.elim
variable {K:Type}[DecidableEq K]{knd:aaO prog w K}
theorem xR {l:W8}{au:Array WG}(sk:oI knd)(mono:∀{h h':Zv} {k:K} {a:W8},knd.is h k a->(∀b au,h.IsTuple b au->h'.IsTuple b au)->knd.is h' k a)(hr:knd.room A.in1.in1.in1)(hh:A.handled=none)(hl:s.heap.IsList l au)(val:Nat->K×W8)(hv:∀(i:Nat) (v:WG),au[i]? = some v->v=.ref (val i).2)(hk:∀j,j<au.size->knd.is s.heap (val j).1 (val j).2)(hb:(dN val au.size).length+1<=2047)(q:∀(h':Zv) (tk:Nat),lQ knd (y4 w) h' s.heap.objs.size (dN val au.size)->(∀b o,s.heap.get? b=some o->h'.get? b=some o)->Q (.ref s.heap.objs.size) {s with heap:=h',toks:=tk}) :
  WX (Xg prog w) A (call (.type "set") [.ref l]) Q E s:=by
 refine E3 (λs'=>∃h' tk,s'={s with heap:=h',toks:=tk}/\lQ knd (y4 w) h' s.heap.objs.size (dN val au.size)/\∀b o,s.heap.get? b=some o->h'.get? b=some o) ?_ λs' ⟨h',tk,e,h1,h2⟩=>by subst e;exact q h' tk h1 h2
 obtain⟨ot,gt,ct,nt,dt⟩:=hl;obtain⟨oc,od,oda,os⟩:=ot;simp only at ct dt;subst ct;subst dt;have Vm:(s.heap.push (pN w)).get? l=some {cls:=.type "list",dict:=od,data:=.seq au nt,slots:=os}:=Wz _ gt;have gS:(s.heap.push (pN w)).get? s.heap.objs.size=some (pN w):=WL _ rfl;have n1:=PySem.F.sub_list_set;have n2:=PySem.F.sub_list_frozenset;have n3:(Value.type "list"==Value.type "dict")=false:=by decide
 have Ux:(s.heap.push (pN w)).IsList l au:=⟨_,Vm,rfl,nt,rfl⟩;unfold Builtin.«set.__init__» noKeywords Builtin.Frozenset.updateFrom;generalize ePI:pyIter=PI;wp_walk;subst ePI;refine aco Ux ?_;refine Wv (wpAny_runValue ?_);have lt:l<s.heap.objs.size:=WU gt;have h3:A.in1.in1.in1.handled=none:=by simp[hh]
 have Vn:l≠(s.heap.push (pN w)).objs.size:=by rw[YU];exact Xj (aab lt)
 have ni:s.heap.objs.size∉[(s.heap.push (pN w)).objs.size,l]:=by
  rw[YU];simp only[WZ,abt,or_false,not_or];exact⟨Xj (Nat.lt_succ_self _),ZK lt⟩
 have Uy:∀(h:Zv) (o:Obj) b au,h.IsTuple b au->(h.push o).IsTuple b au:=λh o b au x=>x.push o;refine CS (byText:=y4 w) sk hr ((Walks.list h3 _ l Vn au).toS) s.heap.objs.size ni val hv hb (λi u u' _ st m ks j hj=>?_) (au.size-0) 0 _ (by lia) (Ys _) ⟨⟨_,WL _ rfl,rfl,rfl⟩,Ux.push _⟩ (λj hj=>mono (hk j hj) λb i2 x=>Uy _ _ _ _ (Uy _ _ _ _ x)) ?z0 ?zR
 ·refine mono (ks j hj) λb i2 ⟨o,e,c,n,d⟩=>⟨o,m.heap b o (λhm=>?_) e,c,n,d⟩;rw[W0] at hm;subst hm;obtain⟨o2,e2,c2,_⟩:=st.1;rw[e] at e2;cases e2;rw[c] at c2;exact absurd c2 (by decide)
 case z0=>exact E1 (by cases y4 w<;>simp) (Wz _ gS)
 case zR=>
  intro s' hm _ NJ;obtain⟨h',g',d',Ta,o'⟩:=s';have eg:g'=s.gens:=hm.gens;have ed:d'=s.drawn:=hm.drawn;have Vo:o'=s.os:=hm.os;subst eg;subst ed;subst Vo;show WX _ _ _ _ _ _;refine Wy ?_;show WX _ _ (ret Value.none) _ _ _;refine Wy ⟨_,rfl,rfl,h',Ta,rfl,NJ,λb o e=>?_⟩;have Uz:=WU e;refine hm.heap b o ?_ (Wz _ (Wz _ e));rw[YU];simp only[WZ,abt,or_false,not_or];exact⟨Xj Uz,Xj (aab Uz)⟩
end
end Hc.Sx
namespace L2
section
variable {e:YV}{p_ p1:Pos}{b1:Bool}{ga:Ev->R (List U×Ev)}
theorem MC:XM "set"=some (.type "set"):=by decide+kernel
end
@[irreducible] noncomputable def MD (X:Cx)(G:Gm)(es:List YV)(b p:Bool)(g:Ev->R (List U×Ev)):Prop:=DA X G es b p g
section
variable {e:YV}{es:List YV}{b1 b2 p:Bool}{m1:Md}{g1:Ev->R (U×Ev)}{ga:Ev->R (List U×Ev)}
theorem V8 (h:MD X G es b1 p ga):DA X G es b1 p ga:=by unfold MD at h;exact h
theorem Rc:MD X G [] false p ak:=by unfold MD;exact ag
theorem Pj (ha:DE X G e b1 m1 g1)(hr:MD X G es b2 p ga)(hm:m1=.P->(p=true/\b2=false):=by first|exact λ_=>⟨rfl,rfl⟩|exact λh=>nomatch h)
  (hs:W7 (e::es) X.env=(false,aaj e X.env)::W7 es X.env:=by rfl):MD X G (e::es) (b1||b2) p (ae g1 ga):=by
 unfold MD at hr ⊢;exact aa ha hr hm hs
end
end L2
namespace Hc.Zp
def iO (l:Bool)(h:Zv)(a:W8)(xs:Array WG):Prop:=if l=true then h.IsList a xs else h.IsTuple a xs
def fB (l:Bool)(h:Zv)(it a:W8)(i:Nat):Prop:=if l=true then h.IsListIter it a i else h.IsTupleIter it a i
noncomputable def CT (l:Bool):String:=if l=true then "list_iterator" else "tuple_iterator"
theorem iO.at {l:Bool}{xs:Array WG}(x:iO l h a xs)(e:∀o,h.get? a=some o->h'.get? a=some o):iO l h' a xs:=by
 cases l with
 |true=>exact Heap.IsList.at x e
 |false=>exact Heap.IsTuple.at x e
theorem fB.at {l:Bool}(x:fB l h it a i)(e:∀o,h.get? it=some o->h'.get? it=some o):fB l h' it a i:=by
 cases l with
 |true=>exact Heap.IsListIter.at x e
 |false=>exact Heap.IsTupleIter.at x e
theorem fB.obj {l:Bool}(x:fB l h it a i):∃o,h.get? it=some o/\o.data=.fields #[.ref a,.int i 0]/\o.cls=.type (CT l):=by
 cases l with
 |true=>obtain⟨o,e,c,d⟩:=x;exact⟨o,e,d,c⟩
 |false=>obtain⟨o,e,c,d⟩:=x;exact⟨o,e,d,c⟩
section
variable {A:XD}
theorem zL {xs:Array WG}{x:WG}(hi:s.heap.IsTupleIter it a i)(ha:s.heap.IsTuple a xs)(hx:xs[i]? = some x)(q:∀h',h'.IsTupleIter it a (i+1)->Yh it s.heap h'->Q x {s with heap:=h'}):WX (Xg prog w) A (XC (.ref it)) Q E s:=by
 obtain⟨o,ho,hc,hd⟩:=id hi;obtain⟨oa,hoa,_,na,hda⟩:=ha;unfold XC;refine Wv (Xy (name:=Yw "__next__") hi.typeIs Zi (Xn Zi hi.typeIs abK ?_ (abB _)));show WX _ _ (field (Value.ref it) 0 >>= _) _ _ s;refine Wv (X8 ho hd (x:=.ref a) rfl ?_);show WX _ _ (if (Value.ref a==Value.none)=true then _ else _) _ _ s;rw[hV (show ¬((Value.ref a==Value.none)=true) from WA)];show WX _ _ (field (Value.ref it) 1 >>= _) _ _ s;refine Wv (X8 ho hd (x:=.int i 0) rfl ?_);show WX _ _ (seqItems? (Value.ref a) >>= _) _ _ s;refine Wv (Y8 hoa hda ?_);simp only[Xk,hx];refine Wv (Zr ho hd (by simp) (Wy ⟨x,rfl,Wy (q _ ⟨_,YW _ ho (Z4 (YD hd _)),(aa9 ..).trans hc,?_⟩ (X3 ..))⟩));rw[YD hd];simp[abh]
theorem CU {xs:Array WG}(hh:A.handled=none)(hi:s.heap.IsTupleIter it a i)(ha:s.heap.IsTuple a xs)(hx:xs[i]? = none)(q:∀h' e,Heap.ExtBut it s.heap h'->(∃o,h'.get? e=some o/\o.cls=.type "StopIteration")->E (.ref e) {s with heap:=h'}):WX (Xg prog w) A (XC (.ref it)) Q E s:=by
 obtain⟨o,ho,hc,hd⟩:=id hi;obtain⟨oa,hoa,_,na,hda⟩:=ha;unfold XC;refine Wv (Xy (name:=Yw "__next__") hi.typeIs Zi (Xn Zi hi.typeIs abK ?_ (abB _)));show WX _ _ (field (Value.ref it) 0 >>= _) _ _ s;refine Wv (X8 ho hd (x:=.ref a) rfl ?_);show WX _ _ (if (Value.ref a==Value.none)=true then _ else _) _ _ s;rw[hV (show ¬((Value.ref a==Value.none)=true) from WA)];show WX _ _ (field (Value.ref it) 1 >>= _) _ _ s;refine Wv (X8 ho hd (x:=.int i 0) rfl ?_);show WX _ _ (seqItems? (Value.ref a) >>= _) _ _ s;refine Wv (Y8 hoa hda ?_);simp only[Xk,hx];refine Wv (Zz (Wv (Zr ho hd (by simp) ?_)));show WX _ _ (newExc (Value.type "StopIteration") [] >>= _) _ _ _;refine Wv ?_;simp only[newExc,newTuple];refine Wv (Xi ?_ (by size_fits));refine Wv (m:=Zs _ _) (aax (a:=Value.none) (by first|rfl|(simp only[Zs];rfl)) ?_);refine Xi ?_ (by size_fits);simp only[raiseNew];refine Wv (wpAny_handled ?_)
 first|rw[show A.in1.handled=none from hh]|rw[hh]
 exact Wv (Wy (wpAny_throw (q _ _ (((X3 ..).extBut.push _).push _) ⟨_,WL _ rfl,rfl⟩)))
theorem nY {l:Bool}{xs:Array WG}{x:WG}(hi:fB l s.heap it a i)(ha:iO l s.heap a xs)(hx:xs[i]? = some x)(q:∀h',fB l h' it a (i+1)->Yh it s.heap h'->Q x {s with heap:=h'}):WX (Xg prog w) A (XC (.ref it)) Q E s:=by
 cases l with
 |true=>exact wpAny_nextOf_list_item hi ha hx q
 |false=>exact zL hi ha hx q
theorem xS {l:Bool}{xs:Array WG}(hh:A.handled=none)(hi:fB l s.heap it a i)(ha:iO l s.heap a xs)(hx:xs[i]? = none)(q:∀h' e,Heap.ExtBut it s.heap h'->(∃o,h'.get? e=some o/\o.cls=.type "StopIteration")->E (.ref e) {s with heap:=h'}):WX (Xg prog w) A (XC (.ref it)) Q E s:=by
 cases l with
 |true=>exact wpAny_nextOf_list_end hh hi ha hx q
 |false=>exact CU hh hi ha hx q
theorem Bh {l:Bool}{xs:Array WG}(ha:iO l s.heap a xs)(q:Q (.ref s.heap.objs.size) {s with heap:=s.heap.push {cls:=.type (CT l),data:=.fields #[.ref a,.int 0 0]}}):WX (Xg prog w) A (pyIter (.ref a)) Q E s:=by
 cases l with
 |true=>exact aco ha q
 |false=>exact wpAny_pyIter_tuple ha q
theorem CV {TI TO:W8}{xs:Array WG}{x y p:WG}(D:ZipApart z TI TO i1 i2 a1 a2)(hz:IsZip s.heap z TI TO .none)(NP:aah s.heap TI (.ref i1) (.ref i2))(NQ:aah s.heap TO p q)(h1:fB l1 s.heap i1 a1 k)(h2:fB l2 s.heap i2 a2 k)(g1:iO l1 s.heap a1 xs)(g2:iO l2 s.heap a2 ys)(hx:xs[k]? = some x)(hy:ys[k]? = some y)(hQ:∀h',IsZip h' z TI TO (abh s.heap.objs.size)->aah h' TO x y->fB l1 h' i1 a1 (k+1)->fB l2 h' i2 a2 (k+1)->aah h' s.heap.objs.size x y->(∀c o,c≠z->c≠TO->c≠i1->c≠i2->s.heap.get? c=some o->h'.get? c=some o)->Q (.ref s.heap.objs.size) {s with heap:=h'}) :
  WX (Xg prog w) A (Builtin.«zip.__next__» ⟨[.ref z],[]⟩) (λfin s'=>∃v,fin=.done (.ret v)/\Q v s') E s:=by
 show WX _ _ (field (Value.ref z) 2 >>= _) _ _ _;refine Wv (X8 hz rfl (x:=.bool false) rfl ?_);show WX _ _ (field (Value.ref z) 3 >>= _) _ _ _;refine Wv (X8 hz rfl (x:=.ref TI) rfl (Wv (Y8 NP rfl ?_)));show WX _ _ (Yu (Value.ref z) >>= _) _ _ _;refine Wv ?_;unfold Yu;refine Wv (X8 hz rfl (x:=.none) rfl (Wy ?_));simp only[if_true];refine Wv (Zz (Wv (X8 hz rfl (x:=.ref TO) rfl (Wv (XW hz (by simp) λw1 z1 b1=>?_)))))
 replace z1:IsZip w1 z TI TO .ellipsis:=z1
 refine Wv ?_;simp only[List.zipIdx_cons,List.zipIdx_nil,Z1,List.forIn_nil];refine Wv (Wv (wpAny_onRaise ?_));show WX _ _ (XC (Value.ref i1) >>= _) _ _ _;refine Wv (nY (h1.at λo e=>b1.extBut _ _ D.i1z e) (g1.at λo e=>b1.extBut _ _ D.l1z e) hx λw2 n2 b2=>Wy ?_);have t2:aah w2 TO p q:=b2.extBut _ _ D.TOi1 (b1.extBut _ _ D.TOz NQ);refine Wv (Y8 t2 rfl (Wv (abw t2 λw3 t3 b3=>?_)))
 replace t3:aah w3 TO x q:=t3
 refine Wv (wpAny_letGo (Wy ?_));refine Wv (Wv (wpAny_onRaise ?_));show WX _ _ (XC (Value.ref i2) >>= _) _ _ _;refine Wv (nY (h2.at λo e=>b3.extBut _ _ D.TOi2.symm (b2.extBut _ _ D.i12.symm (b1.extBut _ _ D.i2z e))) (g2.at λo e=>b3.extBut _ _ D.l2TO (b2.extBut _ _ D.l2i1 (b1.extBut _ _ D.l2z e))) hy λw4 n4 b4=>Wy ?_);have t4:aah w4 TO x q:=b4.extBut _ _ D.TOi2 t3;refine Wv (Y8 t4 rfl (Wv (abw t4 λw5 t5 b5=>?_)))
 replace t5:aah w5 TO x y:=t5
 refine Wv (wpAny_letGo (Wy (Wy ?_)));refine Wv (Y8 t5 rfl (Wv (wpAny_newTuple ?_)));have sz:w5.objs.size=s.heap.objs.size:=by rw[b5.1,b4.1,b3.1,b2.1,b1.1]
 have z5:IsZip w5 z TI TO .ellipsis:=b5.extBut _ _ D.TOz.symm (b4.extBut _ _ D.i2z.symm (b3.extBut _ _ D.TOz.symm (b2.extBut _ _ D.i1z.symm z1)));have kp:∀c o,c≠z->c≠TO->c≠i1->c≠i2->s.heap.get? c=some o->w5.get? c=some o:=λc o c1 c2 c3 c4 e=>b5.extBut _ _ c2 (b4.extBut _ _ c4 (b3.extBut _ _ c2 (b2.extBut _ _ c3 (b1.extBut _ _ c1 e))));have n5:fB l1 w5 i1 a1 (k+1):=n2.at λo e=>b5.extBut _ _ D.TOi1.symm (b4.extBut _ _ D.i12 (b3.extBut _ _ D.TOi1.symm e));have m5:fB l2 w5 i2 a2 (k+1):=n4.at λo e=>b5.extBut _ _ D.TOi2.symm e;have lz:z<w5.objs.size:=WU z5;show WX _ _ (aao (Value.ref z) (Value.ref w5.objs.size) >>= _) _ _ _;refine Wv ?_;unfold aao;have z6:IsZip (w5.push {cls:=.type "tuple",data:=.seq #[x,y]}) z TI TO .ellipsis:=Wz _ z5;refine Wv (XW z6 (by simp) λw7 z7 b7=>?_)
 replace z7:IsZip w7 z TI TO (abh w5.objs.size):=z7
 refine XW z7 (by simp) λw8 z8 b8=>?_
 replace z8:IsZip w8 z TI TO (abh w5.objs.size):=z8
 have up:∀c o,c≠z->w5.get? c=some o->w8.get? c=some o:=λc o c1 e=>b8.extBut _ _ c1 (b7.extBut _ _ c1 (Wz _ e));have t8:aah w8 w5.objs.size x y:=b8.extBut _ _ (ZK lz) (b7.extBut _ _ (ZK lz) (WL _ rfl));rw[sz] at z8 t8;refine Wy ⟨_,rfl,?_⟩;show Q (.ref w5.objs.size) _;rw[sz];exact hQ w8 z8 (up _ _ D.TOz t5) (n5.at λo e=>up _ o D.i1z e) (m5.at λo e=>up _ o D.i2z e) t8 λc o c1 c2 c3 c4 e=>up c o c1 (kp c o c1 c2 c3 c4 e)
theorem E4 {TI TO:W8}{xs:Array WG}{p:WG}{Q:Fin->WT->Prop}(hh:A.handled=none)(D:ZipApart z TI TO i1 i2 a1 a2)(hz:IsZip s.heap z TI TO .none)(NP:aah s.heap TI (.ref i1) (.ref i2))(NQ:aah s.heap TO p q)(h1:fB l1 s.heap i1 a1 k)(h2:fB l2 s.heap i2 a2 k)(g1:iO l1 s.heap a1 xs)(g2:iO l2 s.heap a2 ys)(NR:xs[k]? = none\/ys[k]? = none)(hE:∀h' e,(∀c o,c≠z->c≠TO->c≠i1->c≠i2->s.heap.get? c=some o->h'.get? c=some o)->(∃o,h'.get? e=some o/\o.cls=.type "StopIteration")->E (.ref e) {s with heap:=h'}) :
  WX (Xg prog w) A (Builtin.«zip.__next__» ⟨[.ref z],[]⟩) Q E s:=by
 show WX _ _ (field (Value.ref z) 2 >>= _) _ _ _;refine Wv (X8 hz rfl (x:=.bool false) rfl ?_);show WX _ _ (field (Value.ref z) 3 >>= _) _ _ _;refine Wv (X8 hz rfl (x:=.ref TI) rfl (Wv (Y8 NP rfl ?_)));show WX _ _ (Yu (Value.ref z) >>= _) _ _ _;refine Wv ?_;unfold Yu;refine Wv (X8 hz rfl (x:=.none) rfl (Wy ?_));simp only[if_true];refine Wv (Zz (Wv (X8 hz rfl (x:=.ref TO) rfl (Wv (XW hz (by simp) λw1 z1 b1=>?_)))))
 replace z1:IsZip w1 z TI TO .ellipsis:=z1
 refine Wv ?_;simp only[List.zipIdx_cons,List.zipIdx_nil,Z1,List.forIn_nil];refine Wv (Wv (wpAny_onRaise ?_));show WX _ _ (XC (Value.ref i1) >>= _) _ _ _;cases hx:xs[k]? with
 |none=>
  refine Wv (xS hh (h1.at λo e=>b1.extBut _ _ D.i1z e) (g1.at λo e=>b1.extBut _ _ D.l1z e) hx λw2 e b2 he=>?_);obtain⟨oe,hoe,hce⟩:=he;have z2:IsZip w2 z TI TO .ellipsis:=b2 _ _ D.i1z.symm z1;have nz:e≠z:=λx=>by subst x;rw[z2] at hoe;cases hoe;simp at hce
  exact XW z2 (by simp) λw3 _ b3=>hE w3 e (λc o c1 _ c3 _ x=>b3.extBut _ _ c1 (b2 _ _ c3 (b1.extBut _ _ c1 x))) ⟨oe,b3.extBut _ _ nz hoe,hce⟩
 |some x=>
  have hy:ys[k]? = none:=by rcases NR with h|h;rw[hx] at h;cases h;exact h
  refine Wv (nY (h1.at λo e=>b1.extBut _ _ D.i1z e) (g1.at λo e=>b1.extBut _ _ D.l1z e) hx λw2 n2 b2=>Wy ?_);have t2:aah w2 TO p q:=b2.extBut _ _ D.TOi1 (b1.extBut _ _ D.TOz NQ);refine Wv (Y8 t2 rfl (Wv (abw t2 λw3 t3 b3=>?_)));refine Wv (wpAny_letGo (Wy ?_));refine Wv (Wv (wpAny_onRaise ?_));show WX _ _ (XC (Value.ref i2) >>= _) _ _ _;refine Wv (xS hh (h2.at λo e=>b3.extBut _ _ D.TOi2.symm (b2.extBut _ _ D.i12.symm (b1.extBut _ _ D.i2z e))) (g2.at λo e=>b3.extBut _ _ D.l2TO (b2.extBut _ _ D.l2i1 (b1.extBut _ _ D.l2z e))) hy λw4 e b4 he=>?_);obtain⟨oe,hoe,hce⟩:=he;have z4:IsZip w4 z TI TO .ellipsis:=b4 _ _ D.i2z.symm (b3.extBut _ _ D.TOz.symm (b2.extBut _ _ D.i1z.symm z1));have nz:e≠z:=λx=>by subst x;rw[z4] at hoe;cases hoe;simp at hce
  exact XW z4 (by simp) λw5 _ b5=>hE w5 e (λc o c1 c2 c3 c4 x=>b5.extBut _ _ c1 (b4 _ _ c4 (b3.extBut _ _ c2 (b2.extBut _ _ c3 (b1.extBut _ _ c1 x))))) ⟨oe,b5.extBut _ _ nz hoe,hce⟩
theorem CW {TI TO:W8}{xs:Array WG}{x y p:WG}{Q:Option WG->WT->Prop}(D:ZipApart z TI TO i1 i2 a1 a2)(hz:IsZip s.heap z TI TO .none)(NP:aah s.heap TI (.ref i1) (.ref i2))(NQ:aah s.heap TO p q)(h1:fB l1 s.heap i1 a1 k)(h2:fB l2 s.heap i2 a2 k)(g1:iO l1 s.heap a1 xs)(g2:iO l2 s.heap a2 ys)(hx:xs[k]? = some x)(hy:ys[k]? = some y)(hQ:∀h',IsZip h' z TI TO (abh s.heap.objs.size)->aah h' TO x y->fB l1 h' i1 a1 (k+1)->fB l2 h' i2 a2 (k+1)->aah h' s.heap.objs.size x y->(∀c o,c≠z->c≠TO->c≠i1->c≠i2->s.heap.get? c=some o->h'.get? c=some o)->Q (some (.ref s.heap.objs.size)) {s with heap:=h'}) :
  WX (Xg prog w) A (aaB (.ref z)) Q E s:=by
 have hT:s.TypeIs (.ref z) "zip":=⟨_,hz,rfl⟩;unfold aaB;exact Wv (Zl (Xy (name:=Yw "__next__") hT abL (Xn abL hT F.entry_zip_next (CV D hz NP NQ h1 h2 g1 g2 hx hy λh' c1 c2 c3 c4 c5 c6=>Wy (hQ h' c1 c2 c3 c4 c5 c6)) (F.args_zip_next_1 _))))
theorem CY {TI TO:W8}{xs:Array WG}{p:WG}{Q:Option WG->WT->Prop}(hh:A.handled=none)(D:ZipApart z TI TO i1 i2 a1 a2)(hz:IsZip s.heap z TI TO .none)(NP:aah s.heap TI (.ref i1) (.ref i2))(NQ:aah s.heap TO p q)(h1:fB l1 s.heap i1 a1 k)(h2:fB l2 s.heap i2 a2 k)(g1:iO l1 s.heap a1 xs)(g2:iO l2 s.heap a2 ys)(NR:xs[k]? = none\/ys[k]? = none)(hQ:∀h',(∀c o,c≠z->c≠TO->c≠i1->c≠i2->s.heap.get? c=some o->h'.get? c=some o)->Q none {s with heap:=h'}):WX (Xg prog w) A (aaB (.ref z)) Q E s:=by
 have hT:s.TypeIs (.ref z) "zip":=⟨_,hz,rfl⟩;unfold aaB;refine Wv (Zl (Xy (name:=Yw "__next__") hT abL (Xn abL hT F.entry_zip_next (E4 hh D hz NP NQ h1 h2 g1 g2 NR λh' e hk ⟨o,ho,hc⟩=>?_) (F.args_zip_next_1 _))));exact Wv (ZP (T:="StopIteration") (b:=true) ⟨o,ho,hc⟩ acg (Wy (hQ _ hk)))
end
noncomputable abbrev Rf (l1:Bool)(h:Zv)(a1:W8):Zv:=h.push {cls:=.type (CT l1),data:=.fields #[.ref a1,.int 0 0]}
noncomputable abbrev Rg (l1 l2:Bool)(h:Zv)(a1 a2:W8):Zv:=(Rf l1 h a1).push {cls:=.type (CT l2),data:=.fields #[.ref a2,.int 0 0]}
noncomputable abbrev Rh (l1 l2:Bool)(h:Zv)(a1 a2:W8):Zv:=(Rg l1 l2 h a1 a2).push {cls:=.type "tuple",data:=.seq #[.ref h.objs.size,.ref (Rf l1 h a1).objs.size]}
noncomputable abbrev Ri (l1 l2:Bool)(h:Zv)(a1 a2:W8):Zv:=(Rh l1 l2 h a1 a2).push {cls:=.type "tuple",data:=.seq #[.none,.none]}
noncomputable abbrev N2 (l1 l2:Bool)(h:Zv)(a1 a2:W8):Zv:=(Ri l1 l2 h a1 a2).push {cls:=.type "zip",data:=.fields #[.none,.bool false,.bool false,.ref (Rg l1 l2 h a1 a2).objs.size,.ref (Rh l1 l2 h a1 a2).objs.size]}
theorem E5 (l1 l2:Bool)(a1 a2:W8)(xs ys:Array WG):Meets (Builtin.«zip.__new__» ⟨[.type "zip",.ref a1,.ref a2],[]⟩) (λ_ R s=>iO l1 s.heap a1 xs/\iO l2 s.heap a2 ys/\R (.ok (.ret (.ref (Ri l1 l2 s.heap a1 a2).objs.size))) {s with heap:=N2 l1 l2 s.heap a1 a2}):=
 .of_wp λprog w A R s h=>by
  obtain⟨hp,g,d,tk,os⟩:=s;obtain⟨g1,g2,h⟩:=h;have sb:=sub_zip;have q1:iO l1 (Shared.heap ⟨hp,g,d,tk,os⟩) a1 xs:=g1;have q2:iO l2 (Shared.heap ⟨hp.push {cls:=.type (CT l1),data:=.fields #[.ref a1,.int 0 0]},g,d,tk,os⟩) a2 ys:=g2.at λo e=>Wz _ e;wp_walk using Bh q1,Bh q2;exact⟨_,rfl,h⟩
section
variable {A:XD}
theorem CZ {xs:Array WG}(g1:iO l1 s.heap a1 xs)(g2:iO l2 s.heap a2 ys)(h:∀h',IsZip h' (s.heap.objs.size+4) (s.heap.objs.size+2) (s.heap.objs.size+3) .none->aah h' (s.heap.objs.size+2) (.ref s.heap.objs.size) (.ref (s.heap.objs.size+1))->aah h' (s.heap.objs.size+3) .none .none->
   fB l1 h' s.heap.objs.size a1 0->fB l2 h' (s.heap.objs.size+1) a2 0->(∀c o,s.heap.get? c=some o->h'.get? c=some o)->Q (.ref (s.heap.objs.size+4)) {s with heap:=h'}):WX (Xg prog w) A (call (.type "zip") [.ref a1,.ref a2]) Q E s:=by
 refine callType_new F.called_zip (by decide) (F.typeCall_zip_2 _ _) (F.newCall_zip_2 _ _) (λobj=>F.args_object_init_3 obj _ _) F.entry_zip_new (E5 l1 l2 a1 a2 xs ys) ⟨g1,g2,?_⟩;have z1:(Rf l1 s.heap a1).objs.size=s.heap.objs.size+1:=YU ..;have z2:(Rg l1 l2 s.heap a1 a2).objs.size=s.heap.objs.size+2:=by rw[YU,z1]
 have z3:(Rh l1 l2 s.heap a1 a2).objs.size=s.heap.objs.size+3:=by rw[YU,z2]
 have z4:(Ri l1 l2 s.heap a1 a2).objs.size=s.heap.objs.size+4:=by rw[YU,z3]
 have e5:(N2 l1 l2 s.heap a1 a2).get? (Ri l1 l2 s.heap a1 a2).objs.size=some _:=WL _ rfl;have e4:(N2 l1 l2 s.heap a1 a2).get? (Rh l1 l2 s.heap a1 a2).objs.size=some _:=Wz _ (WL _ rfl);have e3:(N2 l1 l2 s.heap a1 a2).get? (Rg l1 l2 s.heap a1 a2).objs.size=some _:=Wz _ (Wz _ (WL _ rfl));have e2:(N2 l1 l2 s.heap a1 a2).get? (Rf l1 s.heap a1).objs.size=some _:=Wz _ (Wz _ (Wz _ (WL _ rfl)));have e1:(N2 l1 l2 s.heap a1 a2).get? s.heap.objs.size=some _:=Wz _ (Wz _ (Wz _ (Wz _ (WL _ rfl))));show _/\_;rw[z2,z3,z4] at e5;rw[z1,z2] at e3;rw[z3] at e4;rw[z1] at e2;rw[z4];have mk:∀(l:Bool) (hp:Zv) (it a:W8) (_:hp.get? it=some {cls:=.type (CT l),data:=.fields #[.ref a,.int 0 0]}),fB l hp it a 0:=λl hp it a e=>by
  cases l with
  |true=>exact⟨_,e,rfl,rfl⟩
  |false=>exact⟨_,e,rfl,rfl⟩
 exact⟨⟨_,e5,rfl⟩,h _ e5 e3 e4 (mk l1 _ _ _ e1) (mk l2 _ _ _ e2) λc o x=>Wz _ (Wz _ (Wz _ (Wz _ (Wz _ x))))⟩
end
end Hc.Zp
namespace L2
open Hc.Zp
section
variable {T:W8}{o:HO}
theorem az.turnNew {t':Nat}(I:az X pins σ H s)(hf:∀b∈fp,pH X pins H b)(k:∀b o,b∉fp->s.heap.get? b=some o->h'.get? b=some o)(hT:s.heap.objs.size<=T)(new:bO X.prog X.w (cD H T o) h' T o) :
  az X pins σ (cD H T o) {s with heap:=h',toks:=t'}:=by
 have hn:H T=none:=I.hok.fresh hT;have nf:∀b u,H b=some u->b∉fp:=λb u e z=>by rw[(hf b z).1] at e;cases e
 have nT:∀b u,H b=some u->b≠T:=λb u e z=>by rw[z,hn] at e;cases e
 refine I.step (g':=s.gens) (d':=s.drawn) (ch:=fp) (λb hb=>?_) (λb o _ _ hc e _=>k b o hc e) (λb o _ _ hc e _=>⟨o.slots,k b o hc e⟩) (λb o _ e n=>?_) (λb o hc e=>⟨o,k b o hc e⟩)
  (λb xs e=>?_) (λb o u e=>?_) (λb ps e=>⟨#[],?_⟩) (λm hm=>?_) (λb u e=>?_) I.bare
 ·obtain⟨f0,f1,f2,f3,f4,f5⟩:=hf b hb;exact⟨f3,f1,f4,f5⟩
 ·rw[aS (Xj (Xx (WU e) hT))];exact n
 ·rw[aS (nT b _ e)];exact e
 ·rw[aS (nT b _ e)];exact e
 ·rw[aS (nT b _ e),e];simp
 ·obtain⟨o,es,ep,ho,r⟩:=hm;exact⟨o,es,ep,k _ o (λz=>(hf _ z).2.1 rfl) ho,r⟩
 ·by_cases c:b=T
  ·subst c;rw[bg] at e;cases e;exact new
  ·rw[aS c] at e;refine (I.hok b u e).stay (λc v hc q=>k c v ?_ q) (λc q=>by rw[aS (nT c _ q)];exact q) λc xs q=>by rw[aS (nT c _ q)];exact q
   rcases hc with z|z
   ·rw[z];exact nf b u e
   ·exact nf c _ z
theorem az.turneds {t':Nat}(I:az X pins σ H s)(hf:∀b∈fp,pH X pins H b)(k:∀b o,b∉fp->s.heap.get? b=some o->h'.get? b=some o):az X pins σ H {s with heap:=h',toks:=t'}:=by
 have nf:∀b u,H b=some u->b∉fp:=λb u e z=>by rw[(hf b z).1] at e;cases e
 refine I.step (g':=s.gens) (d':=s.drawn) (ch:=fp) (λb hb=>?_) (λb o _ _ hc e _=>k b o hc e) (λb o _ _ hc e _=>⟨o.slots,k b o hc e⟩) (λb o _ e n=>n) (λb o hc e=>⟨o,k b o hc e⟩)
  (λb xs e=>e) (λb o u e=>e) (λb ps e=>⟨#[],by rw[e];simp⟩) (λm hm=>?_) (λb u e=>?_) I.bare
 ·obtain⟨f0,f1,f2,f3,f4,f5⟩:=hf b hb;exact⟨f3,f1,f4,f5⟩
 ·obtain⟨o,es,ep,ho,r⟩:=hm;exact⟨o,es,ep,k _ o (λz=>(hf _ z).2.1 rfl) ho,r⟩
 ·refine (I.hok b u e).stay (λc v hc q=>k c v ?_ q) (λ_ q=>q) λ_ _ q=>q;rcases hc with z|z
  ·rw[z];exact nf b u e
  ·exact nf c _ z
def C0 (l:Bool)(K:WD)(H:Hp)(a:W8)(xs:List V):Prop:=if l=true then gc K H a xs else gU K H a xs
theorem az.sq {l:Bool}(I:az X pins σ H s)(q:C0 l X.K H a xs):∃au,aW xs au/\iO l s.heap a au.toArray:=by
 cases l with
 |true=>obtain⟨au,rv,p,_⟩:=I.list q;exact⟨au,rv,p.isList⟩
 |false=>obtain⟨au,rv,p,_⟩:=I.tuple q;exact⟨au,rv,p⟩
theorem az.sq_inj {l:Bool}{ys:List V}(I:az X pins σ H s)(q:C0 l X.K H a xs)(q':C0 l X.K H a ys):xs=ys:=by
 cases l with
 |true=>exact I.list_inj q q'
 |false=>exact I.tuple_inj q q'
end
noncomputable def TJ (K:WD)(l1 l2:Bool)(a1 a2:W8):It:=
  ⟨λi H=>∃xs ys x y,C0 l1 K H a1 xs/\C0 l2 K H a2 ys/\xs[i]? = some x/\ys[i]? = some y,
   λi H v H'=>∃T x y,v=.ref T/\H T=none/\H'=cD H T (.tup [x,y])/\(∀xs,C0 l1 K H a1 xs->xs[i]? = some x)/\(∀ys,C0 l2 K H a2 ys->ys[i]? = some y),
   λi H=>∃xs ys,C0 l1 K H a1 xs/\C0 l2 K H a2 ys/\(xs.length<=i\/ys.length<=i)⟩
theorem E6 {TI TO:W8}(D:ZipApart z TI TO i1 i2 a1 a2) :
  y8 P w K (.Tuple elts kt tp) (TJ K l1 l2 a1 a2) [z,TI,TO,i1,i2] z (λi h=>IsZip h z TI TO .none/\aah h TI (.ref i1) (.ref i2)/\(∃p q,aah h TO p q)/\fB l1 h i1 a1 i/\fB l2 h i2 a2 i) where
 mem:=by simp
 obj:=λi h ⟨hz,hI,⟨p,q,hO⟩,h1,h2⟩ b hb=>by
  obtain⟨o1,e1,d1,_⟩:=h1.obj;obtain⟨o2,e2,d2,_⟩:=h2.obj;simp only[WZ,Y1,or_false] at hb;rcases hb with rfl|rfl|rfl|rfl|rfl
  ·exact⟨_,hz,λv e=>by cases e⟩
  ·exact⟨_,hI,λv e=>by cases e⟩
  ·exact⟨_,hO,λv e=>by cases e⟩
  ·exact⟨o1,e1,λv e=>by rw[d1] at e;cases e⟩
  ·exact⟨o2,e2,λv e=>by rw[d2] at e;cases e⟩
 keep:=λi h h' ⟨hz,hI,⟨p,q,hO⟩,h1,h2⟩ k=>⟨k z (by simp) _ hz,k TI (by simp) _ hI,⟨p,q,k TO (by simp) _ hO⟩,h1.at λo e=>k i1 (by simp) o e,h2.at λo e=>k i2 (by simp) o e⟩
 item:=by
  intro X hP hw hK hc i pins s σ H E I hf st hg;subst hP hw hK;obtain⟨hz,hI,⟨p,q,hO⟩,h1,h2⟩:=st;obtain⟨xs,ys,x,y,q1,q2,hx,hy⟩:=hg;obtain⟨is1,v1,g1⟩:=I.sq q1;obtain⟨is2,v2,g2⟩:=I.sq q2;obtain⟨u1,mn,r1⟩:=v1.get hx;obtain⟨u2,hu2,r2⟩:=v2.get hy;obtain⟨o1,e1,_,_⟩:=h1.obj;obtain⟨o2,e2,_,_⟩:=h2.obj;have lz:=WU hz;have lI:=WU hI;have lO:=WU hO;have Vq:=WU e1;have Vr:=WU e2;refine CW D hz hI hO h1 h2 g1 g2 (x:=u1) (y:=u2) (by simpa using mn) (by simpa using hu2) λh' c1 c2 c3 c4 c5 kp=>⟨_,rfl,?_⟩;refine wpAny_letOwnedTupleGo_zip c1 λLi z2 sb=>?_;have NN:aah Li s.heap.objs.size u1 u2:=sb.extBut _ _ (ZK lz) c5;have Vs:∀b o,b∉[z,TI,TO,i1,i2]->s.heap.get? b=some o->Li.get? b=some o:=λb o hb e=>by
   simp only[WZ,Y1,or_false,not_or] at hb;exact sb.extBut _ _ hb.1 (kp b o hb.1 hb.2.2.1 hb.2.2.2.1 hb.2.2.2.2 e)
  have I2:az X pins σ (cD H s.heap.objs.size (.tup [x,y])) {s with heap:=Li}:=I.turnNew (t':=s.toks) hf Vs (WK _) ⟨by rw[YA];simp,[u1,u2],.cons r1 (.cons r2 .nil),⟨_,NN,rfl,_,rfl⟩,_,NN⟩;have fr:H s.heap.objs.size=none:=I.hok.fresh (WK _);refine⟨.ref s.heap.objs.size,_,I2,rfl,⟨_,x,y,rfl,fr,rfl,λzs hq=>by rw[I.sq_inj hq q1];exact hx,λzs hq=>by rw[I.sq_inj hq q2];exact hy⟩,⟨z2,?_,⟨u1,u2,?_⟩,?_,?_⟩,λb hb=>?_⟩
  ·exact sb.extBut _ _ D.TIz (kp _ _ D.TIz D.TITO D.TIi1 D.TIi2 hI)
  ·exact sb.extBut _ _ D.TOz c2
  ·exact c3.at λo e=>sb.extBut _ _ D.i1z e
  ·exact c4.at λo e=>sb.extBut _ _ D.i2z e
  ·have hn:b≠s.heap.objs.size:=by
    simp only[WZ,Y1,or_false] at hb;rcases hb with rfl|rfl|rfl|rfl|rfl
    ·exact Xj lz
    ·exact Xj lI
    ·exact Xj lO
    ·exact Xj Vq
    ·exact Xj Vr
   rw[aS hn];exact (hf b hb).1
 done:=by
  intro X hP hw hK hc i pins s σ H E I hf st hg;subst hP hw hK;obtain⟨hz,hI,⟨p,q,hO⟩,h1,h2⟩:=st;obtain⟨xs,ys,q1,q2,he⟩:=hg;obtain⟨is1,v1,g1⟩:=I.sq q1;obtain⟨is2,v2,g2⟩:=I.sq q2;have n1:=v1.length;have n2:=v2.length;refine CY (I.ok.hd hc) D hz hI hO h1 h2 g1 g2 (by
   rcases he with he|he
   ·exact .inl (by simp;lia)
   ·exact .inr (by simp;lia)) λh' kp=>⟨rfl,I.turneds (t':=s.toks) hf λb o hb e=>?_⟩
  simp only[WZ,Y1,or_false,not_or] at hb;exact kp b o hb.1 hb.2.2.1 hb.2.2.2.1 hb.2.2.2.2 e
 self:=λ_ _ _ _ _ st h=>wpAny_pyIter_zip st.1 h
section
variable {p:Pos}{a b:YV}
theorem ME:XM "zip"=some (.type "zip"):=by decide+kernel
def Sq (K:WD)(ta:TA):TI:=λσ H R=>ta σ H λvs H1=>∃l1 l2 a1 a2 xs ys,vs=[.ref a1,.ref a2]/\C0 l1 K H1 a1 xs/\C0 l2 K H1 a2 ys/\R (TJ K l1 l2 a1 a2) H1
theorem MF {ta:TA}(hg:Gl X "zip")(hm:X.mg "zip"=none)(ha:PA X [a,b] ta)(hs:W7 [a,b] X.env=[(false,aaj a X.env),(false,aaj b X.env)]:=by rfl)(b_:W7 [b] X.env=[(false,aaj b X.env)]:=by rfl) :
  PI X (.Tuple elts kt tp) (.Call (.Name "zip" p) [a,b] [] pos) (Sq X.K ta):=by
 intro pins s σ H R I h;refine Call_ (qE I hg hm ME (ZX (dC (ha pos pins s σ H _ I h) λus s1 ⟨vs,H1,I1,r1,q1⟩=>?_) (by rw[hs,b_]) (by rw[b_];rfl)));obtain⟨l1,l2,a1,a2,xs,ys,rfl,g1,g2,q⟩:=q1;cases r1 with
 |cons r rr=>
  cases rr with
  |cons r' rr=>
   cases rr;cases r;cases r';obtain⟨is1,v1,m1⟩:=I1.sq g1;obtain⟨is2,v2,m2⟩:=I1.sq g2;have lt:∀(l:Bool) (c:W8) (zs:Array WG),iO l s1.heap c zs->c<s1.heap.objs.size:=λl c zs hq=>by
    cases l with
    |true=>obtain⟨_,e,_⟩:=hq;exact WU e
    |false=>obtain⟨_,e,_⟩:=hq;exact WU e
   refine CZ m1 m2 λh' z1 z2 z3 z4 z5 kp=>wpAny_pyIter_zip z1 ?_;refine⟨_,[s1.heap.objs.size+4,s1.heap.objs.size+2,s1.heap.objs.size+3,s1.heap.objs.size,s1.heap.objs.size+1],_,_,H1,rfl,I1.kept (t':=s1.toks) λb o e=>kp b o e,E6 (zipApart_new (lt l1 a1 _ m1) (lt l2 a2 _ m2)),⟨z1,z2,⟨_,_,z3⟩,z4,z5⟩,λb hb=>?_,q⟩;have hb:s1.heap.objs.size<=b:=by
    simp only[WZ,Y1,or_false] at hb;rcases hb with rfl|rfl|rfl|rfl|rfl
    ·exact Yq _ _
    ·exact Yq _ _
    ·exact Yq _ _
    ·exact WK _
    ·exact Yq _ _
   exact I1.fpOk hb (I1.hok.fresh hb)
end
noncomputable def C1:U->Option (List U)
 | .lst us=>some us
 | .tup us=>some us
 |_=>none
noncomputable def IW (ga:Ev->R (List U×Ev)):Ev->R (List U×Ev):=λρ=>(ga ρ).bind λx=>match x.1 with
 | [u,w]=>match C1 u,C1 w with
  |some us,some ws=>.ok (YL (λa b=>.tup [a,b]) us ws,x.2)
  |_,_=>.stk
 |_=>.stk
section
variable {p1:Pos}{a b:YV}{b1:Bool}{ga:Ev->R (List U×Ev)}
theorem E7 (e:C1 u=some us)(h:Rp K H A u v):∃l a xs,v=.ref a/\us.length<=WC/\aE K H A us xs/\C0 l K H a xs/\∀H',eO A H H'->(∀b,A b->Mu (H b))->C0 l K H' a xs:=by
 unfold C1 at e;split at e;rotate_right
 ·cases e
 rotate_left
 ·cases e;unfold Rp at h;obtain⟨a,xs,rfl,q,l,z⟩:=h;exact⟨false,a,xs,rfl,l,z,gU.of q,λH' x mu=>gU.of (x a _ (λy=>by have:=mu a y;rw[q] at this;exact this) q)⟩
 ·cases e;unfold Rp at h;obtain⟨a,xs,rfl,na,q,l,z⟩:=h;exact⟨true,a,xs,rfl,l,z,gc.of q,λH' x mu=>gc.of (x a _ na q)⟩
theorem MG (ha:DA X G [a,b] b1 false ga)(hm:X.mg "zip"=none)(hg:Gl X "zip":=by rfl)(hs:W7 [a,b] X.env=[(false,aaj a X.env),(false,aaj b X.env)]:=by rfl)(b_:W7 [b] X.env=[(false,aaj b X.env)]:=by rfl) :
  DI X G (.Tuple elts kt tp) (.Call (.Name "zip" p1) [a,b] [] pos) b1 false (IW ga):=⟨(MF hg hm ha.un hs b_).to λσ H RR h00=>by
 obtain⟨Z,A,ρ,q,f⟩:=h00;unfold IW at f;cases e1:ga ρ with
 |stk=>rw[e1] at f;exact f.elim
 |exc=>rw[e1] at f;exact f.elim
 |ok y=>
  obtain⟨us,ρ1⟩:=y;rw[e1] at f;dsimp only[L2.R.bind] at f;refine⟨Z,A,ρ,q,?_⟩;rw[e1];intro vs H1 q1 x1 s1 vm;split at f
  ·rename_i Ul ρ' e2;split at e2
   ·rename_i u w';split at e2
    ·rename_i as bs ea eb;cases e2;have r:=vm.rps;unfold aE at r;obtain⟨v,vr,rfl,r1,r2⟩:=r;unfold aE at r2;obtain⟨v',vr',rfl,r3,r4⟩:=r2;unfold aE at r4;subst r4;obtain⟨l1,a1,xs,rfl,n1,z1,k1,Ay⟩:=E7 ea r1;obtain⟨l2,a2,ys,rfl,n2,z2,k2,ki⟩:=E7 eb r3;refine⟨l1,l2,a1,a2,xs,ys,rfl,k1,k2,f _ H1 q1 x1 s1 ⟨?_,λH2 A' hx DJ=>?_⟩⟩
     ·rw[ZO];exact XG (Nat.min_le_left _ _) n1
     ·rw[hV WA] at hx;have Ti:=Ay H2 hx q1.mu;have Tj:=ki H2 hx q1.mu;have w1:=z1.re q1.mu hx DJ;have w2:=z2.re q1.mu hx DJ;refine⟨λi u hu=>?_,⟨xs,ys,Ti,Tj,?_⟩⟩
      ·rw[List.getElem?_zipWith] at hu;cases hA:as[i]? with
       |none=>rw[hA] at hu;cases hu
       |some ua=>cases hB:bs[i]? with
        |none=>rw[hA,hB] at hu;cases hu
        |some ub=>
         rw[hA,hB] at hu;cases hu;obtain⟨x,hx1,px⟩:=w1.get hA;obtain⟨y,hy1,py⟩:=w2.get hB;refine⟨⟨xs,ys,x,y,Ti,Tj,hx1,hy1⟩,λx' H' yl=>?_⟩;obtain⟨T,x2,y2,rfl,hT,rfl,g1,g2⟩:=yl;have ex:x2=x:=by have:=g1 xs Ti;rw[hx1] at this;cases this;rfl
         have ey:y2=y:=by have:=g2 ys Tj;rw[hy1] at this;cases this;rfl
         subst ex ey;have sm:=cC hT (.tup [x2,y2]);refine⟨sm,?_⟩;unfold Rp;exact⟨T,_,rfl,bg,by have:WC=16777216:=rfl;rw[this];simp,aE.cons (px.same sm) (aE.cons (py.same sm) aE.nil)⟩
      ·rw[ZO,←z1.length,←z2.length];rcases Nat.le_total as.length bs.length with z|z
       ·exact .inl (by rw[Yo z];exact WK _)
       ·exact .inr (by rw[Nat.min_eq_right z];exact WK _)
    ·cases e2
   ·cases e2
  ·exact f.elim⟩
end
end L2
namespace L2
theorem nr {α:Sort _}{a b:α}(h:a=b):a=b:=h
noncomputable def look (o:Option (Option U))(ρ:Ev):R (U×Ev):=match o with
 |some (some u)=>.ok (u,ρ)
 |_=>.stk
noncomputable def TL (u:U)(ρ:Ev):R (Bool×Ev):=match u with
 | .bl c=>.ok (c,ρ)
 |_=>.stk
noncomputable def Rj (o:Option U):R U:=match o with
 |some u=>.ok u
 |none=>.stk
noncomputable def SR.seq (r:SR)(g:Ev->SR):SR:=match r with
 | .nx ρ=>g ρ
 |r=>r
noncomputable def SR.turn (r:SR)(g:Ev->SR):SR:=match r with
 | .nx ρ=>g ρ
 | .ct ρ=>g ρ
 | .bk ρ=>.nx ρ
 |r=>r
noncomputable def Pl (m:Md)(r:SR):R U:=match r with
 | .rt u _=>.ok u
 | .nx _=>if m=.S then .ok .non else .stk
 | .exc c u=>.exc c u
 |_=>.stk
noncomputable def io0 (u:U)(o:Option (Option U)):R (U×U):=match o with
 |some (some w)=>.ok (u,w)
 |_=>.stk
noncomputable def MJ (r:SR):R (U×U):=match r with
 | .rt u ρ=>io0 u ρ[0]?
 | .nx ρ=>io0 .non ρ[0]?
 | .exc c u=>.exc c u
 |_=>.stk
section
variable {w:U}{α β:Type}{g g1 g2 g3:Ev->R (U×Ev)}{h h1 h2:Ev->R (Bool×Ev)}{s s1 s2:Ev->SR}{ga:Ev->R (List U×Ev)}{m:Md}{ws:List U}
theorem J2:af i ρ=look ρ[i]? ρ:=nr rfl
theorem E8:look (some (some u)) ρ=.ok (u,ρ):=nr rfl
theorem TM:gC u ρ=.ok (u,ρ):=nr rfl
theorem C2 {a:α}{f:α->R β}:(R.ok a).bind f=f a:=nr rfl
theorem J3 {f:α->R β}:(R.stk:R α).bind f=.stk:=nr rfl
theorem E9 {a:α}{f:α->SR}:SR.of (R.ok a) f=f a:=nr rfl
theorem Pm {p:U->U->R U}:aY p g1 g2 ρ=(g1 ρ).bind λx=>(g2 x.2).bind λy=>(p x.1 y.1).bind λz=>.ok (z,y.2):=nr rfl
theorem TN:gB g ρ=(g ρ).bind λx=>TL x.1 x.2:=nr rfl
theorem J5 {c:Bool}:TL (.bl c) ρ=.ok (c,ρ):=nr rfl
theorem E_:Sa h1 h2 ρ=(h1 ρ).bind λx=>if x.1=true then h2 x.2 else .ok (false,x.2):=nr rfl
theorem J6:O4 h1 h2 ρ=(h1 ρ).bind λx=>if x.1=true then .ok (true,x.2) else h2 x.2:=nr rfl
theorem Fb:Ma h ρ=(h ρ).bind λx=>.ok (!x.1,x.2):=nr rfl
theorem J7:Sb g1 g2 ρ=(gB g1 ρ).bind λx=>if x.1=true then g2 x.2 else .ok (.bl false,x.2):=nr rfl
theorem Po:UO g1 g2 ρ=(gB g1 ρ).bind λx=>if x.1=true then .ok (.bl true,x.2) else g2 x.2:=nr rfl
theorem J8:Sd g ρ=(gB g ρ).bind λx=>.ok (.bl (!x.1),x.2):=nr rfl
theorem Pp:Q5 h g1 g2 ρ=(h ρ).bind λx=>if x.1=true then g1 x.2 else g2 x.2:=nr rfl
noncomputable def TQ (p':U->U->R U)(g3:Ev->R (U×Ev))(y:U×Ev)(z:U):R (U×Ev):=match z with
 | .bl k=>if k=true then (g3 y.2).bind λw=>(p' y.1 w.1).bind λz'=>.ok (z',w.2) else .ok (.bl false,y.2)
 |_=>.stk
theorem Bi {p p':U->U->R U}:Me p p' g1 g2 g3 ρ=(g1 ρ).bind λx=>(g2 x.2).bind λy=>(p x.1 y.1).bind λz=>TQ p' g3 y z:=nr rfl
theorem J9 {p':U->U->R U}{y:U×Ev}{k:Bool}:TQ p' g3 y (.bl k)=if k=true then (g3 y.2).bind λw=>(p' y.1 w.1).bind λz'=>.ok (z',w.2) else .ok (.bl false,y.2):=nr rfl
theorem Pq {p:U->R U}:Q7 p g ρ=(g ρ).bind λx=>(p x.1).bind λz=>.ok (z,x.2):=nr rfl
theorem Fc:ak ρ=.ok ([],ρ):=nr rfl
theorem Bj:ae g ga ρ=(g ρ).bind λx=>(ga x.2).bind λy=>.ok (x.1::y.1,y.2):=nr rfl
theorem Fd:cx ga ρ=(ga ρ).bind λx=>if x.1.length<=WC then .ok (.tup x.1,x.2) else .stk:=nr rfl
theorem Fe:gE ga ρ=(ga ρ).bind λx=>if x.1.length<=WC then .ok (.lst x.1,x.2) else .stk:=nr rfl
theorem Pr {p:List U->R U}:i5 p ga ρ=(ga ρ).bind λx=>(p x.1).bind λz=>.ok (z,x.2):=nr rfl
theorem Pt {f:List U->R U}:jh n f ga ρ=(ga ρ).bind λx=>(zp n f x.1).bind λz=>.ok (z,x.2):=nr rfl
theorem J_ {f:List U->R α}(h:us.length=n):zp n f us=f us:=hZ h
noncomputable def TR (n:Nat)(f:List U->R (U×U))(us:List U)(i:Nat)(ρ:Ev)(o:Option (Option U)):R (U×Ev):=match o with
 |some (some u0)=>(zp n f (u0::us)).bind λz=>.ok (z.1,ρ.set i (some z.2))
 |_=>.stk
theorem Ka {f:List U->R (U×U)}:TR n f us i ρ (some (some u))=(zp n f (u::us)).bind λz=>.ok (z.1,ρ.set i (some z.2)):=nr rfl
noncomputable def Bk (o:Option (Option U)):Bool:=match o with
 |some (some _)=>true
 |_=>false
theorem Bl:Bk (some (some u))=true:=nr rfl
theorem Pu {f:List U->R (U×U)}:qj n i f ga ρ=if Bk ρ[i]? = true then (ga ρ).bind λx=>TR n f x.1 i x.2 x.2[i]? else .stk:=nr rfl
noncomputable def Sr (i:Nat)(p:U->List U->R (U×U))(us:List U)(ρ:Ev)(o:Option (Option U)):R (U×Ev):=match o with
 |some (some u0)=>(p u0 us).bind λz=>.ok (z.1,ρ.set i (some z.2))
 |_=>.stk
theorem Kb {p:U->List U->R (U×U)}:Sr i p us ρ (some (some u))=(p u us).bind λz=>.ok (z.1,ρ.set i (some z.2)):=nr rfl
noncomputable def TU (T:String)(i:Nat)(p:U->List U->R (U×U))(ga:Ev->R (List U×Ev))(ρ:Ev)(o:Option (Option U)):R (U×Ev):=match o with
 |some (some u1)=>if CC u1 T=true then (ga ρ).bind λx=>Sr i p x.1 x.2 x.2[i]? else .stk
 |_=>.stk
theorem Kc {T:String}{p:U->List U->R (U×U)}:TU T i p ga ρ (some (some u))=if CC u T=true then (ga ρ).bind λx=>Sr i p x.1 x.2 x.2[i]? else .stk:=nr rfl
theorem TV {T:String}{p:U->List U->R (U×U)}:gM T i p ga ρ=TU T i p ga ρ ρ[i]? := nr rfl
theorem Ff:CC (.lst us) "list"=true:=nr rfl
theorem Bm:dM ρ=.ok (none,ρ):=nr rfl
noncomputable def TX (u:U)(ρ:Ev):R (Option Int×Ev):=match u with
 | .int i=>.ok (some i,ρ)
 |_=>.stk
theorem Kd {k:Int}:TX (.int k) ρ=.ok (some k,ρ):=nr rfl
theorem Bn:cW g ρ=(g ρ).bind λx=>TX x.1 x.2:=nr rfl
theorem Pw {p:U->Option Int->Option Int->R U}{lo hi:Ev->R (Option Int×Ev)}:rf p g lo hi ρ=(g ρ).bind λx=>(lo x.2).bind λl=>(hi l.2).bind λh=>(p x.1 l.1 h.1).bind λz=>.ok (z,h.2):=nr rfl
noncomputable def iR (T:String)(u:U)(ρ:Ev):R (U×Ev):=if N0 u="script" then .stk else .ok (.bl (iK (N0 u) T),ρ)
theorem Fg {T:String}:EI T g ρ=(g ρ).bind λx=>iR T x.1 x.2:=nr rfl
theorem Fh:iP ρ=.nx ρ:=nr rfl
theorem Bo:Mh ρ=.bk ρ:=nr rfl
theorem Fi:O7 ρ=.ct ρ:=nr rfl
theorem Ke:aP s1 s2 ρ=(s1 ρ).seq s2:=nr rfl
theorem Fj:(SR.nx ρ).seq s=s ρ:=nr rfl
theorem Fl:(SR.rt u ρ).seq s=.rt u ρ:=nr rfl
theorem Fm:(SR.bk ρ).seq s=.bk ρ:=nr rfl
theorem Fo:(SR.ct ρ).seq s=.ct ρ:=nr rfl
theorem Fp:j3 g ρ=SR.of (g ρ) λx=>.nx x.2:=nr rfl
theorem Kg:cI g ρ=SR.of (g ρ) λx=>.rt x.1 x.2:=nr rfl
theorem Kh:ba i g ρ=SR.of (g ρ) λx=>.nx (x.2.set i (some x.1)):=nr rfl
theorem Ki {sg:U->Ev->R Ev}:Si sg g ρ=SR.of (g ρ) λx=>SR.of (sg x.1 x.2) .nx:=nr rfl
theorem Kj:zq h s1 s2 ρ=SR.of (h ρ) λx=>if x.1=true then s1 x.2 else s2 x.2:=nr rfl
noncomputable def TY (i j:Nat)(ρ:Ev)(o:Option (Option U)):SR:=match o with
 |some (some u)=>.nx ((ρ.set j none).set i (some u))
 |_=>.stk
theorem Fq:xx i j ρ=TY i j ρ ρ[j]? := nr rfl
theorem Kk:TY i j ρ (some (some u))=.nx ((ρ.set j none).set i (some u)):=nr rfl
noncomputable def Px (i j:Nat)(us:List U)(ρ:Ev):SR:=match us with
 | [u,w]=>.nx ((ρ.set i (some u)).set j (some w))
 |_=>.stk
theorem Kl:Io i j ga ρ=SR.of (ga ρ) λx=>Px i j x.1 x.2:=nr rfl
theorem Ft:Px i j [u,w] ρ=.nx ((ρ.set i (some u)).set j (some w)):=nr rfl
noncomputable def Rk (i:Nat)(v k:U)(ρ:Ev)(o:Option (Option U)):SR:=match k with
 | .int k=>match o with
  |some (some (.lst us))=>match Dy us.length k with
   |some j=>.nx (ρ.set i (some (.lst (us.set j v))))
   |none=>.stk
  |_=>.stk
 |_=>.stk
theorem Fu:AS i g1 g2 ρ=SR.of (g1 ρ) λx=>if Bk x.2[i]? = true then SR.of (g2 x.2) λy=>Rk i x.1 y.1 y.2 y.2[i]? else .stk:=nr rfl
theorem Py {k:Int}(h:Dy us.length k=some j):Rk i w (.int k) ρ (some (some (.lst us)))=.nx (ρ.set i (some (.lst (us.set j w)))):=by
 unfold Rk;dsimp only;rw[h]
noncomputable def Pz (i:Nat)(p:U->U->R U)(g:Ev->R (U×Ev))(ρ:Ev)(o:Option (Option U)):SR:=match o with
 |some (some u)=>SR.of (g ρ) λy=>SR.of (p u y.1) λz=>.nx (y.2.set i (some z))
 |_=>.stk
theorem Km {p:U->U->R U}:Sj i p g ρ=Pz i p g ρ ρ[i]? := nr rfl
theorem Fv {p:U->U->R U}:Pz i p g ρ (some (some u))=SR.of (g ρ) λy=>SR.of (p u y.1) λz=>.nx (y.2.set i (some z)):=nr rfl
theorem Kn {gi:Ev->R (List U×Ev)}{sg:U->Ev->R Ev}:i6 gi sg s ρ=SR.of (gi ρ) λx=>eF sg s x.1 x.2:=nr rfl
theorem Bp {sg:U->Ev->R Ev}:eF sg s [] ρ=.nx ρ:=nr rfl
theorem Fw:eF sg s (u::us) ρ=SR.of (sg u ρ) λρ1=>(s ρ1).turn (eF sg s us):=nr rfl
theorem Bq:(SR.nx ρ).turn s=s ρ:=nr rfl
theorem Br:(SR.ct ρ).turn s=s ρ:=nr rfl
theorem Bs:(SR.bk ρ).turn s=.nx ρ:=nr rfl
theorem Bt:(SR.rt u ρ).turn s=.rt u ρ:=nr rfl
theorem qu:gj h s (n+1) ρ=SR.of (h ρ) λx=>if x.1=true then (s x.2).turn (gj h s n) else .nx x.2:=nr rfl
noncomputable def pO (u:U)(ρ:Ev):R (List U×Ev):=match u with
 | .lst us=>.ok (us,ρ)
 | .tup us=>.ok (us,ρ)
 | .scr us=>.ok (us,ρ)
 |_=>.stk
theorem Fx:gm g ρ=(g ρ).bind λx=>pO x.1 x.2:=nr rfl
theorem Fy:pO (.lst us) ρ=.ok (us,ρ):=nr rfl
theorem zM:pO (.tup us) ρ=.ok (us,ρ):=nr rfl
theorem Fz:pO (.scr us) ρ=.ok (us,ρ):=nr rfl
noncomputable def IX (us:List U)(ρ:Ev):R (List U×Ev):=match us with
 | [.int j]=>if -1000000<=j/\j<=1000000 then .ok (av 0 j.toNat,ρ) else .stk
 |_=>.stk
theorem FA:eT ga ρ=(ga ρ).bind λx=>IX x.1 x.2:=nr rfl
theorem MK {k:Int}:IX [.int k] ρ=if -1000000<=k/\k<=1000000 then .ok (av 0 k.toNat,ρ) else .stk:=nr rfl
noncomputable def FC (us:List U)(ρ:Ev):R (U×Ev):=match us with
 | [.int j]=>if xI 0 j=true then .ok (.lst (av 0 (j-0).toNat),ρ) else .stk
 |_=>.stk
noncomputable def FD (us:List U)(ρ:Ev):R (U×Ev):=match us with
 | [.int j]=>if xI 0 j=true then .ok (.tup (av 0 (j-0).toNat),ρ) else .stk
 |_=>.stk
theorem FE:A5 ga ρ=(ga ρ).bind λx=>FC x.1 x.2:=nr rfl
theorem FF:EJ ga ρ=(ga ρ).bind λx=>FD x.1 x.2:=nr rfl
theorem Ko {k:Int}(h0:0<=k)(h1:k<=1000000):xI 0 k=true:=by
 unfold xI;simp only[W2,decide_eq_true_eq];lia
theorem Bu (n:Nat)(h:n<=1000000):FC [.int n] ρ=.ok (.lst (av 0 n),ρ):=by
 unfold FC;dsimp only;rw[hZ (Ko (by lia) (by lia)),show ((n:Int)-0).toNat=n by lia]
theorem mV (n:Nat)(h:n<=1000000):FD [.int n] ρ=.ok (.tup (av 0 n),ρ):=by
 unfold FD;dsimp only;rw[hZ (Ko (by lia) (by lia)),show ((n:Int)-0).toNat=n by lia]
theorem fD (n:Nat)(h:n<=1000000):IX [.int n] ρ=.ok (av 0 n,ρ):=by
 rw[MK,hZ (by lia)];rfl
theorem Kp {gi:Ev->R (List U×Ev)}{js:List (Option Nat)}{sg:U->Ev->R Ev}:jk gi js sg h g ρ=(gi ρ).bind λx=>(Dz (uF js sg h g x.2) x.1).bind λys=>.ok (.lst ys,x.2):=nr rfl
theorem Kq {G:Gm}{gi:Ev->R (List U×Ev)}{js:List (Option Nat)}{sg:U->Ev->R Ev}:vE G gi js sg h g ρ=(gi ρ).bind λx=>(nQ G js sg h g x.1 x.2).bind λy=>.ok (.lst y.1,y.2):=nr rfl
theorem Kr {js:List (Option Nat)}{sg:U->Ev->R Ev}:uF js sg h g ρ u=(sg u (jj js ρ)).bind λρi=>(h ρi).bind λc=>if c.1=true then (g ρi).bind λy=>.ok (some y.1) else .ok none:=nr rfl
theorem FG {G:Gm}{js:List (Option Nat)}{sg:U->Ev->R Ev}:nQ G js sg h g [] ρ=.ok ([],ρ):=nr rfl
theorem ML:nQ G js sg h g (u::us) ρ=(sg u (jj js ρ)).bind λρi=>(h ρi).bind λc=>if c.1=true then (g c.2).bind λy=>(nQ G js sg h g us (wb G js y.2 ρ)).bind λr=>.ok (y.1::r.1,r.2) else nQ G js sg h g us (wb G js c.2 ρ):=nr rfl
theorem FH:cK ρ=.ok (true,ρ):=nr rfl
theorem Ks:bw i u ρ=.ok (ρ.set i (some u)):=nr rfl
theorem PB:N1 ρ=.ok (.dct [] [],ρ):=nr rfl
theorem FI:eM m n s us=Pl m (s (cg n us)):=nr rfl
theorem Bv:Pl m (.rt u ρ)=.ok u:=nr rfl
theorem FJ:zy n s us=MJ (s (cg n us)):=nr rfl
theorem Bw:MJ (.rt u ρ)=io0 u ρ[0]? := nr rfl
theorem Kt:io0 u (some (some w))=.ok (u,w):=nr rfl
theorem xT {ρ:Ev}:jj [] ρ=[]:=nr rfl
theorem uP {js:List (Option Nat)}:jj (none::js) ρ=none::jj js ρ:=nr rfl
theorem uQ {js:List (Option Nat)}:jj (some j::js) ρ=(ρ[j]?).getD none::jj js ρ:=by
 unfold jj;rw[WB];congr 1;dsimp only;cases ρ[j]? <;> rfl
end
section
variable {i j k:Int}{ws:List U}{w:U}{lo:Option Int}
theorem FK:cM (.int i) (.int j)=.ok (.int (i+j)):=nr rfl
theorem FN:cM (.tup us) (.tup ws)=if us.length+ws.length<=WC then .ok (.tup (us++ws)) else .stk:=nr rfl
theorem FO:cM (.lst us) (.lst ws)=if us.length+ws.length<=WC then .ok (.lst (us++ws)) else .stk:=nr rfl
theorem Ku:CD (.int i) (.int j)=.ok (.int (i-j)):=nr rfl
theorem Kv:fz (.int i) (.int j)=if i7 i j=true then .ok (.int (i*j)) else .stk:=nr rfl
theorem zN:jl (.int i) (.int j)=if xD i j=true then .ok (.int (i / j)) else .stk:=nr rfl
theorem Kw:pM (.int i) (.int j)=if decide (0<j)=true then .ok (.int (i % j)) else .stk:=nr rfl
theorem Kx:Iz (.int i) (.int j)=if Iy i j=true then .ok (.int (i ^ j.toNat)) else .stk:=nr rfl
theorem Ky:IA (.int i)=.ok (.int (-i)):=nr rfl
theorem PD:NZ (.int i) (.int j)=.ok (.bl (decide (i<j))):=nr rfl
theorem PF:UR (.int i) (.int j)=.ok (.bl (decide (i<=j))):=nr rfl
theorem PH:Q_ (.int i) (.int j)=.ok (.bl (decide (j<i))):=nr rfl
theorem PJ:Sk (.int i) (.int j)=.ok (.bl (decide (j<=i))):=nr rfl
theorem Bx:je (.lst us) (.int i)=Rj (my us i):=by show (match my us i with|some z=>R.ok z|none=>.stk)=_;cases my us i<;>rfl
theorem rC:je (.tup us) (.int i)=Rj (my us i):=by show (match my us i with|some z=>R.ok z|none=>.stk)=_;cases my us i<;>rfl
theorem Kz:je (.scr us) (.int i)=Rj (my us i):=by show (match my us i with|some z=>R.ok z|none=>.stk)=_;cases my us i<;>rfl
theorem KA:Rj (some u)=.ok u:=nr rfl
theorem KC:oG (.lst us) lo hi=.ok (.lst (jH us lo hi)):=nr rfl
theorem KD:oG (.tup us) lo hi=.ok (.tup (jH us lo hi)):=nr rfl
theorem KG:oG (.scr us) lo hi=.ok (.lst (jH us lo hi)):=nr rfl
theorem vN:iN [.lst us]=.ok (.int us.length):=nr rfl
theorem nZ:iN [.tup us]=.ok (.int us.length):=nr rfl
theorem FP:iN [.scr us]=.ok (.int us.length):=nr rfl
theorem FQ:cT [.lst us]=.ok (.tup us):=nr rfl
theorem FR:cT [.tup us]=.ok (.tup us):=nr rfl
theorem FT:JW [.lst us]=.ok (.lst us):=nr rfl
theorem FU:JW [.tup us]=.ok (.lst us):=nr rfl
theorem KI {a b:Bool}{f:Bool->Bool}:Sm f (.bl a) (.bl b)=.ok (.bl (f (decide (a=b)))):=nr rfl
theorem KJ {f:Bool->Bool}:Sl f u .non=.ok (.bl (f (JU u))):=nr rfl
theorem FV:xF [.int i,.int j]=.ok (.int (if j<i then j else i)):=nr rfl
theorem FW:AZ [.int i,.int j]=.ok (.int (if j>i then j else i)):=nr rfl
theorem PL {f:Bool->Bool}:O9 f u w=(ED u w).bind λb=>.ok (.bl (f b)):=nr rfl
theorem j4 (n:Nat):my us (n:Int)=us[n]? := by
 unfold my Dy;by_cases h:n<us.length
 ·rw[hZ (by lia),hZ (by lia)];rfl
 ·rw[hZ (by lia),hV (by lia)];rw[Xw.mpr (by lia)];rfl
theorem KL:my us 0=us[0]? := j4 0
theorem KN:my us 1=us[1]? := j4 1
theorem KO:my us 2=us[2]? := j4 2
theorem PM (h:0<us.length):Dy us.length 0=some 0:=by unfold Dy;rw[hZ (by lia),hZ (by lia)];rfl
theorem qv (h0:0<j)(h1:j<18446744073709551616):xD i j=true:=by unfold xD;simp[h0,h1]
theorem rD (h0:0<=i)(h1:i<18446744073709551616):i7 i j=true:=by
 unfold i7;simp only[Z2,W2,decide_eq_true_eq];exact .inl ⟨by lia,by lia⟩
theorem jL (h0:0<=j)(h1:j<18446744073709551616):i7 i j=true:=by
 unfold i7;simp only[Z2,W2,decide_eq_true_eq];exact .inr ⟨by lia,by lia⟩
end
end L2
namespace L2
theorem By {i:Nat}{w u:U}{us:List U}{ρ:Ev}:Rk i w (.int 0) ρ (some (some (.lst (u::us))))=.nx (ρ.set i (some (.lst (w::us)))):=by
 rw[Py (j:=0) (PM (by rw[WS];lia))];rfl
theorem Bz {ρ:Ev}:MJ (.nx ρ)=io0 .non ρ[0]? := rfl
theorem kC {G:Gm}{js:List (Option Nat)}{sg:U->Ev->R Ev}{ge:Ev->R (U×Ev)}{σ:Type}(ev:σ->Ev)(N:Nat)(I:List U->σ->Prop)
  (step:∀done u s,done.length<N->I done s->∃ρi y ρi' s',sg u (jj js (ev s))=.ok ρi/\ge ρi=.ok (y,ρi')/\wb G js ρi' (ev s)=ev s'/\I (done++[y]) s') :
  ∀(us done:List U) (s:σ),done.length+us.length<=N->I done s->∃ys s',nQ G js sg cK ge us (ev s)=.ok (ys,ev s')/\ys.length=us.length/\I (done++ys) s'
 | [],done,s,_,h=>⟨[],s,rfl,rfl,by rw[Xr];exact h⟩
 |u::us,done,s,hl,h=>by
  rw[WS] at hl;obtain⟨ρi,y,ρi',s',e1,e2,e3,h'⟩:=step done u s (by lia) h;obtain⟨ys,Lc,e4,e5,h''⟩:=kC ev N I step us (done++[y]) s' (by rw[WI,Ya];lia) h';refine⟨y::ys,Lc,?_,by rw[WS,WS,e5],by rw[W9] at h'';exact h''⟩;rw[ML,e1,C2,FH,C2,hZ rfl,e2,C2,e3,e4,C2]
theorem bx {s:Ev->SR}(I:Nat->Ev->Prop)(step:∀(i:Nat) (u:U) (ρ:Ev),us[i]? = some u->I i ρ->∃ρ1 ρ2,sg u ρ=.ok ρ1/\(s ρ1=.nx ρ2\/s ρ1=.ct ρ2)/\I (i+1) ρ2)(h:I 0 ρ) :
  ∃ρ',eF sg s us ρ=.nx ρ'/\I us.length ρ':=by
 have gen:∀(n i:Nat) (ρ:Ev),i+n=us.length->I i ρ->∃ρ',eF sg s (us.drop i) ρ=.nx ρ'/\I us.length ρ':=by
  intro n
  induction n with
  |zero=>
   intro i ρ hi h;have:i=us.length:=by lia
   subst this;rw[aat];exact⟨ρ,rfl,h⟩
  |succ n ih=>
   intro i ρ hi h;have Dt:i<us.length:=by lia
   obtain⟨ρ1,ρ2,e1,e2,h2⟩:=step i us[i] ρ (Wx Dt) h;obtain⟨ρ',e3,h3⟩:=ih (i+1) ρ2 (by lia) h2;refine⟨ρ',?_,h3⟩;rw[X6 Dt,Fw,e1,E9];rcases e2 with e2|e2<;>(rw[e2];exact e3)
 have:=gen us.length 0 ρ (by lia) h
 rwa [abe] at this
theorem C3 (ns:List Int):j8 (ns.map .int)=some (ns.map .int):=by
 induction ns with
 |nil=>unfold j8;rfl
 |cons n ns ih=>rw[WB];unfold j8;rw[ih];unfold nR;rfl
theorem zO (ns:List Int):g9 (ns.map .int)=0:=by
 induction ns with
 |nil=>unfold g9;rfl
 |cons n ns ih=>rw[WB];unfold g9;rw[ih];unfold dg;rfl
noncomputable def aU (n:Nat):List Int:=(WY n).map λi=>(i:Nat)
theorem eY (n:Nat):av 0 n=(aU n).map .int:=by
 unfold av aU;rw[WW];exact W3 λi _=>by show U.int (0+(i:Int))=.int _;rw[ab_]
theorem fE (n:Nat):(aU n).length=n:=by unfold aU;rw[Ww,Xf]
theorem zP {x:Int}:x∈aU n↔0<=x/\x<n:=by
 unfold aU;rw[WN];constructor
 ·rintro⟨i,h,rfl⟩;have:=Xv.mp h;lia
 ·intro h;exact⟨x.toNat,Xv.mpr (by lia),by lia⟩
end L2
namespace L2
theorem inb (s:String){T:String}{u:U}{ρ:Ev}{b:Bool}(h:N0 u=s)(h1:¬s="script")(h2:iK s T=b):iR T u ρ=.ok (.bl b,ρ):=by unfold iR;rw[h,hV h1,h2]
theorem oK {ρ:Ev}:iR "bool" (.non) ρ=.ok (.bl false,ρ):=inb "NoneType" rfl (by decide) (by decide)
theorem rE {ρ:Ev}:iR "int" (.non) ρ=.ok (.bl false,ρ):=inb "NoneType" rfl (by decide) (by decide)
theorem rF {ρ:Ev}:iR "str" (.non) ρ=.ok (.bl false,ρ):=inb "NoneType" rfl (by decide) (by decide)
theorem oM {ρ:Ev}:iR "list" (.non) ρ=.ok (.bl false,ρ):=inb "NoneType" rfl (by decide) (by decide)
theorem mW {ρ:Ev}:iR "tuple" (.non) ρ=.ok (.bl false,ρ):=inb "NoneType" rfl (by decide) (by decide)
theorem oN {ρ:Ev}:iR "dict" (.non) ρ=.ok (.bl false,ρ):=inb "NoneType" rfl (by decide) (by decide)
theorem rG {b:Bool}{ρ:Ev}:iR "bool" (.bl b) ρ=.ok (.bl true,ρ):=inb "bool" rfl (by decide) (by decide)
theorem uR {b:Bool}{ρ:Ev}:iR "int" (.bl b) ρ=.ok (.bl true,ρ):=inb "bool" rfl (by decide) (by decide)
theorem uS {b:Bool}{ρ:Ev}:iR "str" (.bl b) ρ=.ok (.bl false,ρ):=inb "bool" rfl (by decide) (by decide)
theorem rH {b:Bool}{ρ:Ev}:iR "list" (.bl b) ρ=.ok (.bl false,ρ):=inb "bool" rfl (by decide) (by decide)
theorem oO {b:Bool}{ρ:Ev}:iR "tuple" (.bl b) ρ=.ok (.bl false,ρ):=inb "bool" rfl (by decide) (by decide)
theorem rJ {b:Bool}{ρ:Ev}:iR "dict" (.bl b) ρ=.ok (.bl false,ρ):=inb "bool" rfl (by decide) (by decide)
theorem oP {i:Int}{ρ:Ev}:iR "bool" (.int i) ρ=.ok (.bl false,ρ):=inb "int" rfl (by decide) (by decide)
theorem rK {i:Int}{ρ:Ev}:iR "int" (.int i) ρ=.ok (.bl true,ρ):=inb "int" rfl (by decide) (by decide)
theorem rL {i:Int}{ρ:Ev}:iR "str" (.int i) ρ=.ok (.bl false,ρ):=inb "int" rfl (by decide) (by decide)
theorem oQ {i:Int}{ρ:Ev}:iR "list" (.int i) ρ=.ok (.bl false,ρ):=inb "int" rfl (by decide) (by decide)
theorem mX {i:Int}{ρ:Ev}:iR "tuple" (.int i) ρ=.ok (.bl false,ρ):=inb "int" rfl (by decide) (by decide)
theorem oR {i:Int}{ρ:Ev}:iR "dict" (.int i) ρ=.ok (.bl false,ρ):=inb "int" rfl (by decide) (by decide)
theorem oT {x:Str}{ρ:Ev}:iR "bool" (.str x) ρ=.ok (.bl false,ρ):=inb "str" rfl (by decide) (by decide)
theorem rM {x:Str}{ρ:Ev}:iR "int" (.str x) ρ=.ok (.bl false,ρ):=inb "str" rfl (by decide) (by decide)
theorem rN {x:Str}{ρ:Ev}:iR "str" (.str x) ρ=.ok (.bl true,ρ):=inb "str" rfl (by decide) (by decide)
theorem oU {x:Str}{ρ:Ev}:iR "list" (.str x) ρ=.ok (.bl false,ρ):=inb "str" rfl (by decide) (by decide)
theorem mY {x:Str}{ρ:Ev}:iR "tuple" (.str x) ρ=.ok (.bl false,ρ):=inb "str" rfl (by decide) (by decide)
theorem oV {x:Str}{ρ:Ev}:iR "dict" (.str x) ρ=.ok (.bl false,ρ):=inb "str" rfl (by decide) (by decide)
theorem oW {us:List U}{ρ:Ev}:iR "bool" (.tup us) ρ=.ok (.bl false,ρ):=inb "tuple" rfl (by decide) (by decide)
theorem rO {us:List U}{ρ:Ev}:iR "int" (.tup us) ρ=.ok (.bl false,ρ):=inb "tuple" rfl (by decide) (by decide)
theorem rP {us:List U}{ρ:Ev}:iR "str" (.tup us) ρ=.ok (.bl false,ρ):=inb "tuple" rfl (by decide) (by decide)
theorem oX {us:List U}{ρ:Ev}:iR "list" (.tup us) ρ=.ok (.bl false,ρ):=inb "tuple" rfl (by decide) (by decide)
theorem jM {us:List U}{ρ:Ev}:iR "tuple" (.tup us) ρ=.ok (.bl true,ρ):=inb "tuple" rfl (by decide) (by decide)
theorem oY {us:List U}{ρ:Ev}:iR "dict" (.tup us) ρ=.ok (.bl false,ρ):=inb "tuple" rfl (by decide) (by decide)
theorem oZ {us:List U}{ρ:Ev}:iR "bool" (.lst us) ρ=.ok (.bl false,ρ):=inb "list" rfl (by decide) (by decide)
theorem rQ {us:List U}{ρ:Ev}:iR "int" (.lst us) ρ=.ok (.bl false,ρ):=inb "list" rfl (by decide) (by decide)
theorem rR {us:List U}{ρ:Ev}:iR "str" (.lst us) ρ=.ok (.bl false,ρ):=inb "list" rfl (by decide) (by decide)
theorem o_ {us:List U}{ρ:Ev}:iR "list" (.lst us) ρ=.ok (.bl true,ρ):=inb "list" rfl (by decide) (by decide)
theorem mZ {us:List U}{ρ:Ev}:iR "tuple" (.lst us) ρ=.ok (.bl false,ρ):=inb "list" rfl (by decide) (by decide)
theorem pb {us:List U}{ρ:Ev}:iR "dict" (.lst us) ρ=.ok (.bl false,ρ):=inb "list" rfl (by decide) (by decide)
theorem pd {ρ:Ev}:iR "bool" (.dct [] []) ρ=.ok (.bl false,ρ):=inb "dict" rfl (by decide) (by decide)
theorem rS {ρ:Ev}:iR "int" (.dct [] []) ρ=.ok (.bl false,ρ):=inb "dict" rfl (by decide) (by decide)
theorem rT {ρ:Ev}:iR "str" (.dct [] []) ρ=.ok (.bl false,ρ):=inb "dict" rfl (by decide) (by decide)
theorem pf {ρ:Ev}:iR "list" (.dct [] []) ρ=.ok (.bl false,ρ):=inb "dict" rfl (by decide) (by decide)
theorem m4 {ρ:Ev}:iR "tuple" (.dct [] []) ρ=.ok (.bl false,ρ):=inb "dict" rfl (by decide) (by decide)
theorem ph {ρ:Ev}:iR "dict" (.dct [] []) ρ=.ok (.bl true,ρ):=inb "dict" rfl (by decide) (by decide)
theorem aB:type_of% @J2/\type_of% @E8/\type_of% @TM/\type_of% @C2/\type_of% @J3/\type_of% @E9/\type_of% @Pm/\type_of% @TN/\type_of% @J5/\type_of% @E_/\type_of% @J6/\type_of% @Fb/\type_of% @J7/\type_of% @Po/\type_of% @J8/\type_of% @Pp/\type_of% @Bi/\type_of% @Pq/\type_of% @Fc/\type_of% @Bj/\type_of% @Fd/\type_of% @Fe/\type_of% @Pr/\type_of% @Pt/\type_of% @Ka/\type_of% @Bl/\type_of% @Pu/\type_of% @Kb/\type_of% @Kc/\type_of% @TV/\type_of% @Ff/\type_of% @Bm/\type_of% @Kd/\type_of% @Bn/\type_of% @Pw/\type_of% @Fg/\type_of% @Fh/\type_of% @Bo/\type_of% @Fi/\type_of% @Ke/\type_of% @Fj/\type_of% @Fl/\type_of% @Fm/\type_of% @Fo/\type_of% @Fp/\type_of% @Kg/\type_of% @Kh/\type_of% @Ki/\type_of% @Kj/\type_of% @Fq/\type_of% @Kk/\type_of% @Kl/\type_of% @Ft/\type_of% @Fu/\type_of% @Km/\type_of% @Fv/\type_of% @Kn/\type_of% @Bp/\type_of% @Bq/\type_of% @Br/\type_of% @Bs/\type_of% @Bt/\type_of% @Fx/\type_of% @Fy/\type_of% @zM/\type_of% @Fz/\type_of% @FA/\type_of% @FE/\type_of% @FF/\type_of% @Kp/\type_of% @Kq/\type_of% @Kr/\type_of% @FG/\type_of% @FH/\type_of% @Ks/\type_of% @PB/\type_of% @FI/\type_of% @Bv/\type_of% @FJ/\type_of% @Bw/\type_of% @Kt/\type_of% @xT/\type_of% @uP/\type_of% @uQ/\type_of% @FK/\type_of% @FN/\type_of% @FO/\type_of% @Ku/\type_of% @Kv/\type_of% @zN/\type_of% @Kw/\type_of% @Kx/\type_of% @Ky/\type_of% @PD/\type_of% @PF/\type_of% @PH/\type_of% @PJ/\type_of% @Bx/\type_of% @rC/\type_of% @Kz/\type_of% @KA/\type_of% @KC/\type_of% @KD/\type_of% @KG/\type_of% @vN/\type_of% @nZ/\type_of% @FP/\type_of% @FQ/\type_of% @FR/\type_of% @FT/\type_of% @FU/\type_of% @KI/\type_of% @KJ/\type_of% @FV/\type_of% @FW/\type_of% @PL/\type_of% @KL/\type_of% @KN/\type_of% @KO/\type_of% @J9/\type_of% @oK/\type_of% @rE/\type_of% @rF/\type_of% @oM/\type_of% @mW/\type_of% @oN/\type_of% @rG/\type_of% @uR/\type_of% @uS/\type_of% @rH/\type_of% @oO/\type_of% @rJ/\type_of% @oP/\type_of% @rK/\type_of% @rL/\type_of% @oQ/\type_of% @mX/\type_of% @oR/\type_of% @oT/\type_of% @rM/\type_of% @rN/\type_of% @oU/\type_of% @mY/\type_of% @oV/\type_of% @oW/\type_of% @rO/\type_of% @rP/\type_of% @oX/\type_of% @jM/\type_of% @oY/\type_of% @oZ/\type_of% @rQ/\type_of% @rR/\type_of% @o_/\type_of% @mZ/\type_of% @pb/\type_of% @pd/\type_of% @rS/\type_of% @rT/\type_of% @pf/\type_of% @m4/\type_of% @ph/\type_of% @By/\type_of% @Bz:=
 ⟨@J2,@E8,@TM,@C2,@J3,@E9,@Pm,@TN,@J5,@E_,@J6,@Fb,@J7,@Po,@J8,@Pp,@Bi,@Pq,@Fc,@Bj,@Fd,@Fe,@Pr,@Pt,@Ka,@Bl,@Pu,@Kb,@Kc,@TV,@Ff,@Bm,@Kd,@Bn,@Pw,@Fg,@Fh,@Bo,@Fi,@Ke,@Fj,@Fl,@Fm,@Fo,@Fp,@Kg,@Kh,@Ki,@Kj,@Fq,@Kk,@Kl,@Ft,@Fu,@Km,@Fv,@Kn,@Bp,@Bq,@Br,@Bs,@Bt,@Fx,@Fy,@zM,@Fz,@FA,@FE,@FF,@Kp,@Kq,@Kr,@FG,@FH,@Ks,@PB,@FI,@Bv,@FJ,@Bw,@Kt,@xT,@uP,@uQ,@FK,@FN,@FO,@Ku,@Kv,@zN,@Kw,@Kx,@Ky,@PD,@PF,@PH,@PJ,@Bx,@rC,@Kz,@KA,@KC,@KD,@KG,@vN,@nZ,@FP,@FQ,@FR,@FT,@FU,@KI,@KJ,@FV,@FW,@PL,@KL,@KN,@KO,@J9,@oK,@rE,@rF,@oM,@mW,@oN,@rG,@uR,@uS,@rH,@oO,@rJ,@oP,@rK,@rL,@oQ,@mX,@oR,@oT,@rM,@rN,@oU,@mY,@oV,@oW,@rO,@rP,@oX,@jM,@oY,@oZ,@rQ,@rR,@o_,@mZ,@pb,@pd,@rS,@rT,@pf,@m4,@ph,@By,@Bz⟩
end L2
namespace Hc.Dw
def j_ (h:Zv)(a:W8)(ds:Array acz)(ep:Nat):Prop:=∃o,h.get? a=some o/\o.ExactDict/\o.data=.dict ds ep
theorem j_.ty (x:j_ s.heap a ds ep):s.TypeIs (.ref a) "dict":=by
 obtain⟨o,e,c,_⟩:=x;exact⟨o,e,c.1⟩
theorem j_.at (x:j_ h a ds ep)(e:∀o,h.get? a=some o->h'.get? a=some o):j_ h' a ds ep:=by
 obtain⟨o,q,r⟩:=x;exact⟨o,e o q,r⟩
theorem j_.lt (x:j_ h a ds ep):a<h.objs.size:=by obtain⟨o,e,_⟩:=x;exact WU e
section
variable {A:XD}{d vw:W8}
theorem PN (lo:(d==Yv)=false)(x:j_ s.heap d ds ep)(q:Q (.ref s.heap.objs.size) {s with heap:=s.heap.push {cls:=.type "dict_keyiterator",data:=.fields #[.ref d,.int 0 0,.int ds.size 0,.int ep 0]}}):WX (Xg prog w) A (pyIter (.ref d)) Q E s:=by
 have ty:=x.ty;obtain⟨od,e1,e2,e3⟩:=x;refine aaf ty F.slot_dict_iter (Xn F.slot_dict_iter ty F.entry_dict_iter ?_ (F.args_dict_iter_1 _));unfold Builtin.«dict.__iter__»;refine Wv ?_;unfold Builtin.Dict.dictSlotNone;refine Wv (abl ty ?_);change WX _ _ (pure (Value.ref d)) _ _ s;refine Wy ?_;change WX _ _ (YZ d >>= _) _ _ s;unfold YZ;rw[hV (by rw[lo];exact WA)];refine Wv (Wy (Wv (ZF e1 e3 (Wv (Z5 e1 e3 ?_)))));refine Wv (Xi (Wy ⟨_,rfl,"dict_keyiterator",_,⟨_,WL _ rfl,rfl⟩,F.slot_dict_keyiterator_next.lookup,?_⟩));simpa [abh] using q
theorem PQ {Q:Option WG->WT->Prop}(t:s.heap.IsKeyIter it d i ds.size ep)(x:j_ s.heap d ds ep)(hi:i<ds.size)
  (q:∀h',h'.IsKeyIter it d (i+1) ds.size ep->Yh it s.heap h'->Q (some ds[i].key) {s with heap:=h'}):WX (Xg prog w) A (aaB (.ref it)) Q E s:=by
 have ty:=t.typeIs;obtain⟨oi,i1,i2,i3⟩:=t;obtain⟨od,e1,e2,e3⟩:=x;unfold aaB;refine Wv (Zl (Xy (name:=Yw "__next__") ty Y6 (Xn Y6 ty abu ?_ (abm _))));refine Wv (Wy (Wv (Wv ?_)))
 first|refine Wv (Y3 ty (Wy ?_))|refine Wv (ZG ty (Wy ?_))
 refine Wv (aap i1 i3 ?_);simp only[show Yz "dict_keyiterator"=false by decide,Xm,if_false];change WX _ _ (if (Value.ref d==Value.none)=true then _ else _) _ _ s;rw[hV (show ¬((Value.ref d==Value.none)=true) from WA)];refine Wv (Wy (Wv (ZF e1 e3 ?_)));rw[hV (by simp)];refine Wv (Wy (Wv (Z5 e1 e3 ?_)));rw[hV (by simp)];refine Wy ?_;simp only[show ¬((i:Int)<0) from by lia,if_false,Xk,Xc hi];refine Wv ?_
 first|refine Wv (Y3 ty (Wy ?_))|refine Wv (ZG ty (Wy ?_))
 refine Wv (wpAny_isOneOf_keyiter ty ?_);change WX _ _ (setField (.ref it) 1 (abh ((i:Int)+1)) >>= _) _ _ s;refine Wv (Zr i1 i3 (by simp) ?_);have t':(s.heap.update it (Obj.mapFields (·.setIfInBounds 1 (abh ((i:Int)+1))))).IsKeyIter it d (i+1) ds.size ep:=
  ⟨_,YW _ i1 (Z4 (YD i3 _)),(aa9 ..).trans i2,by rw[YD i3];simp[abh]⟩
 refine Wv (X0 (Wv ?_));refine wpAny_isOneOf_keyiter (s:={s with heap:=s.heap.update it (Obj.mapFields (·.setIfInBounds 1 (abh ((i:Int)+1))))}) t'.typeIs ?_;change WX _ _ (pure ds[i].key) _ _ _;exact Wy (Wy ⟨_,rfl,Wy (q _ t' (X3 ..))⟩)
theorem PR {Q:Option WG->WT->Prop}(hh:A.handled=none)(t:s.heap.IsKeyIter it d i ds.size ep)(x:j_ s.heap d ds ep)(hi:ds.size<=i)
  (q:∀h',Heap.ExtBut it s.heap h'->Q none {s with heap:=h'}):WX (Xg prog w) A (aaB (.ref it)) Q E s:=by
 have ty:=t.typeIs;obtain⟨oi,i1,i2,i3⟩:=t;obtain⟨od,e1,e2,e3⟩:=x;unfold aaB;refine Wv (Zl (Xy (name:=Yw "__next__") ty Y6 (Xn Y6 ty abu ?_ (abm _))));refine Wv (Wy (Wv (Wv ?_)))
 first|refine Wv (Y3 ty (Wy ?_))|refine Wv (ZG ty (Wy ?_))
 refine Wv (aap i1 i3 ?_);simp only[show Yz "dict_keyiterator"=false by decide,Xm,if_false];change WX _ _ (if (Value.ref d==Value.none)=true then _ else _) _ _ s;rw[hV (show ¬((Value.ref d==Value.none)=true) from WA)];refine Wv (Wy (Wv (ZF e1 e3 ?_)));rw[hV (by simp)];refine Wv (Wy (Wv (Z5 e1 e3 ?_)));rw[hV (by simp)];refine Wy ?_;simp only[show ¬((i:Int)<0) from by lia,if_false,Xk,Zh hi];refine Wv ?_
 first|refine Wv (Y3 ty (Wy ?_))|refine Wv (ZG ty (Wy ?_))
 change WX _ _ (setField (.ref it) 0 .none >>= _) _ _ s;refine Wv (Zr i1 i3 (by simp) ?_);change WX _ _ (newExc (.type "StopIteration") [] >>= _) _ _ _;refine Wv ?_;simp only[newExc,newTuple];refine Wv (Xi (hd:=by size_fits) ?_);refine Wv (m:=Zs _ _) (aax (a:=Value.none) (by first|rfl|(simp only[Zs];rfl)) (Xi (hd:=by size_fits) ?_));simp only[raiseNew];refine Wv (wpAny_handled ?_);rw[show A.in1.handled=none from hh];refine Wv (Wy (wpAny_throw ?_));refine Wv (ZP (b:=true) (T:="StopIteration") ⟨_,WL _ rfl,rfl⟩ acg ?_);exact Wy (q _ (((X3 ..).extBut.push _).push _))
theorem TZ (lo:(d==Yv)=false)(x:j_ s.heap d ds ep)(q:∀h',h'.IsValuesView s.heap.objs.size d->(∀b o,s.heap.get? b=some o->h'.get? b=some o)->Q (.ref s.heap.objs.size) {s with heap:=h'}) :
  WX (Xg prog w) A (Builtin.«dict.values» ⟨[.ref d],[]⟩) (λf s'=>∃v,f=.done (.ret v)/\Q v s') E s:=by
 refine Wv ?_;unfold Builtin.Dict.noArgs;refine Wv (abl x.ty ?_);change WX _ _ (pure d) _ _ s;refine Wy ?_;change WX _ _ (YZ d >>= _) _ _ s;unfold YZ;rw[hV (by rw[lo];exact WA)];exact Wv (Wy (Wv (Xi (Wy ⟨_,rfl,q _ ⟨_,WL _ rfl,rfl,rfl⟩ λb o e=>Wz _ e⟩))))
theorem PU (lo:(d==Yv)=false)(x:j_ s.heap d ds ep)(q:∀h',h'.IsItemsView s.heap.objs.size d->(∀b o,s.heap.get? b=some o->h'.get? b=some o)->Q (.ref s.heap.objs.size) {s with heap:=h'}) :
  WX (Xg prog w) A (Builtin.«dict.items» ⟨[.ref d],[]⟩) (λf s'=>∃v,f=.done (.ret v)/\Q v s') E s:=by
 unfold Builtin.«dict.items»;refine Wv ?_;unfold Builtin.Dict.noArgs;refine Wv (abl x.ty ?_);change WX _ _ (pure d) _ _ s;refine Wy ?_;change WX _ _ (YZ d >>= _) _ _ s;unfold YZ;rw[hV (by rw[lo];exact WA)];exact Wv (Wy (Wv (Xi (Wy ⟨_,rfl,q _ ⟨_,WL _ rfl,rfl,rfl⟩ λb o e=>Wz _ e⟩))))
theorem PV (hv:s.heap.IsItemsView vw d)(x:j_ s.heap d ds ep)(q:∀h',ZS h' s.heap.objs.size d 0 ds.size ep .none .none->(∀b o,s.heap.get? b=some o->h'.get? b=some o)->Q (.ref s.heap.objs.size) {s with heap:=h'}):WX (Xg prog w) A (pyIter (.ref vw)) Q E s:=by
 have ty:=hv.typeIs;obtain⟨ov,v1,v2,v3⟩:=hv;obtain⟨od,e1,e2,e3⟩:=x;refine aaf ty F.slot_dict_items_iter (Xn F.slot_dict_items_iter ty F.entry_dict_items_iter ?_ (F.args_dict_items_iter_1 _));unfold Builtin.«dict_items.__iter__»;refine Wv (Wy (Wv ?_));unfold Builtin.Dict_items.dictOf;refine Wv (X8 v1 v3 (x:=.ref d) rfl (Wy (Wv ?_)));unfold Builtin.Dict_items.newIterator;refine Wv (ZF e1 e3 (Wv (Z5 e1 e3 ?_)));simp only[show Yz "dict_itemiterator"=true by decide,if_true];refine Xi (Wy ⟨_,rfl,"dict_itemiterator",_,⟨_,WL _ rfl,rfl⟩,F.slot_dict_itemiterator_next.lookup,?_⟩)
  (by simp only[sizeOk,aay,WJ,WI,WS,ZY,YA];lia)
 exact q _ (by
  have:=WL s.heap (o:={cls:=.type "dict_itemiterator",data:=.fields #[.none,.bool false,.ref d,.int 0 0,.int ds.size 0,.int ep 0,.none,.none]}) rfl;unfold ZS;simpa [abh,aay] using this) λb o e=>Wz _ e
theorem PX {ok ov:WG}{Q:Option WG->WT->Prop}(t:ZS s.heap it d i ds.size ep ok ov)(x:j_ s.heap d ds ep)(hi:i<ds.size)
  (q:∀h',IsItemIterOut h' it d (i+1) ds.size ep ds[i].key ds[i].val s.heap.objs.size->h'.get? s.heap.objs.size=some {cls:=.type "tuple",data:=.seq #[ds[i].key,ds[i].val]} ->
   (∀b o,b≠it->s.heap.get? b=some o->h'.get? b=some o)->Q (some (.ref s.heap.objs.size)) {s with heap:=h'}):WX (Xg prog w) A (aaB (.ref it)) Q E s:=by
 obtain⟨hp,g,dr,tk,os⟩:=s;have ty:Shared.TypeIs ⟨hp,g,dr,tk,os⟩ (.ref it) "dict_itemiterator":=⟨_,t,rfl⟩;obtain⟨od,e1,e2,e3⟩:=x;unfold aaB;refine Wv (Zl (Xy (name:=Yw "__next__") ty Y4 (Xn Y4 ty abn ?_ (aa_ _))));refine Wv (Wy (Wv (Wv ?_)))
 first|refine Wv (Y0 ty (Wy ?_))|refine Wv (Zt ty (Wy ?_))
 refine Wv (aap t rfl ?_);simp only[show Yz "dict_itemiterator"=true by decide,if_true];change WX _ _ (if (Value.ref d==Value.none)=true then _ else _) _ _ _;rw[hV (show ¬((Value.ref d==Value.none)=true) from WA)];refine Wv (Wy (Wv (ZF e1 e3 ?_)));rw[hV (by simp)];refine Wv (Wy (Wv (Z5 e1 e3 ?_)));rw[hV (by simp)];refine Wy ?_;simp only[show ¬((i:Int)<0) from by lia,if_false,Xk,Xc hi];refine Wv ?_
 first|refine Wv (Y0 ty (Wy ?_))|refine Wv (Zt ty (Wy ?_))
 refine Wv (aa1 ty ?_);change WX _ _ (setField (.ref it) 3 (abh ((i:Int)+1)) >>= _) _ _ ⟨hp,g,dr,tk,os⟩;refine Wv (XW t (by simp) λg1 t1 b1=>?_)
 replace b1:Yh it hp g1:=b1
 replace t1:ZS g1 it d (i+1) ds.size ep ok ov:=by
  have z:((i+1:Nat):Int)=(i:Int)+1:=by lia
  unfold ZS;rw[z];simpa [abh] using t1
 have UA:Shared.TypeIs ⟨g1,g,dr,tk,os⟩ (.ref it) "dict_itemiterator":=⟨_,t1,rfl⟩;refine Wv (X0 (Wv (aa1 UA (Wv (aa1 UA ?_)))));change WX _ _ (aaW (.ref it) 6 ds[i].key ds[i].val) _ _ ⟨g1,g,dr,tk,os⟩;unfold aaW;refine Wv (wpAny_newTuple ?_);have t2:ZS (g1.push {cls:=.type "tuple",data:=.seq #[ds[i].key,ds[i].val]}) it d (i+1) ds.size ep ok ov:=Wz _ t1;have n1:g1.objs.size=hp.objs.size:=b1.1;have lt:it<hp.objs.size:=WU t;have u2:(g1.push {cls:=.type "tuple",data:=.seq #[ds[i].key,ds[i].val]}).get? hp.objs.size=some {cls:=.type "tuple",data:=.seq #[ds[i].key,ds[i].val]}:=by rw[←n1];exact WL _ rfl
 have k2:∀b o,b≠it->hp.get? b=some o->(g1.push {cls:=.type "tuple",data:=.seq #[ds[i].key,ds[i].val]}).get? b=some o:=λb o hb e=>Wz _ (b1.extBut b o hb e);change WX _ _ (aaz (.ref it) >>= _) _ _ ⟨g1.push {cls:=.type "tuple",data:=.seq #[ds[i].key,ds[i].val]},g,dr,tk,os⟩;rw[n1];generalize g1.push {cls:=.type "tuple",data:=.seq #[ds[i].key,ds[i].val]}=g2 at t2 u2 k2 ⊢;refine Wv ?_;unfold aaz;refine Wv (X8 t2 rfl (x:=.none) rfl (Wy ?_));simp only[if_true];refine Wv (X8 t2 rfl (x:=ok) rfl (Wv (X8 t2 rfl (x:=ov) rfl ?_)));refine Wv (XW t2 (by simp) λg3 t3 b3=>?_)
 replace b3:Yh it g2 g3:=b3
 replace t3:ZS g3 it d (i+1) ds.size ep ds[i].key ov:=t3
 refine Wv (XW t3 (by simp) λg4 t4 b4=>?_)
 replace b4:Yh it g3 g4:=b4
 replace t4:ZS g4 it d (i+1) ds.size ep ds[i].key ds[i].val:=t4
 refine Wv (XW t4 (by simp) λg5 t5 b5=>?_)
 replace b5:Yh it g4 g5:=b5
 replace t5:IsItemIterOut g5 it d (i+1) ds.size ep ds[i].key ds[i].val hp.objs.size:=t5
 refine Wv (XW t5 (by simp) λg6 t6 b6=>?_)
 replace b6:Yh it g5 g6:=b6
 replace t6:IsItemIterOut g6 it d (i+1) ds.size ep ds[i].key ds[i].val hp.objs.size:=t6
 have up:∀b o,b≠it->g2.get? b=some o->g6.get? b=some o:=λb o hb e=>b6.extBut b o hb (b5.extBut b o hb (b4.extBut b o hb (b3.extBut b o hb e)));exact Wv (wpAny_letGo (Wy (Wy ⟨_,rfl,Wy (q g6 t6 (up _ _ (ZK lt) u2) λb o hb e=>up b o hb (k2 b o hb e))⟩)))
theorem PY {ok ov:WG}{Q:Option WG->WT->Prop}(hh:A.handled=none)(t:ZS s.heap it d i ds.size ep ok ov)(x:j_ s.heap d ds ep)(hi:ds.size<=i)
  (q:∀h',Heap.ExtBut it s.heap h'->Q none {s with heap:=h'}):WX (Xg prog w) A (aaB (.ref it)) Q E s:=by
 have ty:s.TypeIs (.ref it) "dict_itemiterator":=⟨_,t,rfl⟩;obtain⟨od,e1,e2,e3⟩:=x;unfold aaB;refine Wv (Zl (Xy (name:=Yw "__next__") ty Y4 (Xn Y4 ty abn ?_ (aa_ _))));refine Wv (Wy (Wv (Wv ?_)))
 first|refine Wv (Y0 ty (Wy ?_))|refine Wv (Zt ty (Wy ?_))
 refine Wv (aap t rfl ?_);simp only[show Yz "dict_itemiterator"=true by decide,if_true];change WX _ _ (if (Value.ref d==Value.none)=true then _ else _) _ _ s;rw[hV (show ¬((Value.ref d==Value.none)=true) from WA)];refine Wv (Wy (Wv (ZF e1 e3 ?_)));rw[hV (by simp)];refine Wv (Wy (Wv (Z5 e1 e3 ?_)));rw[hV (by simp)];refine Wy ?_;simp only[show ¬((i:Int)<0) from by lia,if_false,Xk,Zh hi];refine Wv ?_
 first|refine Wv (Y0 ty (Wy ?_))|refine Wv (Zt ty (Wy ?_))
 change WX _ _ (setField (.ref it) 2 .none >>= _) _ _ s;refine Wv (Zr t rfl (by simp) ?_);change WX _ _ (newExc (.type "StopIteration") [] >>= _) _ _ _;refine Wv ?_;simp only[newExc,newTuple];refine Wv (Xi (hd:=by size_fits) ?_);refine Wv (m:=Zs _ _) (aax (a:=Value.none) (by first|rfl|(simp only[Zs];rfl)) (Xi (hd:=by size_fits) ?_));simp only[raiseNew];refine Wv (wpAny_handled ?_);rw[show A.in1.handled=none from hh];refine Wv (Wy (wpAny_throw ?_));refine Wv (ZP (b:=true) (T:="StopIteration") ⟨_,WL _ rfl,rfl⟩ acg ?_);exact Wy (q _ (((X3 ..).extBut.push _).push _))
end
end Hc.Dw
namespace L2
open Hc.Dw
theorem rV {α β:Type}{R:α->β->Prop}:∀{xs:List α} {ys:List β} {i:Nat} {y:β},ack R xs ys->ys[i]? = some y->∃x,xs[i]? = some x/\R x y
 |_,_,_,_,.nil,h=>by simp at h
 |x::xs,y'::ys,0,y,.cons r t,h=>by simp at h;subst h;exact⟨x,by simp,r⟩
 |x::xs,y'::ys,i+1,y,.cons r t,h=>by
  obtain⟨x',m,q⟩:=rV t (i:=i) (by simpa using h);exact⟨x',by simpa using m,q⟩
theorem az.rawD (I:az X pins σ H s)(q:H a=some (DN a ep es)):(a==Yv)=false/\∃ds,j_ s.heap a ds ep/\ds.size=es.length/\∀(i:Nat) (hi:i<ds.size),∃e,es[i]? = some e/\ds[i].key=.ref e.2.1/\aO e.2.2 ds[i].val:=by
 obtain⟨⟨l,o,ds,xs,h1,h2,h3,h4,h5⟩,_⟩:=I.hok a _ q;have n1:ds.size=es.length:=by rw[←WH,h5,Ww,Z8 h4]
 refine⟨l,ds,⟨o,h1,h2,h3⟩,n1,λi hi=>?_⟩;have e1:ds.toList[i]? = some ds[i]:=by rw[W4];exact getElem?_pos ds i hi
 rw[h5,WQ] at e1;cases e2:xs[i]? with
 |none=>rw[e2] at e1;cases e1
 |some x=>
  rw[e2] at e1;have e3:OZ x=ds[i]:=by injection e1
  obtain⟨e,m,r⟩:=rV h4 e2;refine⟨e,m,?_,?_⟩
  ·rw[←e3,r.2.1];rfl
  ·rw[←e3];exact r.2.2
noncomputable def UT (a:W8)(ep:Nat)(es:List (List U×W8×V)):It:=
 ⟨λi H=>H a=some (DN a ep es)/\i<es.length,λi H v H'=>H'=H/\∃e,es[i]? = some e/\v=.ref e.2.1,λi H=>H a=some (DN a ep es)/\es.length<=i⟩
noncomputable def UU (a:W8)(ep:Nat)(es:List (List U×W8×V)):It:=
 ⟨λi H=>H a=some (DN a ep es)/\i<es.length,λi H v H'=>H'=H/\∃e,es[i]? = some e/\v=e.2.2,λi H=>H a=some (DN a ep es)/\es.length<=i⟩
noncomputable def Ss (a:W8)(ep:Nat)(es:List (List U×W8×V)):It:=
 ⟨λi H=>H a=some (DN a ep es)/\i<es.length,λi H v H'=>∃T e,v=.ref T/\H T=none/\es[i]? = some e/\H'=cD H T (.tup [.ref e.2.1,e.2.2]),λi H=>H a=some (DN a ep es)/\es.length<=i⟩
theorem rW:entryFor table "dict_itemiterator.__iter__"=some Builtin.«dict_keyiterator.__iter__» :=
 entryFor_alias (id':="dict_keyiterator.__iter__") (by kernel_rfl) rfl (by decide+kernel) (by kernel_rfl)
theorem zQ {A:XD}{ok ov:WG}(st:ZS s.heap it a i n ep ok ov)(h:Q (.ref it) s):WX (Xg P w) A (pyIter (.ref it)) Q E s:=by
 have ty:s.TypeIs (.ref it) "dict_itemiterator":=⟨_,st,rfl⟩;refine aaf ty abv (Xn abv ty rW ?_ (F.args_dict_itemiterator_iter_1 _));change WX _ _ (ret (.ref it)) _ _ s;exact Wy ⟨_,rfl,"dict_itemiterator",_,ty,F.slot_dict_itemiterator_next.lookup,h⟩
theorem zS:y8 P w K (.Tuple elts kt tp) (Ss a ep es) [it] it (λi h=>∃ok ov,ZS h it a i es.length ep ok ov) where
 mem:=by simp
 obj:=λi h st b hb=>by
  have e:b=it:=by simpa using hb
  subst e;obtain⟨ok,ov,q⟩:=st;exact⟨_,q,λv z=>by cases z⟩
 keep:=λi h h' ⟨ok,ov,q⟩ k=>⟨ok,ov,k it (by simp) _ q⟩
 item:=by
  intro X hP hw hK hc i pins s σ H E I hf st hg;subst hP hw hK;obtain⟨hq,hi⟩:=hg;obtain⟨_,ds,rd,n,at_⟩:=I.rawD hq;obtain⟨ok,ov,st⟩:=st;rw[←n] at st hi;obtain⟨e,m,ek,rv⟩:=at_ i hi;have lt:it<s.heap.objs.size:=WU st;refine PX st rd hi λh' aF tu kp=>⟨_,rfl,?_⟩;refine wpAny_letOwnedTupleGo_items aF λh2 ki sb=>?_;have UB:=sb.extBut _ _ (ZK lt) tu;have I2:az X pins σ (cD H s.heap.objs.size (.tup [.ref e.2.1,e.2.2])) {s with heap:=h2}:=I.turnNew (fp:=[it]) (t':=s.toks) hf (λb o hb q=>by
   have hb:b≠it:=by simpa using hb
   exact sb.extBut _ _ hb (kp b o hb q)) (WK _) ⟨by rw[YA];simp,[ds[i].key,ds[i].val],.cons ek (.cons rv .nil),⟨_,UB,rfl,_,rfl⟩,_,UB⟩
  refine⟨.ref s.heap.objs.size,_,I2,rfl,⟨_,e,rfl,I.hok.fresh (WK _),m,rfl⟩,⟨_,_,by rw[←n];exact ki⟩,λb hb=>?_⟩;have Du:b=it:=by simpa using hb
  rw[aS (by rw[Du];exact Xj lt)];exact (hf b hb).1
 done:=by
  intro X hP hw hK hc i pins s σ H E I hf st hg;subst hP hw hK;obtain⟨hq,hi⟩:=hg;obtain⟨_,ds,rd,n,at_⟩:=I.rawD hq;obtain⟨f0,f1,f2,f3,f4,f5⟩:=hf it (by simp);obtain⟨ok,ov,st⟩:=st;rw[←n] at st hi;exact PY (I.ok.hd hc) st rd hi λh' eb=>⟨rfl,I.turned (t':=s.toks) (λb o hb e=>eb b o hb e) f0 f1 f3 f4 f5⟩
 self:=λ_ _ _ _ _ ⟨ok,ov,st⟩ h=>zQ st h
def T2 (J:W8->Nat->List (List U×W8×V)->It)(tl:TE):TI:=λσ H R=>tl σ H λx H1=>∃a ep es,x=.ref a/\H1 a=some (DN a ep es)/\R (J a ep es) H1
structure M0 (X:Cx)(o:YV)(m:Str)(gz cpos:Pos):Prop where
 base:abA o m X.env (aaj o X.env)=aaj o X.env
 few:((Zy cpos (W7 [] X.env)).all (λx=> !x.1)&&(backToKw cpos (keywordEach [] X.env)).all (λx=>x.1.isSome)
  && decide (([]:List YV).length+([]:List acb).length+(if ([]:List acb).isEmpty then 0 else 1)<30))=true
 line:(gz.endLine==cpos.line)=true
 trees:Zy cpos (W7 [] X.env)=[]
section
variable {e:YV}{tl:TE}{gz cpos:Pos}
theorem MM (I:az X pins σ H s)(q:H a=some (DN a ep es)):s.TypeIs (.ref a) "dict"/\∀b,Value.ref a=.ref b->∃ob,s.heap.get? b=some ob/\ob.dict=none:=by
 obtain⟨_,ds,rd,_⟩:=I.rawD q;refine⟨rd.ty,λb z=>?_⟩;cases z;obtain⟨o,h1,h2,_⟩:=rd;exact⟨o,h1,h2.2.1⟩
theorem FX (hl:PE X e tl)(m:M0 X e "items" gz cpos):PI X (.Tuple elts kt tp) (.Call (.Attribute e "items" gz) [] [] cpos) (T2 Ss tl):=by
 intro pins s σ H R I h;refine wpAny_Call_method m.base m.few m.line PySem.F.plainAttrs_dict PySem.F.slot_dict_items PySem.F.type_dict_items (dC (hl pins s σ H _ I h) λv s1 ⟨x,H1,I1,r1,a,ep,es,ex,hq,q⟩=>?_);subst ex;cases r1;obtain⟨t1,t2⟩:=MM I1 hq;refine⟨t1,t2,?_⟩;rw[m.trees];obtain⟨lo,ds,rd,n,_⟩:=I1.rawD hq;refine aaZ rfl (PyProof.Rows.evalArgs_none ?_);refine Xn PySem.F.slot_dict_items t1 PySem.F.entry_dict_items (PU lo rd λh1 vw k1=>?_) (PySem.F.args_dict_items_1 _);refine PV vw (rd.at λo z=>k1 _ o z) λh2 st k2=>?_;have I2:az X pins σ H1 {s1 with heap:=h2}:=I1.kept (t':=s1.toks) λb o z=>k2 b o (k1 b o z);refine⟨h1.objs.size,[h1.objs.size],_,_,H1,rfl,I2,zS (a:=a) (ep:=ep) (es:=es),⟨_,_,by rw[←n];exact st⟩,λb hb=>?_,q⟩;have e:b=h1.objs.size:=by simpa using hb
 have ge:s1.heap.objs.size<=h1.objs.size:=by
  obtain⟨o,z,_⟩:=vw;exact Nat.le_of_lt (WU z)
 exact I1.fpOk (by rw[e];exact ge) (I1.hok.fresh (by rw[e];exact ge))
end
end L2
namespace L2
open Hc.Dw
mutual
theorem PZ {K:WD}{H:Hp}{A:W8->Prop}:∀{u:U} {v:V},KH H u v->Rp K H A u v
 | .int i,v,h=>by unfold KH at h;unfold Rp;exact h
 | .tup us,v,h=>by
  unfold KH at h;unfold Rp;obtain⟨b,ys,e,q,l,z⟩:=h;exact⟨b,ys,e,q,l,zT z⟩
 | .non,v,h=>by unfold KH at h;exact h.elim
 | .bl _,v,h=>by unfold KH at h;exact h.elim
 | .str _,v,h=>by unfold KH at h;exact h.elim
 | .lst _,v,h=>by unfold KH at h;exact h.elim
 | .dct _ _,v,h=>by unfold KH at h;exact h.elim
 | .scr _,v,h=>by unfold KH at h;exact h.elim
theorem zT {K:WD}{H:Hp}{A:W8->Prop}:∀{us:List U} {vs:List V},qW H us vs->aE K H A us vs
 | [],vs,h=>by unfold qW at h;unfold aE;exact h
 |u::us,vs,h=>by
  unfold qW at h;unfold aE;obtain⟨x,r,q,p,z⟩:=h;exact⟨x,r,q,PZ p,zT z⟩
end
theorem FY (h:tK H us b):Rp K H A (.tup us) (.ref b):=by
 obtain⟨_,ys,q,l,z⟩:=h;unfold Rp;exact⟨b,ys,rfl,q,l,zT z⟩
noncomputable def MN:U->Bool
 | .tup _=>true
 |_=>false
noncomputable def zU (ks:List U):Bool:= !ks.isEmpty&&ks.all MN
theorem zV (w:zU ks=true)(d:xb H a ks xs):∃es ep,H a=some (DN a ep es)/\(∀e∈es,tK H e.1 e.2.1)/\ks=es.map (λp=>.tup p.1)/\xs=es.map (·.2.2):=by
 unfold zU at w;rw[W2] at w;rcases d with⟨aL,h,rfl,rfl⟩|⟨es,n,h,e1,e2⟩
 ·exfalso;cases aL with
  |nil=>exact absurd w.1 (by simp)
  |cons p r=>
   have:=w.2;rw[WB,aaN,W2] at this;obtain⟨p1,p2⟩:=p;cases p1<;>cases this.1
 ·obtain⟨ep,q⟩:=h.ne n;exact⟨es,ep,q,h.key,e1,e2⟩
theorem P0 (mu:∀a,A a->Mu (H1 a))(w:zU ks=true)(h:Rp K H1 A (.dct ks us) v):∃a ep es,v=.ref a/\H1 a=some (DN a ep es)/\
  Wk K false A ks (UT a ep es) H1/\Wk K false A us (UU a ep es) H1/\Wk K false A (YL (λk u=>.tup [k,u]) ks us) (Ss a ep es) H1:=by
 unfold Rp at h;obtain⟨a,xs,rfl,na,d,l,z⟩:=h;obtain⟨es,ep,q,kt,e1,e2⟩:=zV w d;subst e1 e2;have le:es.length=us.length:=by rw[z.length,Ww]
 have key:∀(i:Nat) (e:List U×W8×V),es[i]? = some e->Rp K H1 A (.tup e.1) (.ref e.2.1):=λi e he=>FY (kt e (Yg he));have val:∀(i:Nat) (u:U),us[i]? = some u->∃e:List U×W8×V,es[i]? = some e/\Rp K H1 A u e.2.2:=λi u hu=>by
  obtain⟨x,h1,h2⟩:=z.get hu;rw[WQ] at h1;cases he:es[i]? with
  |none=>rw[he] at h1;cases h1
  |some e=>rw[he] at h1;cases h1;exact⟨e,rfl,h2⟩
 refine⟨a,ep,es,rfl,q,⟨?_,λH A' hx ha=>?_⟩,⟨l,λH A' hx ha=>?_⟩,⟨?_,λH A' hx ha=>?_⟩⟩
 ·rw[Ww,le];exact l
 ·rw[hV WA] at hx;have qa:=hx a _ na q;refine⟨λi u hu=>?_,⟨qa,by rw[Ww];exact WK _⟩⟩;rw[WQ] at hu;cases he:es[i]? with
  |none=>rw[he] at hu;cases hu
  |some e=>
   rw[he] at hu;cases hu;refine⟨⟨qa,(WE.mp he).1⟩,λx H' y=>?_⟩;obtain⟨rfl,e',Hu,rfl⟩:=y;rw[he] at Hu;cases Hu;exact⟨aG.refl _,(key i e he).re mu hx ha⟩
 ·rw[hV WA] at hx;have qa:=hx a _ na q;refine⟨λi u hu=>?_,⟨qa,by rw[le];exact WK _⟩⟩;obtain⟨e,he,r⟩:=val i u hu;refine⟨⟨qa,(WE.mp he).1⟩,λx H' y=>?_⟩;obtain⟨rfl,e',Hu,rfl⟩:=y;rw[he] at Hu;cases Hu;exact⟨aG.refl _,r.re mu hx ha⟩
 ·rw[ZO];exact XG (Nat.min_le_right _ _) l
 ·rw[hV WA] at hx;have qa:=hx a _ na q;refine⟨λi u hu=>?_,⟨qa,by rw[ZO,Ww,le,ab5];exact WK _⟩⟩;rw[List.getElem?_zipWith,WQ] at hu;cases hU:us[i]? with
  |none=>rw[hU] at hu;cases h:es[i]? <;> rw[h] at hu<;>cases hu
  |some u0=>
   obtain⟨e,he,r⟩:=val i u0 hU;rw[hU,he] at hu;cases hu;refine⟨⟨qa,(WE.mp he).1⟩,λx H' y=>?_⟩;obtain⟨T,e',rfl,hT,Hu,rfl⟩:=y;rw[he] at Hu;cases Hu;have sm:=cC hT (.tup [.ref e.2.1,e.2.2]);refine⟨sm,?_⟩;unfold Rp;exact⟨T,_,rfl,bg,by have:WC=16777216:=rfl;rw[this];simp,aE.cons (((key i e he).re mu hx ha).same sm) (aE.cons ((r.re mu hx ha).same sm) aE.nil)⟩
noncomputable def V9 (g:Ev->R (U×Ev)):Ev->R (List U×Ev):=λρ=>(g ρ).bind λx=>match x.1 with
 | .dct ks _=>if zU ks=true then .ok (ks,x.2) else .stk
 |_=>.stk
noncomputable def Rl (g:Ev->R (U×Ev)):Ev->R (List U×Ev):=λρ=>(g ρ).bind λx=>match x.1 with
 | .dct ks us=>if zU ks=true then .ok (YL (λk u=>.tup [k,u]) ks us,x.2) else .stk
 |_=>.stk
section
variable {e:YV}{gz cpos:Pos}{b1:Bool}{m1:Md}{g1:Ev->R (U×Ev)}
theorem C4 {f:List U->List U->List U}{J:W8->Nat->List (List U×W8×V)->It}(n1:m1≠.P)(hw:∀{K:WD} {A:W8->Prop} {H1:Hp} {ks us:List U} {v:V},(∀a,A a->Mu (H1 a))->zU ks=true->Rp K H1 A (.dct ks us) v->∃a ep es,v=.ref a/\H1 a=some (DN a ep es)/\Wk K false A (f ks us) (J a ep es) H1){R:It->Hp->Prop}(h:Q9 X.K G b1 false (λρ=>(g1 ρ).bind λx=>match x.1 with
   | .dct ks us=>if zU ks=true then .ok (f ks us,x.2) else .stk
   |_=>.stk) σ H R):T2 J (tD X.K G b1 m1 g1) σ H R:=by
 obtain⟨Z,A,ρ,q,h⟩:=h;dsimp only at h;refine⟨Z,A,ρ,q,?_⟩;cases e1:g1 ρ with
 |stk=>rw[e1] at h;exact h.elim
 |exc=>rw[e1] at h;exact h.elim
 |ok y=>
  obtain⟨u,ρ1⟩:=y;rw[e1] at h;intro v H1 q1 x1 s1 vm;cases u with
  |dct ks us=>
   dsimp only[L2.R.bind] at h;split at h
   ·rename_i Ul ρ' e2;split at e2
    ·rename_i c;cases e2;obtain⟨a,ep,es,ev,hq,wk⟩:=hw q1.mu c (vm.rp n1);exact⟨a,ep,es,ev,hq,h _ H1 q1 x1 s1 wk⟩
    ·cases e2
   ·exact h.elim
  |_=>exact h.elim
theorem xU (h:DE X G e b1 m1 g1)(n1:m1≠.P:=by decide)(m:M0 X e "items" gz cpos:=by exact⟨rfl,rfl,rfl,rfl⟩):DI X G (.Tuple elts kt tp) (.Call (.Attribute e "items" gz) [] [] cpos) b1 false (Rl g1):=⟨(FX h.un m).to λσ H R z=>C4 (f:=λks us=>YL (λk u=>.tup [k,u]) ks us) n1 (λmu w r=>by
 obtain⟨a,ep,es,h1,h2,_,_,h3⟩:=P0 mu w r;exact⟨a,ep,es,h1,h2,h3⟩) z⟩
end
end L2
namespace L2
noncomputable def Gm.un (G:Gm)(i:Nat):Gm:=⟨G.own.set i false,G.io,G.W⟩
theorem jN:(G.un i).is i=false:=by
 unfold Gm.un Gm.is;dsimp only;rw[Yf,List.getElem?_set];split
 ·split<;>rfl
 ·rename_i h;exact absurd rfl h
theorem kD (h:i≠j):(G.un i).is j=G.is j:=by
 unfold Gm.un Gm.is;dsimp only;rw[Yf,Yf,Xq h]
section
variable {A':W8->Prop}{ρ':Ev}
theorem cz.un (r:cz K G Z A ρ σ H)(hi:G.io=true->i≠0):∃A',cz K (G.un i) Z A' ρ σ H:=by
 have io0:∀h:(G.un i).io=true,σ[0]? = some (some (.ref Z.a0))/\(G.un i).is 0=true:=λh=>by
  obtain⟨a,b⟩:=r.io0 h;exact⟨a,by rw[kD (hi h)];exact b⟩
 by_cases c:G.is i=true/\∃u,ρ[i]? = some (some u)
 ·obtain⟨c,u,hu⟩:=c;obtain⟨a,h1,h2,h3,h4,h5⟩:=r.own c hu;have na:¬Z.A0 a:=by
   rcases h4 with h4|⟨h4,h6⟩
   ·exact h4
   ·exact absurd h6 (hi h4)
  have sub:∀b,(A b/\b≠a)->A b:=λb z=>z.1;refine⟨λb=>A b/\b≠a,?_⟩;exact {
   slot:=λj w hj=>by
    obtain⟨v,s1,s2⟩:=r.slot j w hj;refine⟨v,s1,?_⟩;by_cases e:i=j
    ·subst e;rw[hu] at hj;cases hj;rw[h1] at s1;cases s1;rw[hV (by rw[jN];exact WA)];exact h5.rp sub λz=>z.2 rfl
    ·rw[kD e];by_cases cj:G.is j=true
     ·rw[hZ cj] at s2 ⊢;obtain⟨b,e1,e2,e3,e4,e5⟩:=s2;refine⟨b,e1,⟨e2,λz=>?_⟩,e3,e4,e5.mono sub⟩;subst z e1;exact r.dis i j u w b c cj e hu hj h1 s1
     ·rw[hV cj] at s2 ⊢;exact s2.mono sub
   dis:=λj k w w' b cj ck ne hj hk sj sk=>by
    have e1:i≠j:=λz=>by subst z;rw[jN] at cj;cases cj
    have e2:i≠k:=λz=>by subst z;rw[jN] at ck;cases ck
    rw[kD e1] at cj;rw[kD e2] at ck;exact r.dis j k w w' b cj ck ne hj hk sj sk
   mu:=λb z=>r.mu b z.1
   sup:=λb z=>⟨r.sup b z,λe=>na (e▸z)⟩
   out:=λb z=>r.out b z.1
   bas:=r.bas
   io0:=io0
   len:=r.len}
 ·refine⟨A,?_⟩;exact {
   slot:=λj w hj=>by
    obtain⟨v,s1,s2⟩:=r.slot j w hj;refine⟨v,s1,?_⟩;by_cases e:i=j
    ·subst e;rw[hV (by rw[jN];exact WA)];rw[hV (λz=>c ⟨z,w,hj⟩)] at s2;exact s2
    ·rw[kD e];exact s2
   dis:=λj k w w' b cj ck ne hj hk sj sk=>by
    have e1:i≠j:=λz=>by subst z;rw[jN] at cj;cases cj
    have e2:i≠k:=λz=>by subst z;rw[jN] at ck;cases ck
    rw[kD e1] at cj;rw[kD e2] at ck;exact r.dis j k w w' b cj ck ne hj hk sj sk
   mu:=r.mu
   sup:=r.sup
   out:=r.out
   bas:=r.bas
   io0:=io0
   len:=r.len}
theorem cz.reun (r:cz K (G.un i) Z A ρ σ H):cz K G Z A (ρ.set i none) σ H where
 slot:=λj w hj=>by
  rcases cG hj with⟨rfl,e⟩|⟨ne,e⟩
  ·cases e
  ·obtain⟨v,s1,s2⟩:=r.slot j w e;rw[kD ne] at s2;exact⟨v,s1,s2⟩
 dis:=λj k w w' a cj ck ne hj hk sj sk=>by
  rcases cG hj with⟨rfl,e⟩|⟨n1,e1⟩
  ·cases e
  ·rcases cG hk with⟨rfl,e⟩|⟨n2,e2⟩
   ·cases e
   ·exact r.dis j k w w' a (by rw[kD n1];exact cj) (by rw[kD n2];exact ck) ne e1 e2 sj sk
 mu:=r.mu
 sup:=r.sup
 out:=r.out
 bas:=r.bas
 io0:=λh=>by
  obtain⟨a,b⟩:=r.io0 h;refine⟨a,?_⟩;by_cases e:i=0
  ·subst e;rw[jN] at b;cases b
  ·rw[kD e] at b;exact b
 len:=by rw[Yl];exact r.len
end
noncomputable def n0 (i:Nat)(g:Ev->SR):Ev->SR:=λρ=>match g ρ with
 | .nx ρ'=>.nx (ρ'.set i none)
 | .bk ρ'=>.bk (ρ'.set i none)
 | .ct ρ'=>.ct (ρ'.set i none)
 | .rt u ρ'=>.rt u (ρ'.set i none)
 |r=>r
section
variable {e:YV}{sts:List abx}{m m1:Md}{g:Ev->SR}{g1:Ev->R (U×Ev)}{h1:Ev->R (Bool×Ev)}
theorem FZ (hi:G.io=true->i≠0){D:pG}(h:NY X.K G m (n0 i g) D σ H):NY X.K (G.un i) m g D σ H:=by
 obtain⟨Z,A,ρ,q,f⟩:=h;obtain⟨A',q'⟩:=q.un hi;refine⟨Z,A',ρ,q',?_⟩;unfold n0 at f;cases e:g ρ with
 |nx=>rw[e] at f;exact λA2 σ2 H2 q2=>f A2 σ2 H2 q2.reun
 |bk=>rw[e] at f;exact λA2 σ2 H2 q2=>f A2 σ2 H2 q2.reun
 |ct=>rw[e] at f;exact λA2 σ2 H2 q2=>f A2 σ2 H2 q2.reun
 |rt=>rw[e] at f;exact λA2 σ2 H2 v q2 vm=>f A2 σ2 H2 v q2.reun vm
 |exc=>rw[e] at f;exact f
 |stk=>rw[e] at f;exact f.elim
theorem jO (i:Nat)(h:AM X (G.un i) m sts g)(hi:G.io=true->i≠0:=by decide):AM X G m sts (n0 i g):=⟨h.un.to λ_ _ _ z=>FZ hi z⟩
end
end L2
namespace Hc.Ts
noncomputable def fO:Bool->Xe->Array Xe->Nat->Nat->Nat->StateT Xb Sem (Option Nat):=sortPriv% PySem.Builtin.gallop
noncomputable def gN (left:Bool)(key:Xe)(arr:Array Xe)(base i:Nat):StateT Xb Sem (Option Bool):=do
 let x ←ach arr (base+i)
 if left then lt' x key else return (←lt' key x).map (!·)
theorem zW (left:Bool)(key:Xe)(arr:Array Xe)(base n hint:Nat):fO left key arr base n hint=(do
 let mut lastofs:=0
 let mut ofs:=1
 let mut lo:=0
 let mut hi:=0
 let some right ←gN left key arr base hint|return none
 if right then
  let maxofs:=n-hint
  for _ in [0:n] do
   if ofs≥maxofs then break
   let some more ←gN left key arr base (hint+ofs)|return none
   if !more then break
   lastofs:=ofs
   ofs:=2*ofs+1
  lo:=hint+lastofs+1
  hi:=hint+min ofs maxofs
 else
  let maxofs:=hint+1
  for _ in [0:n] do
   if ofs≥maxofs then break
   let some found ←gN left key arr base (hint-ofs)|return none
   if found then break
   lastofs:=ofs
   ofs:=2*ofs+1
  lo:=hint+1-min ofs maxofs
  hi:=hint-lastofs
 for _ in [0:n] do
  if lo≥hi then break
  let m:=lo+(hi-lo) / 2
  let some more ←gN left key arr base m|return none
  if more then lo:=m+1 else hi:=m
 return some hi):=rfl
section
variable {A:XD}
noncomputable def IY (left:Bool)(key:Xe)(arr:Array Xe)(base n Vt Tn:Nat):StateT Xb Sem (Option Nat):=do
 let mut lo:=Vt
 let mut hi:=Tn
 for _ in [0:n] do
  if lo≥hi then break
  let m:=lo+(hi-lo) / 2
  let some more ←gN left key arr base m|return none
  if more then lo:=m+1 else hi:=m
 return some hi
theorem BA {left:Bool}{key:Xe}{lo hi:Nat}{st:Xb}{Q:Option Nat->Xb->Prop}(b:Nat->Bool)(hb:∀i,i<n->∀Q:Option Bool->Xb->Prop,Q (some (b i)) st->wpS M A E s (gN left key arr base i) Q st)(mono:∀i j,i<=j->j<n->b j=true->b i=true)(h1:lo<=hi)(h2:hi<=n)(hl:∀i,i<lo->b i=true)(hr:∀i,hi<=i->i<n->b i=false)(h:∀k,k<=n->(∀i,i<k->b i=true)->(∀i,k<=i->i<n->b i=false)->Q (some k) st):wpS M A E s (IY left key arr base n lo hi) Q st:=by
 unfold IY;refine WV (Zm (Yc (I:=λx c aF=>aF=st/\∃l r,c=(none,l,r)/\l<=r/\r<=n/\r-l<=n-x/\(∀i,i<l->b i=true)/\∀i,r<=i->i<n->b i=false)
  (Q:=λc aF=>aF=st/\∃k,c=(none,k,k)/\k<=n/\(∀i,i<k->b i=true)/\∀i,k<=i->i<n->b i=false) ?step ?fin ⟨rfl,lo,hi,rfl,h1,h2,by lia,hl,hr⟩) ?post)
 case fin=>
  rintro c aF ⟨rfl,l,r,rfl,a1,a2,a3,a4,a5⟩;have:l=r:=by lia
  subst this;exact⟨rfl,l,rfl,a2,a4,a5⟩
 case step=>
  rintro x c aF _ hx ⟨rfl,l,r,rfl,a1,a2,a3,a4,a5⟩;dsimp only;by_cases c:l≥r
  ·rw[hZ c];have:l=r:=by lia
   subst this;exact W5 ⟨rfl,l,rfl,a2,a4,a5⟩
  ·rw[hV c];refine WV (hb _ (by lia) _ ?_);dsimp only;cases e:b (l+(r-l) / 2) with
   |true=>
    rw[hZ rfl];exact W5 ⟨rfl,_,r,rfl,by lia,a2,by lia,λi hi=>mono i _ (by lia) (by lia) e,a5⟩
   |false=>
    rw[hV WA];refine W5 ⟨rfl,l,_,rfl,by lia,by lia,by lia,a4,λi h1 h2=>?_⟩;cases e2:b i with
    |false=>rfl
    |true=>rw[mono _ i h1 h2 e2] at e;cases e
 case post=>
  rintro c aF ⟨rfl,k,rfl,a1,a2,a3⟩;exact W5 (h k a1 a2 a3)
theorem uT {left:Bool}{key:Xe}{hint:Nat}{st:Xb}{Q:Option Nat->Xb->Prop}(b:Nat->Bool)(hb:∀i,i<n->∀Q:Option Bool->Xb->Prop,Q (some (b i)) st->wpS M A E s (gN left key arr base i) Q st)(mono:∀i j,i<=j->j<n->b j=true->b i=true)(hh:hint<n)(h:∀k,k<=n->(∀i,i<k->b i=true)->(∀i,k<=i->i<n->b i=false)->Q (some k) st):wpS M A E s (fO left key arr base n hint) Q st:=by
 have UC:∀i j,i<=j->j<n->b i=false->b j=false:=λi j h1 h2 e=>by
  cases e2:b j with
  |false=>rfl
  |true=>rw[mono i j h1 h2 e2] at e;cases e
 rw[zW];refine WV (hb hint hh _ ?_);dsimp only;cases e0:b hint with
 |true=>
  rw[hZ rfl];refine WV (Zm (Yc (I:=λx c aF=>aF=st/\∃l o,c=(none,l,o)/\l<o/\x+1<=o/\hint+l<n/\b (hint+l)=true)
   (Q:=λc aF=>aF=st/\∃l o,c=(none,l,o)/\l<o/\hint+l<n/\b (hint+l)=true/\(o≥n-hint\/b (hint+o)=false)) ?step ?fin ⟨rfl,0,1,rfl,by lia,by lia,hh,e0⟩) ?post)
  case fin=>
   rintro c aF ⟨rfl,l,o,rfl,a1,a2,a3,a4⟩;exact⟨rfl,l,o,rfl,a1,a3,a4,.inl (by lia)⟩
  case step=>
   rintro x c aF _ hx ⟨rfl,l,o,rfl,a1,a2,a3,a4⟩;dsimp only;by_cases c:o≥n-hint
   ·rw[hZ c];exact W5 ⟨rfl,l,o,rfl,a1,a3,a4,.inl c⟩
   ·rw[hV c];refine WV (hb _ (by lia) _ ?_);dsimp only;cases e:b (hint+o) with
    |true=>
     rw[hV (by decide)];exact W5 ⟨rfl,o,_,rfl,by lia,by lia,by lia,e⟩
    |false=>
     rw[hZ (by decide)];exact W5 ⟨rfl,l,o,rfl,a1,a3,a4,.inr e⟩
  case post=>
   rintro c aF ⟨rfl,l,o,rfl,a1,a3,a4,a5⟩;show wpS _ _ _ _ (IY left key arr base n (hint+l+1) (hint+min o (n-hint))) _ _;refine BA b hb mono (by lia) (by lia) (λi hi=>mono i _ (by lia) a3 a4) (λi h1 h2=>?_) h;rcases a5 with a5|a5
   ·lia
   ·by_cases c:o<=n-hint
    ·rw[Yo c] at h1;exact UC _ i h1 h2 a5
    ·lia
 |false=>
  rw[hV WA];refine WV (Zm (Yc (I:=λx c aF=>aF=st/\∃l o,c=(none,l,o)/\l<o/\x+1<=o/\l<=hint/\b (hint-l)=false)
   (Q:=λc aF=>aF=st/\∃l o,c=(none,l,o)/\l<o/\l<=hint/\b (hint-l)=false/\(o≥hint+1\/b (hint-o)=true)) ?step ?fin ⟨rfl,0,1,rfl,by lia,by lia,by lia,e0⟩) ?post)
  case fin=>
   rintro c aF ⟨rfl,l,o,rfl,a1,a2,a3,a4⟩;exact⟨rfl,l,o,rfl,a1,a3,a4,.inl (by lia)⟩
  case step=>
   rintro x c aF _ hx ⟨rfl,l,o,rfl,a1,a2,a3,a4⟩;dsimp only;by_cases c:o≥hint+1
   ·rw[hZ c];exact W5 ⟨rfl,l,o,rfl,a1,a3,a4,.inl c⟩
   ·rw[hV c];refine WV (hb _ (by lia) _ ?_);dsimp only;cases e:b (hint-o) with
    |true=>
     rw[hZ rfl];exact W5 ⟨rfl,l,o,rfl,a1,a3,a4,.inr e⟩
    |false=>
     rw[hV WA];exact W5 ⟨rfl,o,_,rfl,by lia,by lia,by lia,e⟩
  case post=>
   rintro c aF ⟨rfl,l,o,rfl,a1,a3,a4,a5⟩;show wpS _ _ _ _ (IY left key arr base n (hint+1-min o (hint+1)) (hint-l)) _ _;refine BA b hb mono (by lia) (by lia) (λi hi=>?_) (λi h1 h2=>UC _ i h1 h2 a4) h;rcases a5 with a5|a5
   ·lia
   ·by_cases c:o<=hint+1
    ·rw[Yo c] at hi;exact mono i _ (by lia) (by lia) a5
    ·lia
end
end Hc.Ts
namespace Hc.Ts
section
variable {O:acA}(key:Xe->O.α)
def iL (l:List Xe):Prop:=l.Pairwise λx y=>O.kle (key x) (key y)
structure MI (T o ra rb:List Xe):Prop where
 perm:(o++(ra++rb)).Perm T
 so:iL key o
 sa:iL key ra
 sb:iL key rb
 oa:∀x∈o,∀y∈ra,O.kle (key x) (key y)
 ob:∀x∈o,∀y∈rb,O.kle (key x) (key y)
structure MH (T ra rb o:List Xe):Prop where
 perm:((ra++rb)++o).Perm T
 so:iL key o
 sa:iL key ra
 sb:iL key rb
 oa:∀x∈ra,∀y∈o,O.kle (key x) (key y)
 ob:∀x∈rb,∀y∈o,O.kle (key x) (key y)
variable {key}
theorem bo {r:List Xe}:iL key (l++r)↔iL key l/\iL key r/\∀x∈l,∀y∈r,O.kle (key x) (key y):=List.pairwise_append
theorem MI.stepA {x:List Xe}(h:MI key T o (x++ra) rb)(hx:∀a∈x,∀b∈rb,O.kle (key a) (key b)):MI key T (o++x) ra rb:=by
 obtain⟨s1,s2,s3⟩:=bo.mp h.sa;refine⟨?_,bo.mpr ⟨h.so,s1,λa ha b hb=>h.oa a ha b (YF _ hb)⟩,s2,h.sb,λa ha b hb=>?_,λa ha b hb=>?_⟩
 ·have e:o++x++(ra++rb)=o++(x++ra++rb):=by simp[W9]
  rw[e];exact h.perm
 ·rcases Xa.mp ha with ha|ha
  ·exact h.oa a ha b (Xl _ hb)
  ·exact s3 a ha b hb
 ·rcases Xa.mp ha with ha|ha
  ·exact h.ob a ha b hb
  ·exact hx a ha b hb
theorem MI.stepB {y:List Xe}(h:MI key T o ra (y++rb))(hy:∀b∈y,∀a∈ra,O.kle (key b) (key a)):MI key T (o++y) ra rb:=by
 obtain⟨s1,s2,s3⟩:=bo.mp h.sb;refine⟨?_,bo.mpr ⟨h.so,s1,λa ha b hb=>h.ob a ha b (YF _ hb)⟩,h.sa,s2,λa ha b hb=>?_,λa ha b hb=>?_⟩
 ·refine List.Perm.trans ?_ h.perm;have e:o++y++(ra++rb)=o++((y++ra)++rb):=by simp[W9]
  have e2:o++(ra++(y++rb))=o++((ra++y)++rb):=by simp[W9]
  rw[e,e2];exact XY o (X9 rb XZ)
 ·rcases Xa.mp ha with ha|ha
  ·exact h.oa a ha b hb
  ·exact hy a ha b hb
 ·rcases Xa.mp ha with ha|ha
  ·exact h.ob a ha b (Xl _ hb)
  ·exact s3 a ha b hb
theorem MI.endA (h:MI key T o ra []):(o++ra).Perm T/\iL key (o++ra):=by
 refine⟨?_,bo.mpr ⟨h.so,h.sa,h.oa⟩⟩;have:=h.perm;rw[Xr] at this;exact this
theorem MI.endB (h:MI key T o [] rb):(o++rb).Perm T/\iL key (o++rb):=⟨h.perm,bo.mpr ⟨h.so,h.sb,h.ob⟩⟩
theorem MI.last (h:MI key T o ra rb)(hl:∀b∈rb,∀a∈ra,O.kle (key b) (key a)):(o++(rb++ra)).Perm T/\iL key (o++(rb++ra)):=
 ⟨(XY o XZ).trans h.perm,bo.mpr ⟨h.so,bo.mpr ⟨h.sb,h.sa,hl⟩,λa ha b hb=>by
  rcases Xa.mp hb with hb|hb
  ·exact h.ob a ha b hb
  ·exact h.oa a ha b hb⟩⟩
theorem MH.stepA {x:List Xe}(h:MH key T (ra++x) rb o)(hx:∀b∈rb,∀a∈x,O.kle (key b) (key a)):MH key T ra rb (x++o):=by
 obtain⟨s1,s2,s3⟩:=bo.mp h.sa;refine⟨?_,bo.mpr ⟨s2,h.so,λa ha b hb=>h.oa a (Xl _ ha) b hb⟩,s1,h.sb,λa ha b hb=>?_,λa ha b hb=>?_⟩
 ·refine List.Perm.trans ?_ h.perm;have e:ra++rb++(x++o)=(ra++(rb++x))++o:=by simp[W9]
  have e2:ra++x++rb++o=(ra++(x++rb))++o:=by simp[W9]
  rw[e,e2];exact X9 o (XY ra XZ)
 ·rcases Xa.mp hb with hb|hb
  ·exact s3 a ha b hb
  ·exact h.oa a (YF _ ha) b hb
 ·rcases Xa.mp hb with hb|hb
  ·exact hx a ha b hb
  ·exact h.ob a ha b hb
theorem MH.stepB {y:List Xe}(h:MH key T ra (rb++y) o)(hy:∀a∈ra,∀b∈y,O.kle (key a) (key b)):MH key T ra rb (y++o):=by
 obtain⟨s1,s2,s3⟩:=bo.mp h.sb;refine⟨?_,bo.mpr ⟨s2,h.so,λa ha b hb=>h.ob a (Xl _ ha) b hb⟩,h.sa,s1,λa ha b hb=>?_,λa ha b hb=>?_⟩
 ·have e:ra++rb++(y++o)=ra++(rb++y)++o:=by simp[W9]
  rw[e];exact h.perm
 ·rcases Xa.mp hb with hb|hb
  ·exact hy a ha b hb
  ·exact h.oa a ha b hb
 ·rcases Xa.mp hb with hb|hb
  ·exact s3 a ha b hb
  ·exact h.ob a (YF _ ha) b hb
theorem MH.endB (h:MH key T [] rb o):(rb++o).Perm T/\iL key (rb++o):=⟨h.perm,bo.mpr ⟨h.sb,h.so,h.ob⟩⟩
theorem MH.endA (h:MH key T ra [] o):(ra++o).Perm T/\iL key (ra++o):=by
 refine⟨?_,bo.mpr ⟨h.sa,h.so,h.oa⟩⟩;have:=h.perm;rw[Xr] at this;exact this
theorem MH.first (h:MH key T ra rb o)(hl:∀b∈rb,∀a∈ra,O.kle (key b) (key a)):((rb++ra)++o).Perm T/\iL key ((rb++ra)++o):=
 ⟨(X9 o XZ).trans h.perm,bo.mpr ⟨bo.mpr ⟨h.sb,h.sa,hl⟩,h.so,λa ha b hb=>by
  rcases Xa.mp ha with ha|ha
  ·exact h.ob a ha b hb
  ·exact h.oa a ha b hb⟩⟩
end
structure lR (M:Model)(A:XD)(E:WG->WT->Prop)(s:WT)(O:acA)(key:Xe->O.α)(knd:aaR)(D:Xe->Prop):Prop where
 lt:∀(x y:Xe) (st:Xb) (Q:Option Bool->Xb->Prop),D x->D y->X_ st=knd->Q (some (O.blt (key x) (key y))) st->wpS M A E s (lt' x y) Q st
section
variable {A:XD}{O:acA}{key:Xe->O.α}{knd:aaR}{D:Xe->Prop}
theorem bA {x:Xe}{st:Xb}{Q:Xe->Xb->Prop}(h:arr.toList[i]? = some x)(q:Q x st):wpS M A E s (ach arr i) Q st:=by
 have h:arr[i]? = some x:=by rw[←W4];exact h
 rw[elem'_eq,h];exact W5 q
theorem lT (C:lR M A E s O key knd D){kx:Xe}{hint:Nat}{seg:List Xe}{st:Xb}{Q:Option Nat->Xb->Prop}(NT:∀i x,seg[i]? = some x->arr.toList[base+i]? = some x)(hs:iL key seg)(hD:∀x∈seg,D x)(hk:D kx)(kd:X_ st=knd)(hh:hint<seg.length)(h:∀k,k<=seg.length->(∀x∈seg.take k,O.kle (key x) (key kx))->(∀x∈seg.drop k,O.klt (key kx) (key x))->Q (some k) st):wpS M A E s (fO false kx arr base seg.length hint) Q st:=by
 have at_:∀i,(hi:i<seg.length)->seg[i]? = some seg[i]:=λi hi=>Wx hi;refine uT (λi=> !(match seg[i]? with|some x=>O.blt (key kx) (key x)|none=>false)) (λi hi Q q=>?_) (λi j uh hj e=>?_) hh λk DH h1 h2=>h k DH (λx hx=>?_) λx hx=>?_
 ·rw[at_ i hi] at q;unfold gN;refine WV (bA (NT i _ (at_ i hi)) ?_);rw[hV WA];exact WV (C.lt _ _ st _ hk (hD _ (Xh hi)) kd (W5 q))
 ·have hi:i<seg.length:=by lia
  simp only[at_ i hi,at_ j hj,Bool.not_eq_true'] at e ⊢;by_cases c:i=j
  ·subst c;exact e
  ·have:=Zq.mp hs i j hi hj (by lia);exact Xu this e
 ·obtain⟨i,hi,rfl⟩:=aal.mp hx;rw[W_] at hi;have:=h1 i (by lia);simp only[at_ i (by lia),Bool.not_eq_true'] at this;rw[aba];exact this
 ·obtain⟨i,hi,rfl⟩:=aal.mp hx;rw[XA] at hi;have:=h2 (k+i) (by lia) (by lia);simp only[at_ (k+i) (by lia),Bool.not_eq_false'] at this;rw[List.getElem_drop];exact this
theorem lU (C:lR M A E s O key knd D){kx:Xe}{hint:Nat}{seg:List Xe}{st:Xb}{Q:Option Nat->Xb->Prop}(NT:∀i x,seg[i]? = some x->arr.toList[base+i]? = some x)(hs:iL key seg)(hD:∀x∈seg,D x)(hk:D kx)(kd:X_ st=knd)(hh:hint<seg.length)(h:∀k,k<=seg.length->(∀x∈seg.take k,O.klt (key x) (key kx))->(∀x∈seg.drop k,O.kle (key kx) (key x))->Q (some k) st):wpS M A E s (fO true kx arr base seg.length hint) Q st:=by
 have at_:∀i,(hi:i<seg.length)->seg[i]? = some seg[i]:=λi hi=>Wx hi;refine uT (λi=>match seg[i]? with|some x=>O.blt (key x) (key kx)|none=>false) (λi hi Q q=>?_) (λi j uh hj e=>?_) hh λk DH h1 h2=>h k DH (λx hx=>?_) λx hx=>?_
 ·rw[at_ i hi] at q;unfold gN;refine WV (bA (NT i _ (at_ i hi)) ?_);rw[hZ rfl];exact C.lt _ _ st _ (hD _ (Xh hi)) hk kd q
 ·have hi:i<seg.length:=by lia
  simp only[at_ i hi,at_ j hj] at e ⊢;by_cases c:i=j
  ·subst c;exact e
  ·have:=Zq.mp hs i j hi hj (by lia);exact KeyOrd.klt_of_kle_of_klt this e
 ·obtain⟨i,hi,rfl⟩:=aal.mp hx;rw[W_] at hi;have:=h1 i (by lia);simp only[at_ i (by lia)] at this;rw[aba];exact this
 ·obtain⟨i,hi,rfl⟩:=aal.mp hx;rw[XA] at hi;have:=h2 (k+i) (by lia) (by lia);simp only[at_ (k+i) (by lia)] at this;rw[List.getElem_drop];exact this
end
end Hc.Ts
namespace Hc.Ts
noncomputable abbrev cX (st:Xb)(g:Nat):Xb:=SortSt.mk' (X_ st) (Xz st) (Xt st) g (aau st)
noncomputable def bP (g:Nat):StateT Xb Sem Unit:=modify λs=>cX s g
noncomputable def rX:Array Xe->Array Xe->StateT Xb Sem (Array Xe):=sortPriv% PySem.Builtin.mergeLo
noncomputable abbrev KP:=Option (Array Xe)×Array Xe×Nat×Nat×Nat×Nat×Nat
noncomputable abbrev N3:=Option (Array Xe)×Array Xe×Nat×Nat×Nat×Nat
noncomputable abbrev Rm:=Option (Array Xe)×Array Xe×Nat×Nat×Nat
noncomputable def gq (a b out:Array Xe)(ia ib:Nat):Array Xe:=out++a.extract ia a.size++b.extract ib b.size
noncomputable def lV (a b out:Array Xe)(ia ib:Nat):Array Xe:=out++b.extract ib b.size++a.extract ia a.size
noncomputable def IZ (a b out:Array Xe)(ia ib g k k1:Nat):StateT Xb Sem (ForInStep KP):=do
 let x ←ach a ia
 if (ia+1+1==a.size)=true then pure (.done (some (lV a b (out.push x) (ia+1) ib),out.push x,ia+1,ib,g,k,k1))
 else if (decide (k<7)&&decide (k1<7))=true then pure (.done (none,out.push x,ia+1,ib,g,k,k1))
 else pure (.yield (none,out.push x,ia+1,ib,g,k,k1))
noncomputable def I0 (a b out:Array Xe)(ia ib g k bc:Nat):StateT Xb Sem (ForInStep KP):=do
 let y ←ach b ib
 if (ib+1==b.size)=true then pure (.done (some (gq a b (out.push y) ia (ib+1)),out.push y,ia,ib+1,g,k,bc))
 else do
  let x ←ach a ia
  let some k1 ←fO true x b (ib+1) (b.size-(ib+1)) 0|pure (.done (some (gq a b (out.push y) ia (ib+1)),out.push y,ia,ib+1,g,k,bc))
  if k1>0 then
   if (ib+1+k1==b.size)=true then pure (.done (some (gq a b (out.push y++b.extract (ib+1) (ib+1+k1)) ia (ib+1+k1)),out.push y++b.extract (ib+1) (ib+1+k1),ia,ib+1+k1,g,k,k1))
   else IZ a b (out.push y++b.extract (ib+1) (ib+1+k1)) ia (ib+1+k1) g k k1
  else IZ a b (out.push y) ia (ib+1) g k k1
noncomputable def I_ (a b out:Array Xe)(ia ib g ac bc:Nat):StateT Xb Sem (ForInStep KP):=do
 bP g
 let y ←ach b ib
 let some k ←fO false y a ia (a.size-ia) 0|pure (.done (some (gq a b out ia ib),out,ia,ib,g,ac,bc))
 if k>0 then
  if (ia+k+1==a.size)=true then pure (.done (some (lV a b (out++a.extract ia (ia+k)) (ia+k) ib),out++a.extract ia (ia+k),ia+k,ib,g,k,bc))
  else if (ia+k==a.size)=true then pure (.done (some (gq a b (out++a.extract ia (ia+k)) (ia+k) ib),out++a.extract ia (ia+k),ia+k,ib,g,k,bc))
  else I0 a b (out++a.extract ia (ia+k)) (ia+k) ib g k bc
 else I0 a b out ia ib g k bc
noncomputable def Su (a b:Array Xe)(_:Nat)(c:KP):StateT Xb Sem (ForInStep KP):=
 if c.2.2.2.2.1>1 then I_ a b c.2.1 c.2.2.1 c.2.2.2.1 (c.2.2.2.2.1-1) c.2.2.2.2.2.1 c.2.2.2.2.2.2
 else I_ a b c.2.1 c.2.2.1 c.2.2.2.1 c.2.2.2.2.1 c.2.2.2.2.2.1 c.2.2.2.2.2.2
noncomputable def Sv (a b:Array Xe)(g:Nat)(_:Nat)(c:N3):StateT Xb Sem (ForInStep N3):=do
 let y ←ach b c.2.2.2.1
 let x ←ach a c.2.2.1
 let some bWins ←lt' y x|pure (.done (some (gq a b c.2.1 c.2.2.1 c.2.2.2.1),c.2.1,c.2.2.1,c.2.2.2.1,c.2.2.2.2.1,c.2.2.2.2.2))
 if bWins=true then do
   let y ←ach b c.2.2.2.1
   if (c.2.2.2.1+1==b.size)=true then pure (.done (some (gq a b (c.2.1.push y) c.2.2.1 (c.2.2.2.1+1)),c.2.1.push y,c.2.2.1,c.2.2.2.1+1,0,c.2.2.2.2.2+1))
   else if c.2.2.2.2.2+1≥g then pure (.done (none,c.2.1.push y,c.2.2.1,c.2.2.2.1+1,0,c.2.2.2.2.2+1))
   else pure (.yield (none,c.2.1.push y,c.2.2.1,c.2.2.2.1+1,0,c.2.2.2.2.2+1))
 else do
   let x ←ach a c.2.2.1
   if (c.2.2.1+1+1==a.size)=true then pure (.done (some (lV a b (c.2.1.push x) (c.2.2.1+1) c.2.2.2.1),c.2.1.push x,c.2.2.1+1,c.2.2.2.1,c.2.2.2.2.1+1,0))
   else if c.2.2.2.2.1+1≥g then pure (.done (none,c.2.1.push x,c.2.2.1+1,c.2.2.2.1,c.2.2.2.2.1+1,0))
   else pure (.yield (none,c.2.1.push x,c.2.2.1+1,c.2.2.2.1,c.2.2.2.2.1+1,0))
noncomputable def Sw (a b:Array Xe)(_:Nat)(c:Rm):StateT Xb Sem (ForInStep Rm):=do
 let d ←forIn [0:a.size+b.size] (none,c.2.1,c.2.2.1,c.2.2.2.1,0,0) (Sv a b c.2.2.2.2)
 match d.1 with
 |some r=>pure (.done (some r,d.2.1,d.2.2.1,d.2.2.2.1,c.2.2.2.2))
 |none=>do
  liftM (rule "list.sort.gallop")
  let e ←forIn [0:a.size+b.size] (none,d.2.1,d.2.2.1,d.2.2.2.1,c.2.2.2.2+1,d.2.2.2.2.1,d.2.2.2.2.2) (Su a b)
  match e.1 with
  |some r=>pure (.done (some r,e.2.1,e.2.2.1,e.2.2.2.1,e.2.2.2.2.1))
  |none=>do
   bP (e.2.2.2.2.1+1)
   pure (.yield (none,e.2.1,e.2.2.1,e.2.2.2.1,e.2.2.2.2.1+1))
theorem vO (a b:Array Xe):rX a b=(do
  liftM (rule "list.sort.merge-lo")
  let y ←ach b 0
  if (1==b.size)=true then pure (gq a b #[y] 0 1)
  else if (0+1==a.size)=true then pure (lV a b #[y] 0 1)
  else do
   let st ←get
   let c ←forIn [0:a.size+b.size] ((none,#[y],0,1,aca st):Rm) (Sw a b)
   match c.1 with
   |some r=>pure r
   |none=>liftM (aaw "internal:list.sort.merge-bound")):=by kernel_rfl
section
variable {A:XD}{O:acA}{key:Xe->O.α}{knd:aaR}{D:Xe->Prop}
theorem qw (a:Array Xe)(i:Nat):(a.extract i a.size).toList=a.toList.drop i:=by
 rw[Zw,Zu];exact Yi (by simp)
theorem vP (a:Array Xe)(i k:Nat):(a.extract i (i+k)).toList=(a.toList.drop i).take k:=by
 rw[Zw,Zu,YE]
theorem xV (a b out:Array Xe)(ia ib:Nat):(gq a b out ia ib).toList=out.toList++(a.toList.drop ia++b.toList.drop ib):=by
 unfold gq;rw[XJ,XJ,qw,qw,W9]
theorem F1 (a b out:Array Xe)(ia ib:Nat):(lV a b out ia ib).toList=out.toList++(b.toList.drop ib++a.toList.drop ia):=by
 unfold lV;rw[XJ,XJ,qw,qw,W9]
theorem kX (h:i<l.length):l.drop i=[l[i]]++l.drop (i+1):=X6 h
theorem rY (i k:Nat):l.drop i=(l.drop i).take k++l.drop (i+k):=by rw[←aci,Xs]
def qx (key:Xe->O.α)(T:List Xe)(r:Array Xe):Prop:=r.toList.Perm T/\iL key r.toList
structure LI (key:Xe->O.α)(T:List Xe)(a b out:Array Xe)(ia ib:Nat):Prop where
 ha:ia+1<a.size
 hb:ib<b.size
 mi:MI key T out.toList (a.toList.drop ia) (b.toList.drop ib)
structure LR (key:Xe->O.α)(D:Xe->Prop)(a b:Array Xe):Prop where
 da:∀x∈a.toList,D x
 db:∀x∈b.toList,D x
 last:∀i,i+1=a.size->∀y∈b.toList,∀x,a.toList[i]? = some x->O.kle (key y) (key x)
variable {a b out:Array Xe}{ia ib:Nat}
theorem LR.fin (R:LR key D a b)(h:MI key T out.toList (a.toList.drop ia) (b.toList.drop ib))(e:ia+1=a.size):qx key T (lV a b out ia ib):=by
 unfold qx;rw[F1];refine h.last λy hy x hx=>?_;have hl:ia<a.toList.length:=by rw[WH];lia
 have hn:a.toList.drop (ia+1)=[]:=ZV (by rw[WH];lia);rw[kX hl,hn,Xr,W0] at hx;subst hx;exact R.last ia e y (Y5 hy) _ (Wx hl)
theorem BB (h:MI key T out.toList (a.toList.drop ia) (b.toList.drop ib))(e:ib=b.size):qx key T (gq a b out ia ib):=by
 have hn:b.toList.drop ib=[]:=ZV (by rw[WH];lia);unfold qx;rw[xV];rw[hn] at h ⊢;rw[Xr];exact h.endA
theorem P2 (h:MI key T out.toList (a.toList.drop ia) (b.toList.drop ib))(e:ia=a.size):qx key T (gq a b out ia ib):=by
 have hn:a.toList.drop ia=[]:=ZV (by rw[WH];lia);unfold qx;rw[xV];rw[hn] at h ⊢;rw[YX];exact h.endB
theorem kE (h:iL key (l.drop i))(hl:i<l.length):∀x∈l.drop i,O.kle (key l[i]) (key x):=by
 intro x hx;rw[kX hl] at h hx;rcases Xa.mp hx with hx|hx
 ·rw[W0] at hx;subst hx;exact Yp _
 ·exact (bo.mp h).2.2 _ (by simp) x hx
theorem KQ (h:MI key T out.toList (a.toList.drop ia) (b.toList.drop ib))(hl:ia<a.toList.length)(hx:∀y∈b.toList.drop ib,O.kle (key a.toList[ia]) (key y)):MI key T (out.push a.toList[ia]).toList (a.toList.drop (ia+1)) (b.toList.drop ib):=by
 rw[ZH];rw[kX hl] at h;exact h.stepA λx qB y hy=>by rw[W0] at qB;subst qB;exact hx y hy
theorem F2 (h:MI key T out.toList (a.toList.drop ia) (b.toList.drop ib))(hl:ib<b.toList.length)(hx:∀x∈a.toList.drop ia,O.kle (key b.toList[ib]) (key x)):MI key T (out.push b.toList[ib]).toList (a.toList.drop ia) (b.toList.drop (ib+1)):=by
 rw[ZH];rw[kX hl] at h;exact h.stepB λx qB y hy=>by rw[W0] at qB;subst qB;exact hx y hy
def GE (key:Xe->O.α)(T:List Xe)(a b:Array Xe)(n:Nat)(cq:Xb)(c:KP)(st:Xb):Prop:=
 (∃g,st=cX cq g)/\((∃r,c.1=some r/\qx key T r)\/(c.1=none/\LI key T a b c.2.1 c.2.2.1 c.2.2.2.1/\n<=c.2.2.1+c.2.2.2.1))
def GS (key:Xe->O.α)(T:List Xe)(a b:Array Xe)(n:Nat)(cq:Xb)(r:ForInStep KP)(st:Xb):Prop:=
 match r with
 | .done c=>GE key T a b n cq c st
 | .yield c=>GE key T a b n cq c st/\c.1=none
theorem BC (R:LR key D a b){k1:Nat}{st cq:Xb}(iZ:∃g,st=cX cq g)(h:LI key T a b out ia ib)(hn:n<=ia+ib)(hx:∀(hl:ia<a.toList.length),∀y∈b.toList.drop ib,O.kle (key a.toList[ia]) (key y)) :
  wpS M A E s (IZ a b out ia ib g k k1) (GS key T a b n cq) st:=by
 have hl:ia<a.toList.length:=by have:=h.ha;rw[WH];lia
 have m:=KQ h.mi hl (hx hl);unfold IZ;refine WV (bA (Wx hl) ?_);by_cases c:ia+1+1=a.size
 ·rw[hZ (by simpa using c)];exact W5 ⟨iZ,.inl ⟨_,rfl,R.fin m c⟩⟩
 ·rw[hV (by simpa using c)];have L:LI key T a b (out.push a.toList[ia]) (ia+1) ib:=⟨by have:=h.ha;lia,h.hb,m⟩;by_cases c2:(decide (k<7)&&decide (k1<7))=true
  ·rw[hZ c2];exact W5 ⟨iZ,.inr ⟨rfl,L,by simp only;lia⟩⟩
  ·rw[hV c2];exact W5 ⟨⟨iZ,.inr ⟨rfl,L,by simp only;lia⟩⟩,rfl⟩
theorem BD (C:lR M A E s O key knd D)(R:LR key D a b){st cq:Xb}(iZ:∃g,st=cX cq g)(kd:X_ cq=knd)(h:LI key T a b out ia ib)(hn:n<=ia+ib)(hx:∀(hl:ib<b.toList.length),∀x∈a.toList.drop ia,O.kle (key b.toList[ib]) (key x)) :
  wpS M A E s (I0 a b out ia ib g k bc) (GS key T a b n cq) st:=by
 have l_:ib<b.toList.length:=by have:=h.hb;rw[WH];lia
 have qc:ia<a.toList.length:=by have:=h.ha;rw[WH];lia
 have m:=F2 h.mi l_ (hx l_);have Hg:X_ st=knd:=by obtain⟨g,rfl⟩:=iZ;exact kd
 unfold I0;refine WV (bA (Wx l_) ?_);by_cases c:ib+1=b.size
 ·rw[hZ (by simpa using c)];exact W5 ⟨iZ,.inl ⟨_,rfl,BB m c⟩⟩
 ·rw[hV (by simpa using c)];refine WV (bA (Wx qc) ?_);have c7:b.size-(ib+1)=(b.toList.drop (ib+1)).length:=by rw[XA,WH]
  rw[c7];refine WV (lU C (seg:=b.toList.drop (ib+1)) (λi x e=>by rw[aaP] at e;exact e) m.sb (λx hx=>R.db x (Y5 hx)) (R.da _ (Xh qc)) Hg (by rw[←c7];have:=h.hb;lia) λk1 DH p1 p2=>?_);dsimp only;by_cases c1:k1>0
  ·rw[hZ c1];have m2:MI key T (out.push b.toList[ib]++b.extract (ib+1) (ib+1+k1)).toList (a.toList.drop ia) (b.toList.drop (ib+1+k1)):=by
    rw[XJ,vP];have m':=m;rw[rY (l:=b.toList) (ib+1) k1] at m';exact m'.stepB λy hy x qB=>Xu (XI (p1 y hy)) (kE h.mi.sa qc x qB)
   by_cases c2:ib+1+k1=b.size
   ·rw[hZ (by simpa using c2)];exact W5 ⟨iZ,.inl ⟨_,rfl,BB m2 c2⟩⟩
   ·rw[hV (by simpa using c2)];have:k1<=b.size-(ib+1):=by rw[c7];exact DH
    refine BC R iZ ⟨h.ha,by have:=h.hb;lia,m2⟩ (by lia) λhl y hy=>?_;rw[←aci] at hy;exact p2 y hy
  ·rw[hV c1];have:k1=0:=by lia
   subst this;refine BC R iZ ⟨h.ha,by have:=h.hb;lia,m⟩ (by lia) λhl y hy=>p2 y hy
theorem BE (C:lR M A E s O key knd D)(R:LR key D a b){ac:Nat}{st cq:Xb}(iZ:∃g,st=cX cq g)(kd:X_ cq=knd)(h:LI key T a b out ia ib)(hn:n<=ia+ib) :
  wpS M A E s (I_ a b out ia ib g ac bc) (GS key T a b n cq) st:=by
 have l_:ib<b.toList.length:=by have:=h.hb;rw[WH];lia
 have qc:ia<a.toList.length:=by have:=h.ha;rw[WH];lia
 unfold I_ bP;have yX:∃g',cX st g=cX cq g':=by obtain⟨g0,rfl⟩:=iZ;exact⟨g,rfl⟩
 have Hg:X_ (cX st g)=knd:=by obtain⟨g0,rfl⟩:=iZ;exact kd
 refine WV (aaE ?_);refine WV (bA (Wx l_) ?_);have c7:a.size-ia=(a.toList.drop ia).length:=by rw[XA,WH]
 rw[c7];refine WV (lT C (seg:=a.toList.drop ia) (λi x e=>by rw[aaP] at e;exact e) h.mi.sa (λx hx=>R.da x (Y5 hx)) (R.db _ (Xh l_)) Hg (by rw[←c7];have:=h.ha;lia) λk hk p1 p2=>?_);dsimp only;by_cases c1:k>0
 ·rw[hZ c1];have m2:MI key T (out++a.extract ia (ia+k)).toList (a.toList.drop (ia+k)) (b.toList.drop ib):=by
   rw[XJ,vP];have m':=h.mi;rw[rY (l:=a.toList) ia k] at m';exact m'.stepA λx hx y hy=>Xu (p1 x hx) (kE h.mi.sb l_ y hy)
  by_cases c2:ia+k+1=a.size
  ·rw[hZ (by simpa using c2)];exact W5 ⟨yX,.inl ⟨_,rfl,R.fin m2 c2⟩⟩
  ·rw[hV (by simpa using c2)];by_cases c3:ia+k=a.size
   ·rw[hZ (by simpa using c3)];exact W5 ⟨yX,.inl ⟨_,rfl,P2 m2 c3⟩⟩
   ·rw[hV (by simpa using c3)];have:k<=a.size-ia:=by rw[c7];exact hk
    refine BD C R yX kd ⟨by have:=h.ha;lia,h.hb,m2⟩ (by lia) λhl x hx=>?_;rw[←aci] at hx;exact XI (p2 x hx)
 ·rw[hV c1];have:k=0:=by lia
  subst this;exact BD C R yX kd h hn λhl x hx=>XI (p2 x hx)
theorem MO (C:lR M A E s O key knd D)(R:LR key D a b){c:KP}{st cq:Xb}(iZ:∃g,st=cX cq g)(kd:X_ cq=knd)(h:LI key T a b c.2.1 c.2.2.1 c.2.2.2.1)(hn:n<=c.2.2.1+c.2.2.2.1) :
  wpS M A E s (Su a b i c) (GS key T a b n cq) st:=by
 unfold Su;split
 ·exact BE C R iZ kd h hn
 ·exact BE C R iZ kd h hn
theorem MP (C:lR M A E s O key knd D)(R:LR key D a b){c:N3}{st:Xb}{Q:ForInStep N3->Xb->Prop}(kd:X_ st=knd)(h:LI key T a b c.2.1 c.2.2.1 c.2.2.2.1)(h1:∀d:N3,(∃r,d.1=some r/\qx key T r)\/(d.1=none/\LI key T a b d.2.1 d.2.2.1 d.2.2.2.1/\c.2.2.1+c.2.2.2.1+1=d.2.2.1+d.2.2.2.1)->Q (.done d) st)(h2:∀d:N3,d.1=none->LI key T a b d.2.1 d.2.2.1 d.2.2.2.1->c.2.2.1+c.2.2.2.1+1=d.2.2.1+d.2.2.2.1->Q (.yield d) st) :
  wpS M A E s (Sv a b g i c) Q st:=by
 obtain⟨r0,out,ia,ib,ac,bc⟩:=c;dsimp only at h h1 h2 ⊢;have l_:ib<b.toList.length:=by have:=h.hb;rw[WH];lia
 have qc:ia<a.toList.length:=by have:=h.ha;rw[WH];lia
 unfold Sv;dsimp only;refine WV (bA (Wx l_) ?_);refine WV (bA (Wx qc) ?_);refine WV (C.lt _ _ st _ (R.db _ (Xh l_)) (R.da _ (Xh qc)) kd ?_);dsimp only;cases e:O.blt (key b.toList[ib]) (key a.toList[ia]) with
 |true=>
  rw[hZ rfl];have m:=F2 h.mi l_ λx hx=>Xu (XI e) (kE h.mi.sa qc x hx);refine WV (bA (Wx l_) ?_);by_cases c:ib+1=b.size
  ·rw[hZ (by simpa using c)];exact W5 (h1 _ (.inl ⟨_,rfl,BB m c⟩))
  ·rw[hV (by simpa using c)];have L:LI key T a b (out.push b.toList[ib]) ia (ib+1):=⟨h.ha,by have:=h.hb;lia,m⟩;split
   ·exact W5 (h1 _ (.inr ⟨rfl,L,by simp only;lia⟩))
   ·exact W5 (h2 _ rfl L (by simp only;lia))
 |false=>
  rw[hV WA];have m:=KQ h.mi qc λy hy=>Xu (show O.kle _ _ from e) (kE h.mi.sb l_ y hy);refine WV (bA (Wx qc) ?_);by_cases c:ia+1+1=a.size
  ·rw[hZ (by simpa using c)];exact W5 (h1 _ (.inl ⟨_,rfl,R.fin m c⟩))
  ·rw[hV (by simpa using c)];have L:LI key T a b (out.push a.toList[ia]) (ia+1) ib:=⟨by have:=h.ha;lia,h.hb,m⟩;split
   ·exact W5 (h1 _ (.inr ⟨rfl,L,by simp only;lia⟩))
   ·exact W5 (h2 _ rfl L (by simp only;lia))
theorem MQ (C:lR M A E s O key knd D)(R:LR key D a b){c:Rm}{st cq:Xb}(iZ:∃g,st=cX cq g)(kd:X_ cq=knd)(h:LI key T a b c.2.1 c.2.2.1 c.2.2.2.1) :
  wpS M A E s (Sw a b i c) (λr aF=>(∃g,aF=cX cq g)/\match r with
   | .done d=>∃r,d.1=some r/\qx key T r
   | .yield d=>d.1=none/\LI key T a b d.2.1 d.2.2.1 d.2.2.2.1/\c.2.2.1+c.2.2.2.1+1<=d.2.2.1+d.2.2.2.1) st:=by
 obtain⟨r0,out,ia,ib,g0⟩:=c;dsimp only at h ⊢;have Hg:X_ st=knd:=by obtain⟨g,rfl⟩:=iZ;exact kd
 unfold Sw;dsimp only;have hs:1<=a.size+b.size:=by have:=h.hb;lia
 refine WV (Zm (Yc (I:=λx d aF=>aF=st/\d.1=none/\LI key T a b d.2.1 d.2.2.1 d.2.2.2.1/\ia+ib+x=d.2.2.1+d.2.2.2.1)
  (Q:=λd aF=>aF=st/\((∃r,d.1=some r/\qx key T r)\/(d.1=none/\LI key T a b d.2.1 d.2.2.1 d.2.2.2.1/\ia+ib+1<=d.2.2.1+d.2.2.2.1))) ?step ?fin ⟨rfl,rfl,h,by simp only;lia⟩) ?post)
 case fin=>
  rintro d aF ⟨rfl,e1,e2,e3⟩;exact⟨rfl,.inr ⟨e1,e2,by lia⟩⟩
 case step=>
  rintro x d aF _ hx ⟨rfl,e1,e2,e3⟩;refine MP C R Hg e2 (λd' hd=>?_) λd' p1 p2 p3=>?_
  ·rcases hd with hd|⟨p1,p2,p3⟩
   ·exact⟨rfl,.inl hd⟩
   ·exact⟨rfl,.inr ⟨p1,p2,by lia⟩⟩
  ·exact⟨rfl,p1,p2,by lia⟩
 case post=>
  rintro d aF ⟨rfl,hd⟩;obtain⟨dr,dout,dia,dib,dac,dbc⟩:=d;dsimp only at hd ⊢;rcases hd with⟨r,rfl,hr⟩|⟨rfl,hL,hn⟩
  ·exact W5 ⟨iZ,r,rfl,hr⟩
  ·dsimp only;refine WV (wpS_lift (Zz ⟨rfl,?_⟩));refine WV (Zm (Yc (I:=λx d aF=>GE key T a b (ia+ib+1) cq d aF/\d.1=none)
    (Q:=λd aF=>GE key T a b (ia+ib+1) cq d aF) ?_ (λd aF h=>h.1) ⟨⟨iZ,.inr ⟨rfl,hL,hn⟩⟩,rfl⟩) ?_)
   ·rintro x d aF _ hx ⟨⟨hs',hd⟩,e1⟩;rcases hd with⟨r,e2,_⟩|⟨_,e3,e4⟩
    ·rw[e1] at e2;cases e2
    ·refine Zm (MO C R hs' kd e3 e4) λr NU hr=>?_;cases r with
     |done d'=>exact hr
     |yield d'=>exact hr
   ·rintro d aF ⟨hs',hd⟩;obtain⟨er,eout,eia,eib,eg,eac,ebc⟩:=d;dsimp only at hd ⊢;rcases hd with⟨r,rfl,hr⟩|⟨rfl,hL2,Ob⟩
    ·exact W5 ⟨hs',r,rfl,hr⟩
    ·dsimp only;unfold bP;refine WV (aaE (W5 ⟨?_,rfl,hL2,Ob⟩));obtain⟨g,rfl⟩:=hs';exact⟨_,rfl⟩
theorem zX (C:lR M A E s O key knd D)(R:LR key D a b){st:Xb}{Q:Array Xe->Xb->Prop}(kd:X_ st=knd)(sa:iL key a.toList)(sb:iL key b.toList)(ha:0<a.size)(hb:0<b.size)
  (first:∀y,b.toList[0]? = some y->∀x∈a.toList,O.kle (key y) (key x))
  (h:∀r g,r.toList.Perm (a.toList++b.toList)->iL key r.toList->Q r (cX st g)):wpS M A E s (rX a b) Q st:=by
 have l_:0<b.toList.length:=by rw[WH];exact hb
 have m:MI key (a.toList++b.toList) (#[b.toList[0]]:Array Xe).toList (a.toList.drop 0) (b.toList.drop 1):=by
  have m0:MI key (a.toList++b.toList) (#[]:Array Xe).toList (a.toList.drop 0) (b.toList.drop 0):=
   ⟨by simp,List.Pairwise.nil,sa,sb,λx hx=>absurd hx (by simp),λx hx=>absurd hx (by simp)⟩
  exact F2 m0 l_ (λx hx=>first _ (Wx l_) x hx)
 have fin:∀r g,qx key (a.toList++b.toList) r->Q r (cX st g):=λr g hr=>h r g hr.1 hr.2;rw[vO];refine WV (wpS_lift (Zz ⟨rfl,?_⟩));refine WV (bA (Wx l_) ?_);by_cases c:1=b.size
 ·rw[hZ (by simpa using c)];exact W5 (fin _ (aca st) (BB m c))
 ·rw[hV (by simpa using c)];by_cases c2:0+1=a.size
  ·rw[hZ (by simpa using c2)];exact W5 (fin _ (aca st) (R.fin m c2))
  ·rw[hV (by simpa using c2)];refine WV (wpS_get ?_);refine WV (Zm (Yc (I:=λx d aF=>(∃g,aF=cX st g)/\d.1=none/\LI key (a.toList++b.toList) a b d.2.1 d.2.2.1 d.2.2.2.1/\x<=d.2.2.1+d.2.2.2.1)
    (Q:=λd aF=>(∃g,aF=cX st g)/\∃r,d.1=some r/\qx key (a.toList++b.toList) r) ?step ?fin ⟨⟨aca st,rfl⟩,rfl,⟨by simp only;lia,by simp only;lia,m⟩,by simp only;lia⟩) ?post)
   case fin=>
    rintro d aF ⟨hs',e1,e2,e3⟩;have:=e2.ha;have:=e2.hb;lia
   case step=>
    rintro x d aF _ hx ⟨hs',e1,e2,e3⟩;refine Zm (MQ C R hs' kd e2) λr NU hr=>?_;obtain⟨b_,hr⟩:=hr;cases r with
    |done d'=>exact⟨b_,hr⟩
    |yield d'=>exact⟨b_,hr.1,hr.2.1,by have:=hr.2.2;lia⟩
   case post=>
    rintro d aF ⟨⟨g,rfl⟩,r,e,hr⟩;obtain⟨dr,d'⟩:=d;dsimp only at e ⊢;subst e;exact W5 (fin r g hr)
end
end Hc.Ts
namespace Hc.Ts
noncomputable def rZ:Array Xe->Array Xe->StateT Xb Sem (Array Xe):=sortPriv% PySem.Builtin.mergeHi
noncomputable abbrev KR:=Option (Array Xe)×Nat×Nat×Array Xe×Nat×Nat×Nat
noncomputable abbrev N4:=Option (Array Xe)×Nat×Nat×Array Xe×Nat×Nat
noncomputable abbrev Rn:=Option (Array Xe)×Nat×Nat×Array Xe×Nat
noncomputable def gr (a b out:Array Xe)(na nb:Nat):Array Xe:=a.extract 0 na++b.extract 0 nb++out.reverse
noncomputable def jP (a b out:Array Xe)(na nb:Nat):Array Xe:=b.extract 0 nb++a.extract 0 na++out.reverse
noncomputable def Ja (a b out:Array Xe)(na nb g k k1:Nat):StateT Xb Sem (ForInStep KR):=do
 let x ←ach a (na-1)
 if (na-1==0)=true then pure (.done (some (gr a b (out.push x) (na-1) nb),na-1,nb,out.push x,g,k,k1))
 else if (decide (k<7)&&decide (k1<7))=true then pure (.done (none,na-1,nb,out.push x,g,k,k1))
 else pure (.yield (none,na-1,nb,out.push x,g,k,k1))
noncomputable def Jb (a b out:Array Xe)(na nb g k bc:Nat):StateT Xb Sem (ForInStep KR):=do
 let y ←ach b (nb-1)
 if (nb-1==1)=true then pure (.done (some (jP a b (out.push y) na (nb-1)),na,nb-1,out.push y,g,k,bc))
 else do
  let x ←ach a (na-1)
  let some qd ←fO true x b 0 (nb-1) (nb-1-1)|pure (.done (some (gr a b (out.push y) na (nb-1)),na,nb-1,out.push y,g,k,bc))
  if nb-1-qd>0 then
   if (qd==1)=true then pure (.done (some (jP a b (out.push y++(b.extract qd (nb-1)).reverse) na qd),na,qd,out.push y++(b.extract qd (nb-1)).reverse,g,k,nb-1-qd))
   else if (qd==0)=true then pure (.done (some (gr a b (out.push y++(b.extract qd (nb-1)).reverse) na qd),na,qd,out.push y++(b.extract qd (nb-1)).reverse,g,k,nb-1-qd))
   else Ja a b (out.push y++(b.extract qd (nb-1)).reverse) na qd g k (nb-1-qd)
  else Ja a b (out.push y) na (nb-1) g k (nb-1-qd)
noncomputable def Jc (a b out:Array Xe)(na nb g ac bc:Nat):StateT Xb Sem (ForInStep KR):=do
 bP g
 let y ←ach b (nb-1)
 let some vj ←fO false y a 0 na (na-1)|pure (.done (some (gr a b out na nb),na,nb,out,g,ac,bc))
 if na-vj>0 then
  if (vj==0)=true then pure (.done (some (gr a b (out++(a.extract vj na).reverse) vj nb),vj,nb,out++(a.extract vj na).reverse,g,na-vj,bc))
  else Jb a b (out++(a.extract vj na).reverse) vj nb g (na-vj) bc
 else Jb a b out na nb g (na-vj) bc
noncomputable def Sz (a b:Array Xe)(_:Nat)(c:KR):StateT Xb Sem (ForInStep KR):=
 if c.2.2.2.2.1>1 then Jc a b c.2.2.2.1 c.2.1 c.2.2.1 (c.2.2.2.2.1-1) c.2.2.2.2.2.1 c.2.2.2.2.2.2
 else Jc a b c.2.2.2.1 c.2.1 c.2.2.1 c.2.2.2.2.1 c.2.2.2.2.2.1 c.2.2.2.2.2.2
noncomputable def SA (a b:Array Xe)(g:Nat)(_:Nat)(c:N4):StateT Xb Sem (ForInStep N4):=do
 let y ←ach b (c.2.2.1-1)
 let x ←ach a (c.2.1-1)
 let some aWins ←lt' y x|pure (.done (some (gr a b c.2.2.2.1 c.2.1 c.2.2.1),c.2.1,c.2.2.1,c.2.2.2.1,c.2.2.2.2.1,c.2.2.2.2.2))
 if aWins=true then do
  let x ←ach a (c.2.1-1)
  if (c.2.1-1==0)=true then pure (.done (some (gr a b (c.2.2.2.1.push x) (c.2.1-1) c.2.2.1),c.2.1-1,c.2.2.1,c.2.2.2.1.push x,c.2.2.2.2.1+1,0))
  else if c.2.2.2.2.1+1≥g then pure (.done (none,c.2.1-1,c.2.2.1,c.2.2.2.1.push x,c.2.2.2.2.1+1,0))
  else pure (.yield (none,c.2.1-1,c.2.2.1,c.2.2.2.1.push x,c.2.2.2.2.1+1,0))
 else do
  let y ←ach b (c.2.2.1-1)
  if (c.2.2.1-1==1)=true then pure (.done (some (jP a b (c.2.2.2.1.push y) c.2.1 (c.2.2.1-1)),c.2.1,c.2.2.1-1,c.2.2.2.1.push y,0,c.2.2.2.2.2+1))
  else if c.2.2.2.2.2+1≥g then pure (.done (none,c.2.1,c.2.2.1-1,c.2.2.2.1.push y,0,c.2.2.2.2.2+1))
  else pure (.yield (none,c.2.1,c.2.2.1-1,c.2.2.2.1.push y,0,c.2.2.2.2.2+1))
noncomputable def SD (a b:Array Xe)(_:Nat)(c:Rn):StateT Xb Sem (ForInStep Rn):=do
 let d ←forIn [0:a.size+b.size] (none,c.2.1,c.2.2.1,c.2.2.2.1,0,0) (SA a b c.2.2.2.2)
 match d.1 with
 |some r=>pure (.done (some r,d.2.1,d.2.2.1,d.2.2.2.1,c.2.2.2.2))
 |none=>do
  liftM (rule "list.sort.gallop")
  let e ←forIn [0:a.size+b.size] (none,d.2.1,d.2.2.1,d.2.2.2.1,c.2.2.2.2+1,d.2.2.2.2.1,d.2.2.2.2.2) (Sz a b)
  match e.1 with
  |some r=>pure (.done (some r,e.2.1,e.2.2.1,e.2.2.2.1,e.2.2.2.2.1))
  |none=>do
   bP (e.2.2.2.2.1+1)
   pure (.yield (none,e.2.1,e.2.2.1,e.2.2.2.1,e.2.2.2.2.1+1))
theorem vQ (a b:Array Xe):rZ a b=(do
  liftM (rule "list.sort.merge-hi")
  let x ←ach a (a.size-1)
  if (a.size-1==0)=true then pure (gr a b #[x] (a.size-1) b.size)
  else if (b.size==1)=true then pure (jP a b #[x] (a.size-1) b.size)
  else do
   let st ←get
   let c ←forIn [0:a.size+b.size] ((none,a.size-1,b.size,#[x],aca st):Rn) (SD a b)
   match c.1 with
   |some r=>pure r
   |none=>liftM (aaw "internal:list.sort.merge-bound")):=by kernel_rfl
section
variable {A:XD}{O:acA}{key:Xe->O.α}{knd:aaR}{D:Xe->Prop}
theorem vR (a:Array Xe)(n:Nat):(a.extract 0 n).toList=a.toList.take n:=by
 rw[Zw,Zu];rfl
theorem vS (a:Array Xe)(i n:Nat):(a.extract i n).toList=(a.toList.take n).drop i:=by
 rw[Zw,Zu,List.drop_take]
theorem xW (a b out:Array Xe)(na nb:Nat):(gr a b out na nb).toList=(a.toList.take na++b.toList.take nb)++out.toList.reverse:=by
 unfold gr;rw[XJ,XJ,vR,vR,aam]
theorem C5 (a b out:Array Xe)(na nb:Nat):(jP a b out na nb).toList=(b.toList.take nb++a.toList.take na)++out.toList.reverse:=by
 unfold jP;rw[XJ,XJ,vR,vR,aam]
theorem n6 (h0:0<n)(h:n-1<l.length):l.take n=l.take (n-1)++[l[n-1]]:=by
 obtain⟨m,rfl⟩:∃m,n=m+1:=⟨n-1,by lia⟩;simp only[Nat.add_sub_cancel] at h ⊢;exact Xd h
theorem r6 (h:k<=n):l.take n=l.take k++(l.take n).drop k:=by
 conv=>lhs;rw[←Xs k (l.take n)]
 rw[List.take_take,Yo h]
structure HI (key:Xe->O.α)(T:List Xe)(a b out:Array Xe)(na nb:Nat):Prop where
 a0:0<na
 a1:na<=a.size
 b0:1<nb
 b1:nb<=b.size
 mh:MH key T (a.toList.take na) (b.toList.take nb) out.toList.reverse
structure HR (key:Xe->O.α)(D:Xe->Prop)(a b:Array Xe):Prop where
 da:∀x∈a.toList,D x
 db:∀x∈b.toList,D x
 first:∀y,b.toList[0]? = some y->∀x∈a.toList,O.kle (key y) (key x)
variable {a b out:Array Xe}{na nb:Nat}
theorem HR.fin (R:HR key D a b)(h:MH key T (a.toList.take na) (b.toList.take nb) out.toList.reverse)(e:nb=1):qx key T (jP a b out na nb):=by
 unfold qx;rw[C5];refine h.first λy hy x hx=>?_
 subst e;cases hb:b.toList with
 |nil=>rw[hb] at hy;cases hy
 |cons z r=>
  rw[hb] at hy;have:y=z:=by simpa using hy
  subst this;exact R.first y (by rw[hb];rfl) x (XU hx)
theorem vT (h:MH key T (a.toList.take na) (b.toList.take nb) out.toList.reverse)(e:na=0):qx key T (gr a b out na nb):=by
 subst e;unfold qx;rw[xW];rw[List.take_zero] at h ⊢;rw[YX];exact h.endB
theorem MR (h:MH key T (a.toList.take na) (b.toList.take nb) out.toList.reverse)(e:nb=0):qx key T (gr a b out na nb):=by
 subst e;unfold qx;rw[xW];rw[List.take_zero] at h ⊢;rw[Xr];exact h.endA
theorem ig (h:iL key (l.take n))(h0:0<n)(hl:n-1<l.length):∀x∈l.take n,O.kle (key x) (key l[n-1]):=by
 intro x hx;rw[n6 h0 hl] at h hx;rcases Xa.mp hx with hx|hx
 ·exact (bo.mp h).2.2 x hx _ (by simp)
 ·rw[W0] at hx;subst hx;exact Yp _
theorem zY (h:MH key T (a.toList.take na) (b.toList.take nb) out.toList.reverse)(h0:0<na)(hl:na-1<a.toList.length)(hx:∀y∈b.toList.take nb,O.kle (key y) (key a.toList[na-1])):MH key T (a.toList.take (na-1)) (b.toList.take nb) (out.push a.toList[na-1]).toList.reverse:=by
 rw[ZH,aaA];rw[n6 h0 hl] at h;exact h.stepA λy hy x qB=>by rw[W0] at qB;subst qB;exact hx y hy
theorem F3 (h:MH key T (a.toList.take na) (b.toList.take nb) out.toList.reverse)(h0:0<nb)(hl:nb-1<b.toList.length)(hx:∀x∈a.toList.take na,O.kle (key x) (key b.toList[nb-1])):MH key T (a.toList.take na) (b.toList.take (nb-1)) (out.push b.toList[nb-1]).toList.reverse:=by
 rw[ZH,aaA];rw[n6 h0 hl] at h;exact h.stepB λx qB y hy=>by rw[W0] at hy;subst hy;exact hx x qB
def HE (key:Xe->O.α)(T:List Xe)(a b:Array Xe)(n:Nat)(cq:Xb)(c:KR)(st:Xb):Prop:=
 (∃g,st=cX cq g)/\((∃r,c.1=some r/\qx key T r)\/(c.1=none/\HI key T a b c.2.2.2.1 c.2.1 c.2.2.1/\c.2.1+c.2.2.1<=n))
def HS (key:Xe->O.α)(T:List Xe)(a b:Array Xe)(n:Nat)(cq:Xb)(r:ForInStep KR)(st:Xb):Prop:=
 match r with
 | .done c=>HE key T a b n cq c st
 | .yield c=>HE key T a b n cq c st/\c.1=none
theorem BF (R:HR key D a b){k1:Nat}{st cq:Xb}(iZ:∃g,st=cX cq g)(h:HI key T a b out na nb)(hn:na+nb<=n)(hx:∀(hl:na-1<a.toList.length),∀y∈b.toList.take nb,O.kle (key y) (key a.toList[na-1])) :
  wpS M A E s (Ja a b out na nb g k k1) (HS key T a b n cq) st:=by
 have hl:na-1<a.toList.length:=by have:=h.a0;have:=h.a1;rw[WH];lia
 have m:=zY h.mh h.a0 hl (hx hl);unfold Ja;refine WV (bA (Wx hl) ?_);by_cases c:na-1=0
 ·rw[hZ (by simpa using c)];exact W5 ⟨iZ,.inl ⟨_,rfl,vT m c⟩⟩
 ·rw[hV (by simpa using c)];have L:HI key T a b (out.push a.toList[na-1]) (na-1) nb:=⟨by lia,by have:=h.a1;lia,h.b0,h.b1,m⟩;by_cases c2:(decide (k<7)&&decide (k1<7))=true
  ·rw[hZ c2];exact W5 ⟨iZ,.inr ⟨rfl,L,by simp only;lia⟩⟩
  ·rw[hV c2];exact W5 ⟨⟨iZ,.inr ⟨rfl,L,by simp only;lia⟩⟩,rfl⟩
theorem BG (C:lR M A E s O key knd D)(R:HR key D a b){st cq:Xb}(iZ:∃g,st=cX cq g)(kd:X_ cq=knd)(h:HI key T a b out na nb)(hn:na+nb<=n)(hx:∀(hl:nb-1<b.toList.length),∀x∈a.toList.take na,O.kle (key x) (key b.toList[nb-1])) :
  wpS M A E s (Jb a b out na nb g k bc) (HS key T a b n cq) st:=by
 have l_:nb-1<b.toList.length:=by have:=h.b0;have:=h.b1;rw[WH];lia
 have qc:na-1<a.toList.length:=by have:=h.a0;have:=h.a1;rw[WH];lia
 have b0:=h.b0;have b1:=h.b1;have a0:=h.a0;have a1:=h.a1;have m:=F3 h.mh (by lia) l_ (hx l_);have Hg:X_ st=knd:=by obtain⟨g,rfl⟩:=iZ;exact kd
 unfold Jb;refine WV (bA (Wx l_) ?_);by_cases c:nb-1=1
 ·rw[hZ (by simpa using c)];exact W5 ⟨iZ,.inl ⟨_,rfl,R.fin m c⟩⟩
 ·rw[hV (by simpa using c)];refine WV (bA (Wx qc) ?_);have c7:(b.toList.take (nb-1)).length=nb-1:=by rw[W_,WH];lia
  have Hh:=λQ=>lU C (Q:=Q) (kx:=a.toList[na-1]) (arr:=b) (base:=0) (hint:=nb-1-1) (seg:=b.toList.take (nb-1)) (st:=st) (λi x e=>by
   rw[Zj];rw[aaS] at e;split at e
   ·exact e
   ·cases e) m.sb (λx hx=>R.db x (XU hx)) (R.da _ (Xh qc)) Hg (by rw[c7];lia)
  rw[c7] at Hh;refine WV (Hh _ λqd DH p1 p2=>?_);dsimp only;rw[List.take_take,Yo DH] at p1;by_cases c1:nb-1-qd>0
  ·rw[hZ c1];have m2:MH key T (a.toList.take na) (b.toList.take qd) (out.push b.toList[nb-1]++(b.extract qd (nb-1)).reverse).toList.reverse:=by
    rw[XJ,aam,aaA,List.reverse_reverse,vS];have m':=m;rw[r6 (l:=b.toList) (n:=nb-1) (k:=qd) (by lia)] at m';exact m'.stepB λx qB y hy=>Xu (ig h.mh.sa a0 qc x qB) (p2 y hy)
   by_cases c2:qd=1
   ·rw[hZ (by simpa using c2)];exact W5 ⟨iZ,.inl ⟨_,rfl,R.fin m2 c2⟩⟩
   ·rw[hV (by simpa using c2)];by_cases c3:qd=0
    ·rw[hZ (by simpa using c3)];exact W5 ⟨iZ,.inl ⟨_,rfl,MR m2 c3⟩⟩
    ·rw[hV (by simpa using c3)];refine BF R iZ ⟨a0,a1,by lia,by lia,m2⟩ (by lia) λhl y hy=>XI (p1 y hy)
  ·rw[hV c1];have:qd=nb-1:=by lia
   subst this;refine BF R iZ ⟨a0,a1,by lia,by lia,m⟩ (by lia) λhl y hy=>XI (p1 y hy)
theorem BH (C:lR M A E s O key knd D)(R:HR key D a b){ac:Nat}{st cq:Xb}(iZ:∃g,st=cX cq g)(kd:X_ cq=knd)(h:HI key T a b out na nb)(hn:na+nb<=n) :
  wpS M A E s (Jc a b out na nb g ac bc) (HS key T a b n cq) st:=by
 have l_:nb-1<b.toList.length:=by have:=h.b0;have:=h.b1;rw[WH];lia
 have qc:na-1<a.toList.length:=by have:=h.a0;have:=h.a1;rw[WH];lia
 have b0:=h.b0;have b1:=h.b1;have a0:=h.a0;have a1:=h.a1;unfold Jc bP;have yX:∃g',cX st g=cX cq g':=by obtain⟨g0,rfl⟩:=iZ;exact⟨g,rfl⟩
 have Hg:X_ (cX st g)=knd:=by obtain⟨g0,rfl⟩:=iZ;exact kd
 refine WV (aaE ?_);refine WV (bA (Wx l_) ?_);have c7:(a.toList.take na).length=na:=by rw[W_,WH];lia
 have Hh:=λQ=>lT C (Q:=Q) (kx:=b.toList[nb-1]) (arr:=a) (base:=0) (hint:=na-1) (seg:=a.toList.take na) (st:=cX st g) (λi x e=>by
   rw[Zj];rw[aaS] at e;split at e
   ·exact e
   ·cases e) h.mh.sa (λx hx=>R.da x (XU hx)) (R.db _ (Xh l_)) Hg (by rw[c7];lia)
 rw[c7] at Hh;refine WV (Hh _ λvj hk p1 p2=>?_);dsimp only;rw[List.take_take,Yo hk] at p1;by_cases c1:na-vj>0
 ·rw[hZ c1];have m2:MH key T (a.toList.take vj) (b.toList.take nb) (out++(a.extract vj na).reverse).toList.reverse:=by
   rw[XJ,aam,aaA,List.reverse_reverse,vS];have m':=h.mh;rw[r6 (l:=a.toList) (n:=na) (k:=vj) (by lia)] at m';exact m'.stepA λy hy x hx=>Xu (ig h.mh.sb (by lia) l_ y hy) (XI (p2 x hx))
  by_cases c2:vj=0
  ·rw[hZ (by simpa using c2)];exact W5 ⟨yX,.inl ⟨_,rfl,vT m2 c2⟩⟩
  ·rw[hV (by simpa using c2)];exact BG C R yX kd ⟨by lia,by lia,b0,b1,m2⟩ (by lia) λhl x hx=>p1 x hx
 ·rw[hV c1];have:vj=na:=by lia
  subst this;exact BG C R yX kd h hn λhl x hx=>p1 x hx
theorem MS (C:lR M A E s O key knd D)(R:HR key D a b){c:KR}{st cq:Xb}(iZ:∃g,st=cX cq g)(kd:X_ cq=knd)(h:HI key T a b c.2.2.2.1 c.2.1 c.2.2.1)(hn:c.2.1+c.2.2.1<=n) :
  wpS M A E s (Sz a b i c) (HS key T a b n cq) st:=by
 unfold Sz;split
 ·exact BH C R iZ kd h hn
 ·exact BH C R iZ kd h hn
theorem MT (C:lR M A E s O key knd D)(R:HR key D a b){c:N4}{st:Xb}{Q:ForInStep N4->Xb->Prop}(kd:X_ st=knd)(h:HI key T a b c.2.2.2.1 c.2.1 c.2.2.1)(h1:∀d:N4,(∃r,d.1=some r/\qx key T r)\/(d.1=none/\HI key T a b d.2.2.2.1 d.2.1 d.2.2.1/\c.2.1+c.2.2.1=d.2.1+d.2.2.1+1)->Q (.done d) st)(h2:∀d:N4,d.1=none->HI key T a b d.2.2.2.1 d.2.1 d.2.2.1->c.2.1+c.2.2.1=d.2.1+d.2.2.1+1->Q (.yield d) st) :
  wpS M A E s (SA a b g i c) Q st:=by
 obtain⟨r0,na,nb,out,ac,bc⟩:=c;dsimp only at h h1 h2 ⊢;have l_:nb-1<b.toList.length:=by have:=h.b0;have:=h.b1;rw[WH];lia
 have qc:na-1<a.toList.length:=by have:=h.a0;have:=h.a1;rw[WH];lia
 have b0:=h.b0;have b1:=h.b1;have a0:=h.a0;have a1:=h.a1;unfold SA;dsimp only;refine WV (bA (Wx l_) ?_);refine WV (bA (Wx qc) ?_);refine WV (C.lt _ _ st _ (R.db _ (Xh l_)) (R.da _ (Xh qc)) kd ?_);dsimp only;cases e:O.blt (key b.toList[nb-1]) (key a.toList[na-1]) with
 |true=>
  rw[hZ rfl];have m:=zY h.mh a0 qc λy hy=>Xu (ig h.mh.sb (by lia) l_ y hy) (XI e);refine WV (bA (Wx qc) ?_);by_cases c:na-1=0
  ·rw[hZ (by simpa using c)];exact W5 (h1 _ (.inl ⟨_,rfl,vT m c⟩))
  ·rw[hV (by simpa using c)];have L:HI key T a b (out.push a.toList[na-1]) (na-1) nb:=⟨by lia,by lia,b0,b1,m⟩;split
   ·exact W5 (h1 _ (.inr ⟨rfl,L,by simp only;lia⟩))
   ·exact W5 (h2 _ rfl L (by simp only;lia))
 |false=>
  rw[hV WA];have m:=F3 h.mh (by lia) l_ λx hx=>Xu (ig h.mh.sa a0 qc x hx) (show O.kle _ _ from e);refine WV (bA (Wx l_) ?_);by_cases c:nb-1=1
  ·rw[hZ (by simpa using c)];exact W5 (h1 _ (.inl ⟨_,rfl,R.fin m c⟩))
  ·rw[hV (by simpa using c)];have L:HI key T a b (out.push b.toList[nb-1]) na (nb-1):=⟨a0,a1,by lia,by lia,m⟩;split
   ·exact W5 (h1 _ (.inr ⟨rfl,L,by simp only;lia⟩))
   ·exact W5 (h2 _ rfl L (by simp only;lia))
theorem MU (C:lR M A E s O key knd D)(R:HR key D a b){c:Rn}{st cq:Xb}(iZ:∃g,st=cX cq g)(kd:X_ cq=knd)(h:HI key T a b c.2.2.2.1 c.2.1 c.2.2.1) :
  wpS M A E s (SD a b i c) (λr aF=>(∃g,aF=cX cq g)/\match r with
   | .done d=>∃r,d.1=some r/\qx key T r
   | .yield d=>d.1=none/\HI key T a b d.2.2.2.1 d.2.1 d.2.2.1/\d.2.1+d.2.2.1+1<=c.2.1+c.2.2.1) st:=by
 obtain⟨r0,na,nb,out,g0⟩:=c;dsimp only at h ⊢;have Hg:X_ st=knd:=by obtain⟨g,rfl⟩:=iZ;exact kd
 have b0:=h.b0;have b1:=h.b1;have a0:=h.a0;have a1:=h.a1;unfold SD;dsimp only;have hs:1<=a.size+b.size:=by lia
 refine WV (Zm (Yc (I:=λx d aF=>aF=st/\d.1=none/\HI key T a b d.2.2.2.1 d.2.1 d.2.2.1/\na+nb=d.2.1+d.2.2.1+x)
  (Q:=λd aF=>aF=st/\((∃r,d.1=some r/\qx key T r)\/(d.1=none/\HI key T a b d.2.2.2.1 d.2.1 d.2.2.1/\d.2.1+d.2.2.1+1<=na+nb))) ?step ?fin ⟨rfl,rfl,h,by simp only;lia⟩) ?post)
 case fin=>
  rintro d aF ⟨rfl,e1,e2,e3⟩;exact⟨rfl,.inr ⟨e1,e2,by lia⟩⟩
 case step=>
  rintro x d aF _ hx ⟨rfl,e1,e2,e3⟩;refine MT C R Hg e2 (λd' hd=>?_) λd' p1 p2 p3=>?_
  ·rcases hd with hd|⟨p1,p2,p3⟩
   ·exact⟨rfl,.inl hd⟩
   ·exact⟨rfl,.inr ⟨p1,p2,by lia⟩⟩
  ·exact⟨rfl,p1,p2,by lia⟩
 case post=>
  rintro d aF ⟨rfl,hd⟩;obtain⟨dr,dna,dnb,dout,dac,dbc⟩:=d;dsimp only at hd ⊢;rcases hd with⟨r,rfl,hr⟩|⟨rfl,hL,hn⟩
  ·exact W5 ⟨iZ,r,rfl,hr⟩
  ·dsimp only;refine WV (wpS_lift (Zz ⟨rfl,?_⟩));refine WV (Zm (Yc (I:=λx d aF=>HE key T a b (na+nb-1) cq d aF/\d.1=none)
    (Q:=λd aF=>HE key T a b (na+nb-1) cq d aF) ?_ (λd aF h=>h.1) ⟨⟨iZ,.inr ⟨rfl,hL,by simp only;lia⟩⟩,rfl⟩) ?_)
   ·rintro x d aF _ hx ⟨⟨hs',hd⟩,e1⟩;rcases hd with⟨r,e2,_⟩|⟨_,e3,e4⟩
    ·rw[e1] at e2;cases e2
    ·refine Zm (MS C R hs' kd e3 e4) λr NU hr=>?_;cases r with
     |done d'=>exact hr
     |yield d'=>exact hr
   ·rintro d aF ⟨hs',hd⟩;obtain⟨er,ena,enb,eout,eg,eac,ebc⟩:=d;dsimp only at hd ⊢;rcases hd with⟨r,rfl,hr⟩|⟨rfl,hL2,Ob⟩
    ·exact W5 ⟨hs',r,rfl,hr⟩
    ·dsimp only;unfold bP;refine WV (aaE (W5 ⟨?_,rfl,hL2,by simp only;lia⟩));obtain⟨g,rfl⟩:=hs';exact⟨_,rfl⟩
theorem zZ (C:lR M A E s O key knd D)(R:HR key D a b){st:Xb}{Q:Array Xe->Xb->Prop}(kd:X_ st=knd)(sa:iL key a.toList)(sb:iL key b.toList)(ha:0<a.size)(hb:0<b.size)
  (last:∀i,i+1=a.size->∀y∈b.toList,∀x,a.toList[i]? = some x->O.kle (key y) (key x))
  (h:∀r g,r.toList.Perm (a.toList++b.toList)->iL key r.toList->Q r (cX st g)):wpS M A E s (rZ a b) Q st:=by
 have qc:a.size-1<a.toList.length:=by rw[WH];lia
 have ta:a.toList.take a.size=a.toList:=Yi (by simp);have tb:b.toList.take b.size=b.toList:=Yi (by simp);have m:MH key (a.toList++b.toList) (a.toList.take (a.size-1)) (b.toList.take b.size) (#[a.toList[a.size-1]]:Array Xe).toList.reverse:=by
  have m0:MH key (a.toList++b.toList) (a.toList.take a.size) (b.toList.take b.size) (#[]:Array Xe).toList.reverse:=by
   rw[ta,tb];exact⟨by simp,List.Pairwise.nil,sa,sb,λx _ y hy=>absurd hy (by simp),λx _ y hy=>absurd hy (by simp)⟩
  exact zY m0 ha qc (λy hy=>last (a.size-1) (by lia) y (XU hy) _ (Wx qc))
 have fin:∀r g,qx key (a.toList++b.toList) r->Q r (cX st g):=λr g hr=>h r g hr.1 hr.2;rw[vQ];refine WV (wpS_lift (Zz ⟨rfl,?_⟩));refine WV (bA (Wx qc) ?_);by_cases c:a.size-1=0
 ·rw[hZ (by simpa using c)];exact W5 (fin _ (aca st) (vT m c))
 ·rw[hV (by simpa using c)];by_cases c2:b.size=1
  ·rw[hZ (by simpa using c2)];exact W5 (fin _ (aca st) (R.fin m c2))
  ·rw[hV (by simpa using c2)];refine WV (wpS_get ?_);refine WV (Zm (Yc (I:=λx d aF=>(∃g,aF=cX st g)/\d.1=none/\HI key (a.toList++b.toList) a b d.2.2.2.1 d.2.1 d.2.2.1/\d.2.1+d.2.2.1+x<=a.size+b.size)
    (Q:=λd aF=>(∃g,aF=cX st g)/\∃r,d.1=some r/\qx key (a.toList++b.toList) r) ?step ?fin ⟨⟨aca st,rfl⟩,rfl,⟨by simp only;lia,by simp only;lia,by simp only;lia,by simp only;lia,m⟩,by simp only;lia⟩) ?post)
   case fin=>
    rintro d aF ⟨hs',e1,e2,e3⟩;have:=e2.a0;have:=e2.b0;lia
   case step=>
    rintro x d aF _ hx ⟨hs',e1,e2,e3⟩;refine Zm (MU C R hs' kd e2) λr NU hr=>?_;obtain⟨b_,hr⟩:=hr;cases r with
    |done d'=>exact⟨b_,hr⟩
    |yield d'=>exact⟨b_,hr.1,hr.2.1,by have:=hr.2.2;lia⟩
   case post=>
    rintro d aF ⟨⟨g,rfl⟩,r,e,hr⟩;obtain⟨dr,d'⟩:=d;dsimp only at e ⊢;subst e;exact W5 (fin r g hr)
end
end Hc.Ts
namespace Hc.Ts
noncomputable def kY (l:List Xe)(sa:Nat)(a:Array Xe):Array Xe:=l.zipIdx.foldl (λa (p,j)=>a.setIfInBounds (sa+j) p) a
noncomputable def MV (x y:Array Xe)(sa na nb:Nat):StateT Xb Sem Bool:=do
 let merged ←if na<=nb then rX x y else rZ x y
 modify λs=>setArr s (kY merged.toList sa (Xz s))
 let s ←get
 pure (aau s).isNone
theorem xX (i:Nat):mergeAt' i=(do
 let st ←get
 let (some (p,n,pw),some (q,m,_)):=((Xt st)[i]?,(Xt st)[i+1]?)|aaw "internal:list.sort.pending"
 set (setPending st (((Xt st).setIfInBounds i (p,n+m,pw)).eraseIdxIfInBounds (i+1)))
 let some k ←fO false (←ach (Xz st) q) (Xz st) p n 0|return false
 let (p,n):=(p+k,n-k)
 if n==0 then return true
 let some m ←fO true (←ach (Xz st) (p+n-1)) (Xz st) q m (m-1)|return false
 if m==0 then return true
 MV ((Xz st).extract p q) ((Xz st).extract q (q+m)) p n m):=by kernel_rfl
section
variable {A:XD}{O:acA}{key:Xe->O.α}{knd:aaR}{D:Xe->Prop}
theorem r9:∀(l m P S:List Xe) (n sa:Nat) (a:Array Xe),m.length=l.length->sa+n=P.length->a.toList=P++(m++S)->((l.zipIdx n).foldl (λa (p,j)=>a.setIfInBounds (sa+j) p) a).toList=P++(l++S)
 | [],m,P,S,n,sa,a,h1,h2,h3=>by
  have:m=[]:=Yr h1;subst this;exact h3
 |p::l,[],P,S,n,sa,a,h1,h2,h3=>by cases h1
 |p::l,q::m,P,S,n,sa,a,h1,h2,h3=>by
  rw[List.zipIdx_cons,YY];have h4:(a.setIfInBounds (sa+n) p).toList=(P++[p])++(m++S):=by
   rw[abX,h3,h2,aas,List.set_append_right _ _ (WK _),ab8,aaT];simp
  have:=r9 l m (P++[p]) S (n+1) sa (a.setIfInBounds (sa+n) p) (by simpa using h1) (by rw[WI,Ya];lia) h4;rw[this];simp
theorem C6 {m P:List Xe}{sa:Nat}{a:Array Xe}(h1:m.length=l.length)(h2:sa=P.length)(h3:a.toList=P++(m++S)):(kY l sa a).toList=P++(l++S):=
 r9 l m P S 0 sa a h1 (by lia) h3
theorem Jd (C:lR M A E s O key knd D){P x y:List Xe}{sa:Nat}{st:Xb}{Q:Bool->Xb->Prop}{ax ay:Array Xe}{na nb:Nat}(ex:ax.toList=x)(ey:ay.toList=y)(hf:aau st=none)(kd:X_ st=knd)(ha:(Xz st).toList=P++((x++y)++S))(hs:sa=P.length)(dx:∀p∈x,D p)(dy:∀p∈y,D p)(sx:iL key x)(sy:iL key y)(x0:0<x.length)(y0:0<y.length)(first:∀q,y[0]? = some q->∀p∈x,O.kle (key q) (key p))(last:∀i,i+1=x.length->∀q∈y,∀p,x[i]? = some p->O.kle (key q) (key p))(h:∀z g,z.Perm (x++y)->iL key z->Q true (cX (setArr st (P++(z++S)).toArray) g)):wpS M A E s (MV ax ay sa na nb) Q st:=by
 subst ex;subst ey;have fin:∀(r:Array Xe) (g:Nat),r.toList.Perm (ax.toList++ay.toList)->iL key r.toList->wpS M A E s (do
   modify λs=>setArr s (kY r.toList sa (Xz s))
   let s ←get
   pure (aau s).isNone) Q (cX st g):=by
  intro r g hp hr;refine WV (aaE ?_);refine WV (wpS_get (W5 ?_));have e1:kY r.toList sa (Xz st)=(P++(r.toList++S)).toArray:=by
   apply Array.ext';rw[C6 (m:=ax.toList++ay.toList) hp.length_eq.symm hs ha]
  have e2:(aau (setArr (cX st g) (kY r.toList sa (Xz (cX st g))))).isNone=true:=by
   show (aau st).isNone=true;rw[hf];rfl
  rw[e2];have e3:setArr (cX st g) (kY r.toList sa (Xz (cX st g)))=cX (setArr st (P++(r.toList++S)).toArray) g:=by
   rw[←e1]
  rw[e3];exact h r.toList g hp hr
 unfold MV;dsimp only;split
 ·refine WV ?_;exact zX C ⟨dx,dy,λi hi=>last i (by rw[WH];exact hi)⟩ kd sx sy (by simpa using x0) (by simpa using y0) first fin
 ·refine WV ?_;exact zZ C ⟨dx,dy,first⟩ kd sx sy (by simpa using x0) (by simpa using y0) (λi hi=>last i (by rw[WH];exact hi)) fin
theorem Je {σ:Type}{st aF:σ}{Q:PUnit->σ->Prop}(h:Q ⟨⟩ aF):wpS M A E s (set aF:StateT σ Sem PUnit) Q st:=by
 unfold wpS;rw[StateT.run_set];exact Wy ⟨rfl,h⟩
theorem vU {P x R:List Xe}(h:l=P++(x++R))(i:Nat)(p:Xe)(e:x[i]? = some p):l[P.length+i]? = some p:=by
 have hi:i<x.length:=by
  rcases YM i x.length with h|h
  ·exact h
  ·rw[Z6 h] at e;cases e
 rw[h,XN (Yq _ _),YE,X5 hi,e]
noncomputable def uU (p:Array (Nat×Nat×Nat))(i sa n pw:Nat):Array (Nat×Nat×Nat):=(p.setIfInBounds i (sa,n,pw)).eraseIdxIfInBounds (i+1)
theorem z9 (C:lR M A E s O key knd D){P x y:List Xe}{pw pw2:Nat}{st:Xb}{Q:Bool->Xb->Prop}(hf:aau st=none)(kd:X_ st=knd)(ha:(Xz st).toList=P++(x++(y++S)))(h1:(Xt st)[i]? = some (P.length,x.length,pw))(h2:(Xt st)[i+1]? = some (P.length+x.length,y.length,pw2))(dx:∀p∈x,D p)(dy:∀p∈y,D p)(sx:iL key x)(sy:iL key y)(x0:0<x.length)(y0:0<y.length)(h:∀z g,z.Perm (x++y)->iL key z->Q true (cX (setArr (setPending st (uU (Xt st) i P.length (x.length+y.length) pw)) (P++(z++S)).toArray) g)):wpS M A E s (mergeAt' i) Q st:=by
 have all:∀(hz:iL key (x++y)),Q true (setPending st (uU (Xt st) i P.length (x.length+y.length) pw)):=by
  intro hz;have:=h (x++y) (aca st) (Yd _) hz;have e:(P++(x++y++S)).toArray=Xz st:=by
   apply Array.ext';rw[ha,W9]
  rw[e] at this;exact this
 have Oc:(Xz st).toList=(P++x)++(y++S):=by rw[ha,W9]
 rw[xX];refine WV (wpS_get ?_);rw[h1,h2];dsimp only;refine WV (Je ?_);have ey:(Xz st).toList[P.length+x.length]? = some y[0]:=by
  have:=vU Oc 0 y[0] (Wx y0);rw[WI] at this;exact this
 refine WV (bA ey ?_);refine WV (lT C (seg:=x) (λi p e=>vU ha i p e) sx dx (dy _ (Xh y0)) kd x0 λk hk p1 p2=>?_);dsimp only;have yh:∀q∈y,O.kle (key y[0]) (key q):=by
  have:=kE (l:=y) (i:=0) (key:=key) (by simpa using sy) y0;simpa using this
 by_cases c:x.length-k=0
 ·rw[hZ (by simpa using c)];refine W5 (all ?_);have:x.take k=x:=Yi (by lia);rw[this] at p1;exact bo.mpr ⟨sx,sy,λp hp q hq=>Xu (p1 p hp) (yh q hq)⟩
 ·rw[hV (by simpa using c)];have RC:x.length-1<x.length:=by lia
  have Vu:(Xz st).toList[P.length+k+(x.length-k)-1]? = some x[x.length-1]:=by
   have:=vU ha (x.length-1) _ (Wx RC);rw[show P.length+k+(x.length-k)-1=P.length+(x.length-1) by lia];exact this
  refine WV (bA Vu ?_);refine WV (lU C (seg:=y) (λi p e=>by have:=vU Oc i p e;rw[WI] at this;exact this) sy dy (dx _ (Xh RC)) kd (by lia) λnb Vv q1 q2=>?_);dsimp only;have Ln:∀p∈x,O.kle (key p) (key x[x.length-1]):=by
   have:=ig (l:=x) (n:=x.length) (key:=key) (by rw[XR];exact sx) x0 RC;rw[XR] at this;exact this
  by_cases c2:nb=0
  ·rw[hZ (by simpa using c2)];refine W5 (all ?_);subst c2;exact bo.mpr ⟨sx,sy,λp hp q hq=>Xu (Ln p hp) (q2 q hq)⟩
  ·rw[hV (by simpa using c2)];have xs:x=x.take k++x.drop k:=(Xs k x).symm;have ys:y=y.take nb++y.drop nb:=(Xs nb y).symm;obtain⟨sx1,sx2,sx3⟩:=bo.mp (xs▸sx);obtain⟨sy1,sy2,sy3⟩:=bo.mp (ys▸sy);refine Jd C (P:=P++x.take k) (x:=x.drop k) (y:=y.take nb) (S:=y.drop nb++S) ?ex ?ey hf kd ?ha ?hs (λp hp=>dx p (Y5 hp)) (λp hp=>dy p (XU hp)) sx2 sy1 (by rw[XA];lia) (by rw[W_];lia) ?first ?last λz g hz sz=>?_
   case ex=>
    rw[vS,Oc];rw[show P.length+x.length=(P++x).length by rw[WI]];rw[List.take_left,List.drop_append,ZV (by lia),YE];rfl
   case ey=>
    rw[vP,Oc];rw[show P.length+x.length=(P++x).length by rw[WI],List.drop_left,List.take_append_of_le_length Vv]
   case ha=>
    show (Xz st).toList=_;rw[ha]
    conv=>lhs;rw[xs,ys]
    simp only[W9]
   case hs=>rw[WI,W_];lia
   case first=>
    intro q hq p hp;have:(y.take nb)[0]? = y[0]? := by rw[aaS,hZ (by lia)]
    rw[this,Wx y0] at hq;injection hq with hq
    subst hq;exact XI (p2 p hp)
   case last=>
    intro i hi q hq p hp;rw[XA] at hi;rw[aaP,show k+i=x.length-1 by lia,Wx RC] at hp;injection hp with hp
    subst hp;exact XI (q1 q hq)
   have mz:∀r∈z,r∈x.drop k\/r∈y.take nb:=λr hr=>Xa.mp (hz.mem_iff.mp hr);have ke:(x.take k++(z++y.drop nb)).Perm (x++y):=by
    have e:x++y=x.take k++((x.drop k++y.take nb)++y.drop nb):=by
     conv=>lhs;rw[xs,ys]
     simp only[W9]
    rw[e];exact XY _ (X9 _ hz)
   have Vw:iL key (x.take k++(z++y.drop nb)):=by
    refine bo.mpr ⟨sx1,bo.mpr ⟨sz,sy2,λp hp q hq=>?_⟩,λp hp q hq=>?_⟩
    ·rcases mz p hp with hp|hp
     ·exact Xu (Ln p (Y5 hp)) (q2 q hq)
     ·exact sy3 p hp q hq
    ·rcases Xa.mp hq with hq|hq
     ·rcases mz q hq with hq|hq
      ·exact sx3 p hp q hq
      ·exact Xu (p1 p hp) (yh q (XU hq))
     ·exact Xu (p1 p hp) (yh q (Y5 hq))
   have:=h _ g ke Vw;have e:P++(x.take k++(z++y.drop nb)++S)=P++x.take k++(z++(y.drop nb++S)):=by simp only[W9]
   rw[e] at this;exact this
end
end Hc.Ts
namespace Hc.Ts
noncomputable def BI (lo n m:Nat):StateT Xb Sem AscSt:=forIn [n:m] ((none,n):AscSt) λ_ c=>do
 let some sm ←ltAt' (lo+c.2) (lo+c.2-1)|pure (.done (some none,c.2))
 if sm=true then pure (.done (none,c.2)) else pure (.yield (none,c.2+1))
noncomputable def BJ (lo n m:Nat):StateT Xb Sem (Option Nat):=do
 abC lo (lo+n)
 let c ←BI lo n m
 match c.1 with
 |some r=>pure r
 |none=>pure (some c.2)
noncomputable def KS (lo:Nat)(c:DescSt):StateT Xb Sem (ForInStep DescSt):=do
 let some sm ←ltAt' (lo+c.2.1) (lo+c.2.1-1)|pure (.done (some none,c.2.1,c.2.2))
 if sm=true then
  if c.2.2>0 then do
   abC (lo+c.2.1-(c.2.2+1)) (lo+c.2.1)
   pure (.yield (none,c.2.1+1,0))
  else pure (.yield (none,c.2.1+1,0))
 else do
  let some lg ←ltAt' (lo+c.2.1-1) (lo+c.2.1)|pure (.done (some none,c.2.1,c.2.2))
  if lg=true then pure (.done (none,c.2.1,c.2.2)) else pure (.yield (none,c.2.1+1,c.2.2+1))
noncomputable def F4 (lo n m:Nat):StateT Xb Sem DescSt:=forIn [n:m] ((none,n,0):DescSt) λ_ c=>KS lo c
noncomputable def BK (lo n m:Nat):StateT Xb Sem (Option Nat):=do
 liftM (rule "list.sort.descending-run")
 let c ←F4 lo (n+1) m
 match c.1 with
 |some r=>pure r
 |none=>
  if c.2.2>0 then do
   abC (lo+c.2.1-(c.2.2+1)) (lo+c.2.1)
   BJ lo c.2.1 m
  else BJ lo c.2.1 m
theorem xY (lo m:Nat):countRun' lo m=(do
  let c ←BI lo 1 m
  match c.1 with
  |some r=>pure r
  |none=>
   if (c.2==m)=true then pure (some c.2)
   else if c.2>1 then do
    let some rs ←ltAt' lo (lo+c.2-1)|pure none
    if rs=true then pure (some c.2)
    else do
     abC lo (lo+c.2)
     BK lo c.2 m
   else BK lo c.2 m):=by kernel_rfl
section
variable {A:XD}{O:acA}{key:Xe->O.α}{knd:aaR}{D:Xe->Prop}{lo:Nat}{a0:Array Xe}{cq:Xb}
noncomputable def kx (key:Xe->O.α)(l:Array Xe)(i:Nat):O.α:=key ((l[i]?).getD (Value.none,Value.none))
theorem xZ {l m:Array Xe}(h:l[i]? = m[j]?):kx key l i=kx key m j:=by unfold kx;rw[h]
theorem z_ {l:Array Xe}(hm:lo+m<=l.size)(k:Nat):kx key (mirror l (lo+n) (lo+m) ((lo+m-(lo+n)) / 2)) (lo+k)=if n<=k/\k<m then kx key l (lo+(n+m-1-k)) else kx key l (lo+k):=by
 have e:=getElem?_mirror_all (i:=lo+n) hm (lo+k);by_cases c:n<=k/\k<m
 ·rw[hZ (by lia)] at e;rw[hZ c];exact xZ (e.trans (by congr 1;lia))
 ·rw[hV (by lia)] at e;rw[hV c];exact xZ e
theorem fY {l:Array Xe}(hm:lo+m<=l.size)(he:∀k,n<=k->k<m->kx key l (lo+k)=kx key l (lo+m-1))(k:Nat):kx key (mirror l (lo+n) (lo+m) ((lo+m-(lo+n)) / 2)) (lo+k)=kx key l (lo+k):=by
 rw[z_ hm];split
 ·rename_i c;rw[he _ (by lia) (by lia),he k c.1 c.2]
 ·rfl
theorem F5 {l:Array Xe}{p d:Nat}(hp:lo+p<l.size)(hd:d<=p)(k:Nat):kx key (bubble l (lo+p) d) (lo+k)=if k=p-d then kx key l (lo+p) else if p-d<k/\k<=p then kx key l (lo+(k-1)) else kx key l (lo+k):=by
 have e:=getElem?_bubble hp d (by lia) (lo+k);by_cases c:k=p-d
 ·rw[hZ (by lia)] at e;rw[hZ c];exact xZ e
 ·rw[hV (by lia)] at e;rw[hV c];by_cases c2:p-d<k/\k<=p
  ·rw[hZ (by lia)] at e;rw[hZ c2];exact xZ (e.trans (by congr 1;lia))
  ·rw[hV (by lia)] at e;rw[hV c2];exact xZ e
def DB (key:Xe->O.α)(lo:Nat)(l:Array Xe)(n:Nat):Prop:=∀i j,i<=j->j<n->O.kle (kx key l (lo+i)) (kx key l (lo+j))
def N5 (key:Xe->O.α)(lo:Nat)(l:Array Xe)(n:Nat):Prop:=∀i j,i<=j->j<n->O.kle (kx key l (lo+j)) (kx key l (lo+i))
structure SB (lo:Nat)(a0:Array Xe)(cq st:Xb):Prop where
 perm:(Xz st).Perm a0
 same:∀k,k<lo->(Xz st)[k]? = a0[k]?
 rest:st=setArr cq (Xz st)
theorem SB.size {st:Xb}(h:SB lo a0 cq st):(Xz st).size=a0.size:=h.perm.size_eq
theorem SB.put {st:Xb}(h:SB lo a0 cq st){l:Array Xe}(hp:l.Perm (Xz st))(hs:∀k,k<lo->l[k]? = (Xz st)[k]?):SB lo a0 cq (setArr st l):=by
 refine⟨hp.trans h.perm,λk hk=>(hs k hk).trans (h.same k hk),?_⟩;have:=h.rest;generalize Xz st=z at this;subst this;rfl
theorem SB.mir {st:Xb}(h:SB lo a0 cq st)(hm:lo+m<=a0.size):SB lo a0 cq (setArr st (mirror (Xz st) (lo+n) (lo+m) ((lo+m-(lo+n)) / 2))):=by
 refine h.put (mirror_perm _ _ _ _) λk hk=>?_;rw[getElem?_mirror_all (by rw[h.size];exact hm),hV (by lia)]
theorem SB.bub {st:Xb}(h:SB lo a0 cq st){p d:Nat}(hp:lo+p<a0.size)(hd:d<=p):SB lo a0 cq (setArr st (bubble (Xz st) (lo+p) d)):=by
 refine h.put (bubble_perm _ _ _) λk hk=>?_;rw[getElem?_bubble (by rw[h.size];exact hp) d (by lia),hV (by lia),hV (by lia)]
theorem SB.kind {st:Xb}(h:SB lo a0 cq st)(kd:X_ cq=knd):X_ st=knd:=by rw[h.rest];exact kd
theorem r_ (C:lR M A E s O key knd D){st:Xb}{Q:Option Bool->Xb->Prop}(kd:X_ cq=knd)(hD:∀p∈a0.toList,D p)(hB:SB lo a0 cq st)(hi:i<a0.size)(hj:j<a0.size)(h:Q (some (O.blt (kx key (Xz st) i) (kx key (Xz st) j))) st):wpS M A E s (ltAt' i j) Q st:=by
 have fd:∀i,i<a0.size->∃p,(Xz st)[i]? = some p/\D p/\kx key (Xz st) i=key p:=λi hi=>by
  have wX:i<(Xz st).size:=by rw[hB.size];exact hi
  refine⟨(Xz st)[i],getElem?_pos _ i wX,hD _ ((abY.mp hB.perm).mem_iff.mp (by simp)),?_⟩;unfold kx;rw[getElem?_pos _ i wX];rfl
 obtain⟨p,e1,d1,k1⟩:=fd i hi;obtain⟨q,e2,d2,k2⟩:=fd j hj;rw[k1,k2] at h;rw[ltAt'_eq];refine WV (wpS_get ?_);dsimp only;rw[elem'_eq,elem'_eq,e1,e2];refine WV (W5 (WV (W5 ?_)));exact C.lt p q st Q d1 d2 (hB.kind kd) h
theorem vV {st:Xb}{Q:Unit->Xb->Prop}(h:Q () (setArr st (mirror (Xz st) i j ((j-i) / 2)))):wpS M A E s (abC i j) Q st:=by
 rw[reverseSlice'_eq];exact aaE h
theorem x_ (C:lR M A E s O key knd D){st:Xb}{Q:AscSt->Xb->Prop}(kd:X_ cq=knd)(hD:∀p∈a0.toList,D p)(hm:lo+m<=a0.size)(n1:1<=n)(nm:n<=m)(hB:SB lo a0 cq st)(ha:DB key lo (Xz st) n)(h:∀r,n<=r->r<=m->DB key lo (Xz st) r->(r=m\/O.klt (kx key (Xz st) (lo+r)) (kx key (Xz st) (lo+r-1)))->Q (none,r) st):wpS M A E s (BI lo n m) Q st:=by
 unfold BI;refine Yc (I:=λx c aF=>aF=st/\c=(none,x)/\DB key lo (Xz st) x) ?go ?out ⟨rfl,rfl,ha⟩
 case out=>
  rintro c aF ⟨rfl,rfl,DJ⟩;have e:max n m=m:=by lia
  rw[e] at DJ ⊢;exact h m nm (WK _) DJ (.inl rfl)
 case go=>
  rintro x c aF h1 h2 ⟨rfl,rfl,DJ⟩;dsimp only;refine WV (r_ C kd hD hB (by lia) (by lia) ?_);dsimp only;cases e:O.blt (kx key (Xz aF) (lo+x)) (kx key (Xz aF) (lo+x-1)) with
  |true=>
   rw[hZ rfl];exact W5 (h x h1 (by lia) DJ (.inr e))
  |false=>
   rw[hV WA];refine W5 ⟨rfl,rfl,λi j uh hj=>?_⟩;by_cases c1:j<x
   ·exact DJ i j uh c1
   ·have:j=x:=by lia
    subst this;by_cases c2:i=j
    ·subst c2;exact Yp _
    ·have:=DJ i (j-1) (by lia) (by lia);rw[show lo+(j-1)=lo+j-1 by lia] at this;exact Xu this e
theorem ya (C:lR M A E s O key knd D){st:Xb}{Q:Option Nat->Xb->Prop}(kd:X_ cq=knd)(hD:∀p∈a0.toList,D p)(hm:lo+m<=a0.size)(n1:1<=n)(nm:n<=m)(hB:SB lo a0 cq st)(hd:N5 key lo (Xz st) n)(h:∀r aF,SB lo a0 cq aF->1<=r->r<=m->DB key lo (Xz aF) r->Q (some r) aF):wpS M A E s (BJ lo n m) Q st:=by
 unfold BJ;refine WV (vV ?_);have Od:=hB.mir (n:=0) (m:=n) (by lia);have hz:lo+n<=(Xz st).size:=by rw[hB.size];lia
 rw[ab9] at Od;refine WV (x_ C kd hD hm n1 nm Od (λi j uh hj=>?_) λr r1 r2 r3 _=>W5 (h r _ Od (by lia) r2 r3));have e1:=z_ (key:=key) (lo:=lo) (n:=0) hz i;have e2:=z_ (key:=key) (lo:=lo) (n:=0) hz j;rw[ab9,hZ (by lia)] at e1 e2;rw[e1,e2];exact hd _ _ (by lia) (by lia)
theorem F6 (C:lR M A E s O key knd D){st:Xb}{Q:DescSt->Xb->Prop}(kd:X_ cq=knd)(hD:∀p∈a0.toList,D p)(hm:lo+m<=a0.size)(n1:1<=n)(nm:n<=m)(hB:SB lo a0 cq st)(hd:N5 key lo (Xz st) n)(h:∀r q aF,SB lo a0 cq aF->n<=r->r<=m->N5 key lo (Xz aF) r->q+1<=r->(∀i,r-(q+1)<=i->i<r->kx key (Xz aF) (lo+i)=kx key (Xz aF) (lo+r-1))->Q (none,r,q) aF):wpS M A E s (F4 lo n m) Q st:=by
 unfold F4;refine Yc (I:=λx c aF=>∃q,c=(none,x,q)/\SB lo a0 cq aF/\N5 key lo (Xz aF) x/\q+1<=x/\∀i,x-(q+1)<=i->i<x->kx key (Xz aF) (lo+i)=kx key (Xz aF) (lo+x-1)) ?go ?out
  ⟨0,rfl,hB,hd,by lia,λi a1 a2=>by congr 1;lia⟩
 case out=>
  rintro c aF ⟨q,rfl,b1,b2,b3,b4⟩;have e:max n m=m:=by lia
  rw[e] at b2 b3 b4 ⊢;exact h m q aF b1 nm (WK _) b2 b3 b4
 case go=>
  rintro x c aF h1 h2 ⟨q,rfl,b1,b2,b3,b4⟩;have hz:lo+x<=(Xz aF).size:=by rw[b1.size];lia
  unfold KS;dsimp only;refine WV (r_ C kd hD b1 (by lia) (by lia) ?_);dsimp only;cases e:O.blt (kx key (Xz aF) (lo+x)) (kx key (Xz aF) (lo+x-1)) with
  |true=>
   rw[hZ rfl];have nx:∀l:Array Xe,(∀k,kx key l (lo+k)=kx key (Xz aF) (lo+k))->N5 key lo l (x+1):=by
    intro l hl i j uh hj;rw[hl,hl];by_cases c1:j<x
    ·exact b2 i j uh c1
    ·have:j=x:=by lia
     subst this;by_cases c2:i=j
     ·subst c2;exact Yp _
     ·have:=b2 i (j-1) (by lia) (by lia);rw[show lo+(j-1)=lo+j-1 by lia] at this;exact Xu (XI e) this
   by_cases c:q>0
   ·rw[hZ c];refine WV (vV ?_);have e3:lo+x-(q+1)=lo+(x-(q+1)):=by lia
    rw[e3];refine W5 ⟨0,rfl,b1.mir (by lia),nx _ (fY hz b4),by lia,λi a1 a2=>?_⟩;congr 1;lia
   ·rw[hV c];exact W5 ⟨0,rfl,b1,nx _ (λ_=>rfl),by lia,λi a1 a2=>by congr 1;lia⟩
  |false=>
   rw[hV WA];refine WV (r_ C kd hD b1 (by lia) (by lia) ?_);dsimp only;cases e2:O.blt (kx key (Xz aF) (lo+x-1)) (kx key (Xz aF) (lo+x)) with
   |true=>
    rw[hZ rfl];exact W5 (h x q aF b1 h1 (by lia) b2 b3 b4)
   |false=>
    rw[hV WA];have eq:kx key (Xz aF) (lo+x)=kx key (Xz aF) (lo+x-1):=KeyOrd.kle_antisymm e2 e;refine W5 ⟨q+1,rfl,b1,λi j uh hj=>?_,by lia,λi a1 a2=>?_⟩
    ·by_cases c1:j<x
     ·exact b2 i j uh c1
     ·have:j=x:=by lia
      subst this;by_cases c2:i=j
      ·subst c2;exact Yp _
      ·rw[eq];have:=b2 i (j-1) (by lia) (by lia);rw[show lo+(j-1)=lo+j-1 by lia] at this;exact this
    ·rw[show lo+(x+1)-1=lo+x by lia];by_cases c1:i=x
     ·subst c1;rfl
     ·rw[eq];exact b4 i (by lia) (by lia)
theorem yb (C:lR M A E s O key knd D){st:Xb}{Q:Option Nat->Xb->Prop}(kd:X_ cq=knd)(hD:∀p∈a0.toList,D p)(hm:lo+m<=a0.size)(nm:n+1<=m)(hB:SB lo a0 cq st)(hd:N5 key lo (Xz st) (n+1))(h:∀r aF,SB lo a0 cq aF->1<=r->r<=m->DB key lo (Xz aF) r->Q (some r) aF):wpS M A E s (BK lo n m) Q st:=by
 unfold BK;refine WV (wpS_lift (Zz ⟨rfl,?_⟩));refine WV (F6 C kd hD hm (by lia) nm hB hd λr q aF b1 r1 r2 b2 b3 b4=>?_);dsimp only;have hz:lo+r<=(Xz aF).size:=by rw[b1.size];lia
 by_cases c:q>0
 ·rw[hZ c];refine WV (vV ?_);have e3:lo+r-(q+1)=lo+(r-(q+1)):=by lia
  rw[e3];refine ya C kd hD hm (by lia) r2 (b1.mir (by lia)) (λi j uh hj=>?_) h;have e1:=fY (key:=key) hz b4 i;have e2:=fY (key:=key) hz b4 j;rw[e1,e2];exact b2 i j uh hj
 ·rw[hV c];exact ya C kd hD hm (by lia) r2 b1 b2 h
theorem yc (C:lR M A E s O key knd D){st:Xb}{Q:Option Nat->Xb->Prop}(kd:X_ cq=knd)(hD:∀p∈a0.toList,D p)(hm:lo+m<=a0.size)(m1:1<=m)(hB:SB lo a0 cq st)(h:∀r aF,SB lo a0 cq aF->1<=r->r<=m->DB key lo (Xz aF) r->Q (some r) aF):wpS M A E s (countRun' lo m) Q st:=by
 rw[xY];refine WV (x_ C kd hD hm (WK 1) m1 hB (λi j uh hj=>by rw[show i=j by lia];exact Yp _) λn n1 n2 ha ho=>?_);dsimp only;by_cases c:n=m
 ·rw[hZ (by simpa using c)];exact W5 (h n st hB n1 n2 ha)
 ·rw[hV (by simpa using c)];have hl:=ho.resolve_left c;by_cases c2:n>1
  ·rw[hZ c2];refine WV (r_ C kd hD hB (by lia) (by lia) ?_);dsimp only;cases e:O.blt (kx key (Xz st) lo) (kx key (Xz st) (lo+n-1)) with
   |true=>
    rw[hZ rfl];exact W5 (h n st hB n1 n2 ha)
   |false=>
    rw[hV WA];have hz:lo+n<=(Xz st).size:=by rw[hB.size];lia
    have al:∀k,0<=k->k<n->kx key (Xz st) (lo+k)=kx key (Xz st) (lo+n-1):=by
     intro k _ hk;have p1:=ha 0 k (by lia) hk;have p2:=ha k (n-1) (by lia) (by lia);rw[show lo+(n-1)=lo+n-1 by lia] at p2;exact KeyOrd.kle_antisymm p2 (Xu (show O.kle _ (kx key (Xz st) lo) from e) p1)
    refine WV (vV ?_);have Od:=hB.mir (n:=0) (m:=n) (by lia);rw[ab9] at Od;refine yb C kd hD hm (by lia) Od (λi j uh hj=>?_) h;have e1:=fY (key:=key) (n:=0) hz al i;have e2:=fY (key:=key) (n:=0) hz al j;rw[ab9] at e1 e2;rw[e1,e2];by_cases c3:j<n
    ·rw[al i (by lia) (by lia),al j (by lia) c3];exact Yp _
    ·have:j=n:=by lia
     subst this;by_cases c4:i=j
     ·subst c4;exact Yp _
     ·rw[al i (by lia) (by lia)];exact XI hl
  ·rw[hV c2];have:n=1:=by lia
   subst this;refine yb C kd hD hm (by lia) hB (λi j uh hj=>?_) h;by_cases c4:i=j
   ·subst c4;exact Yp _
   ·have Tn:i=0:=by lia
    have Vx:j=1:=by lia
    subst Tn;subst Vx;exact XI hl
theorem Aa (C:lR M A E s O key knd D){st:Xb}{ok:Nat}{Q:Bool->Xb->Prop}(kd:X_ cq=knd)(hD:∀p∈a0.toList,D p)(hn:lo+n<=a0.size)(hok:ok<=n)(hB:SB lo a0 cq st)(ha:DB key lo (Xz st) ok)(h:∀aF,SB lo a0 cq aF->DB key lo (Xz aF) n->Q true aF):wpS M A E s (binarySort' lo n ok) Q st:=by
 rw[binarySort'_eq];refine WV (Zm (Yc (I:=λk c aF=>c=(none,())/\SB lo a0 cq aF/\DB key lo (Xz aF) (min k n))
  (Q:=λc aF=>c=(none,())/\SB lo a0 cq aF/\DB key lo (Xz aF) n) ?go ?out ?vj) ?end_)
 case end_=>
  rintro c aF ⟨rfl,b1,b2⟩;exact W5 (h aF b1 b2)
 case vj=>
  refine⟨rfl,hB,λi j uh hj=>?_⟩;by_cases c:ok=0
  ·rw[show i=j by lia];exact Yp _
  ·exact ha i j uh (by lia)
 case out=>
  rintro c aF ⟨e,b1,b2⟩;have e2:min (max (max ok 1) n) n=n:=by lia
  rw[e2] at b2;exact⟨e,b1,b2⟩
 case go=>
  rintro k c Ay DH RB ⟨rfl,b1,b2⟩;have e1:min k n=k:=by lia
  rw[e1] at b2;have hk:lo+k<a0.size:=by lia
  refine WV (Zm (Yc (I:=λx c ki=>ki=Ay/\∃l r,c=(none,l,r)/\l<=r/\r<=k/\r-l<=k-x/\
    (∀i,i<l->O.kle (kx key (Xz Ay) (lo+i)) (kx key (Xz Ay) (lo+k)))/\∀i,r<=i->i<k->O.klt (kx key (Xz Ay) (lo+k)) (kx key (Xz Ay) (lo+i)))
   (Q:=λc ki=>ki=Ay/\∃l,c=(none,l,l)/\l<=k/\(∀i,i<l->O.kle (kx key (Xz Ay) (lo+i)) (kx key (Xz Ay) (lo+k)))/\∀i,l<=i->i<k->O.klt (kx key (Xz Ay) (lo+k)) (kx key (Xz Ay) (lo+i))) ?go2 ?out2 ?at2) ?end2)
  case at2=>exact⟨rfl,0,k,rfl,by lia,by lia,by lia,λi hi=>by lia,λi a1 a2=>by lia⟩
  case out2=>
   rintro c ki ⟨rfl,l,r,rfl,q1,q2,q3,q4,q5⟩;have:l=r:=by lia
   subst this;exact⟨rfl,l,rfl,q2,q4,q5⟩
  case go2=>
   rintro x c ki _ hx ⟨rfl,l,r,rfl,q1,q2,q3,q4,q5⟩;dsimp only;by_cases c:l≥r
   ·rw[hZ c];have:l=r:=by lia
    subst this;exact W5 ⟨rfl,l,rfl,q2,q4,q5⟩
   ·rw[hV c];refine WV (r_ C kd hD b1 hk (by lia) ?_);cases e:O.blt (kx key (Xz ki) (lo+k)) (kx key (Xz ki) (lo+(l+r) / 2)) with
    |true=>
     simp only[if_true];exact W5 ⟨rfl,l,(l+r) / 2,rfl,by lia,by lia,by lia,q4,λi a1 a2=>KeyOrd.klt_of_klt_of_kle e (b2 _ _ a1 a2)⟩
    |false=>
     simp only[Xm,if_false];exact W5 ⟨rfl,(l+r) / 2+1,r,rfl,by lia,by lia,by lia,λi a1=>Xu (b2 i ((l+r) / 2) (by lia) (by lia)) (show O.kle _ _ from e),q5⟩
  case end2=>
   rintro c ki ⟨rfl,l,rfl,q2,q4,q5⟩;dsimp only;rw[moveDown'_eq];have e2:lo+k-(lo+l)=k-l:=by lia
   refine WV (aaE (W5 ⟨rfl,?_,?_⟩))
   ·rw[e2];exact b1.bub hk (by lia)
   ·rw[show min (k+1) n=k+1 by lia];have hz:lo+k<(Xz ki).size:=by rw[b1.size];exact hk
    intro i j uh hj;show O.kle (kx key (bubble (Xz ki) (lo+k) (lo+k-(lo+l))) (lo+i)) (kx key (bubble (Xz ki) (lo+k) (lo+k-(lo+l))) (lo+j));rw[e2,F5 hz (by lia),F5 hz (by lia),show k-(k-l)=l by lia]
    repeat' split
    all_goals first
     | (exfalso;lia)
     |exact Yp _
     |exact q4 _ (by lia)
     |exact XI (q5 _ (by lia) (by lia))
     |exact b2 _ _ (by lia) (by lia)
end
end Hc.Ts
namespace Hc.Ts
noncomputable def vW (lo n:Nat):StateT Xb Sem (ForInStep (Option Unit×Nat)):=do
 modify λst=>setPending st ((Xt st).push (lo,n,0))
 pure (.yield (none,lo+n))
noncomputable def SE (pw:Nat)(_:Nat)(_:Option Unit×Unit):StateT Xb Sem (ForInStep (Option Unit×Unit)):=do
 let st ←get
 let some (_,_,old):=(if (Xt st).size>1 then (Xt st)[(Xt st).size-2]? else none)|pure (.done (none,()))
 if old<=pw then pure (.done (none,())) else do
  let r ←mergeAt' ((Xt st).size-2)
  if (!r)=true then pure (.done (some (),())) else pure (.yield (none,()))
noncomputable def SF (pw:Nat)(st:Xb):Xb:=setPending st ((Xt st).modify ((Xt st).size-1) λx=>match x with|(p,n,_)=>(p,n,pw))
noncomputable def KW (size lo n pw:Nat):StateT Xb Sem (ForInStep (Option Unit×Nat)):=do
 let c ←forIn [0:size] ((none,()):Option Unit×Unit) (SE pw)
 match c.1 with
 |some r=>pure (.done (some r,lo))
 |none=>do
  modify (SF pw)
  vW lo n
noncomputable def Ro (size lo n:Nat):StateT Xb Sem (ForInStep (Option Unit×Nat)):=do
 let st ←get
 let some (p1,n1,_):=(Xt st).back? | vW lo n
 KW size lo n (power' size (2*p1+n1) (2*p1+n1+n1+n) size)
noncomputable def SG (size oA:Nat)(_:Nat)(c:Option Unit×Nat):StateT Xb Sem (ForInStep (Option Unit×Nat)):=
 if c.2≥size then pure (.done (none,c.2)) else do
  let some n ←countRun' c.2 (size-c.2)|pure (.done (some (),c.2))
  if n<oA then do
   liftM (rule "list.sort.binary-insertion")
   let r ←binarySort' c.2 (min (size-c.2) oA) n
   if (!r)=true then pure (.done (some (),c.2)) else Ro size c.2 (min (size-c.2) oA)
  else Ro size c.2 n
noncomputable def SH (p:Array (Nat×Nat×Nat)):Nat:=
 if Option.any (λx=>decide (x<(p[p.size-2+1]?).elim 0 λx=>x.2.1)) (if p.size-2>0 then Option.map (λx=>x.2.1) p[p.size-2-1]? else none)=true then p.size-2-1 else p.size-2
noncomputable def T3 (_:Nat)(_:Option Unit×Unit):StateT Xb Sem (ForInStep (Option Unit×Unit)):=do
 let st ←get
 if (Xt st).size<=1 then pure (.done (none,())) else do
  let r ←mergeAt' (SH (Xt st))
  if (!r)=true then pure (.done (some (),())) else pure (.yield (none,()))
theorem vX:sortRuns'=(do
  let st ←get
  let c ←forIn [0:(Xz st).size] ((none,0):Option Unit×Nat) (SG (Xz st).size (minRun' (Xz st).size (Xz st).size 0))
  match c.1 with
  |some r=>pure r
  |none=>do
   let d ←forIn [0:(Xz st).size] ((none,()):Option Unit×Unit) T3
   match d.1 with
   |some r=>pure r
   |none=>pure ()):=by kernel_rfl
section
variable {A:XD}{O:acA}{key:Xe->O.α}{knd:aaR}{D:Xe->Prop}
def sd (key:Xe->O.α):Nat->List (List Xe)->List (Nat×Nat×Nat)->Prop
 |_,[],[]=>True
 |p,g::gs,e::es=>e.1=p/\e.2.1=g.length/\0<g.length/\iL key g/\sd key (p+g.length) gs es
 |_,_,_=>False
theorem sd.len:∀{p:Nat} {gs:List (List Xe)} {es:List (Nat×Nat×Nat)},sd key p gs es->gs.length=es.length/\gs.length<=gs.flatten.length
 |_,[],[],_=>⟨rfl,WK _⟩
 |p,g::gs,e::es,h=>by
  obtain⟨h1,h2⟩:=sd.len h.2.2.2.2;have:=h.2.2.1;rw[XS,WI,WS,WS];lia
theorem sd.app:∀{p:Nat} {gs:List (List Xe)} {es:List (Nat×Nat×Nat)} {gs2:List (List Xe)} {es2:List (Nat×Nat×Nat)},sd key p gs es->sd key (p+gs.flatten.length) gs2 es2->sd key p (gs++gs2) (es++es2)
 |_,[],[],_,_,_,h2=>h2
 |p,g::gs,e::es,gs2,es2,h,h2=>by
  refine⟨h.1,h.2.1,h.2.2.1,h.2.2.2.1,sd.app h.2.2.2.2 ?_⟩;rw[XS,WI,←ZM] at h2;exact h2
theorem sd.split:∀{i p:Nat} {gs:List (List Xe)} {es:List (Nat×Nat×Nat)},sd key p gs es->i+1<es.length->∃g1 x y g2 e1 pw pw2 e2,gs=g1++x::y::g2/\es=e1++(p+g1.flatten.length,x.length,pw)::(p+g1.flatten.length+x.length,y.length,pw2)::e2/\e1.length=i/\sd key p g1 e1/\0<x.length/\iL key x/\0<y.length/\iL key y/\sd key (p+g1.flatten.length+x.length+y.length) g2 e2
 |0,p,x::y::g2,(a,b,pw)::(c,d,pw2)::e2,h,_=>by
  obtain⟨h1,h2,h3,h4,k1,k2,k3,k4,h5⟩:=h;dsimp only at h1 h2 k1 k2;subst h1;subst h2;subst k1;subst k2;exact⟨[],x,y,g2,[],pw,pw2,e2,rfl,rfl,rfl,trivial,h3,h4,k3,k4,h5⟩
 |0,p,[x],[e],h,hl=>absurd hl (by simp)
 |0,p,[],[],h,hl=>absurd hl (by simp)
 |0,p,[x],_::_::_,h,hl=>h.2.2.2.2.elim
 |0,p,_::_::_,[e],h,hl=>h.2.2.2.2.elim
 |i+1,p,[],[],h,hl=>absurd hl (by simp)
 |i+1,p,g::gs,e::es,h,hl=>by
  obtain⟨g1,x,y,g2,e1,pw,pw2,e2,q1,q2,q3,q4,q5⟩:=sd.split h.2.2.2.2 (i:=i) (by simpa using hl);refine⟨g::g1,x,y,g2,e::e1,pw,pw2,e2,by rw[q1];rfl,?_,by rw[WS,q3],⟨h.1,h.2.1,h.2.2.1,h.2.2.2.1,q4⟩,?_⟩
  ·rw[q2,XS,WI,←ZM];rfl
  ·rw[XS,WI,←ZM];exact q5
theorem sd.power {f:Nat×Nat×Nat->Nat×Nat×Nat}(hf:∀e,(f e).1=e.1/\(f e).2.1=e.2.1):∀{i p:Nat} {gs:List (List Xe)} {es:List (Nat×Nat×Nat)},sd key p gs es->sd key p gs (es.modify i f)
 |_,_,[],[],_=>by rw[List.modify_nil];exact trivial
 |0,p,g::gs,e::es,h=>by
  rw[List.modify_zero_cons];exact⟨(hf e).1.trans h.1,(hf e).2.trans h.2.1,h.2.2⟩
 |i+1,p,g::gs,e::es,h=>by
  rw[List.modify_succ_cons];exact⟨h.1,h.2.1,h.2.2.1,h.2.2.2.1,sd.power hf h.2.2.2.2⟩
structure SI (key:Xe->O.α)(knd:aaR)(a0:Array Xe)(lo:Nat)(rest:List Xe)(st:Xb):Prop where
 failed:aau st=none
 kind:X_ st=knd
 perm:(Xz st).toList.Perm a0.toList
 segs:∃gs:List (List Xe),(Xz st).toList=gs.flatten++rest/\gs.flatten.length=lo/\sd key 0 gs (Xt st).toList
variable {a0:Array Xe}{lo:Nat}{rest:List Xe}
theorem SI.size {st:Xb}(h:SI key knd a0 lo rest st):lo+rest.length=a0.size:=by
 obtain⟨gs,e,l,_⟩:=h.segs;have:=h.perm.length_eq;rw[e,WI,l,WH] at this;exact this
theorem SI.few {st:Xb}(h:SI key knd a0 lo rest st):(Xt st).size<=lo:=by
 obtain⟨gs,e,l,p⟩:=h.segs;have h1:=p.len;have h2:(Xt st).toList.length=(Xt st).size:=WH;lia
theorem SI.merge (C:lR M A E s O key knd D)(hD:∀p∈a0.toList,D p){st:Xb}(h:SI key knd a0 lo rest st)(hi:i+1<(Xt st).size){Q:Bool->Xb->Prop}(q:∀aF,SI key knd a0 lo rest aF->(Xt aF).size+1=(Xt st).size->Q true aF):wpS M A E s (mergeAt' i) Q st:=by
 obtain⟨gs,e,l,p⟩:=h.segs;obtain⟨g1,x,y,g2,e1,pw,pw2,e2,q1,q2,q3,q4,x0,sx,y0,sy,q5⟩:=p.split (i:=i) (by rw[WH];exact hi);rw[Zj] at q2 q5;subst q3;have ea:(Xz st).toList=g1.flatten++(x++(y++(g2.flatten++rest))):=by
  rw[e,q1,Zg,XS,XS];simp only[W9]
 have mem:∀p∈(Xz st).toList,D p:=λp hp=>hD p (h.perm.mem_iff.mp hp);refine z9 C (pw:=pw) (pw2:=pw2) h.failed h.kind ea ?_ ?_ (λp hp=>mem p (by rw[ea];simp[hp])) (λp hp=>mem p (by rw[ea];simp[hp])) sx sy x0 y0 λz g hz sz=>q _ ?_ ?_
 ·rw[←W4,q2,XN (WK _),ab8];rfl
 ·rw[←W4,q2,XN (Yq _ 1),YE];rfl
 all_goals
  have ep:(uU (Xt st) e1.length g1.flatten.length (x.length+y.length) pw).toList=e1++(g1.flatten.length,x.length+y.length,pw)::e2:=by
   unfold uU;rw[Array.toList_eraseIdxIfInBounds,abX,q2,List.set_append_right _ _ (WK _),ab8,aaT,List.eraseIdx_append_of_length_le (Yq _ 1),YE];rfl
 ·refine⟨h.failed,h.kind,?_,g1++z::g2,?_,?_,?_⟩
  ·show (g1.flatten++(z++(g2.flatten++rest))).Perm a0.toList;refine List.Perm.trans ?_ h.perm;rw[ea];refine XY _ ?_;rw[←W9 x];exact X9 _ hz
  ·show g1.flatten++(z++(g2.flatten++rest))=_;rw[Zg,XS];simp only[W9]
  ·rw[←l,q1,Zg,Zg,XS,XS,XS];have:=hz.length_eq;rw[WI] at this;simp only[WI];lia
  ·show sd key 0 _ (uU (Xt st) e1.length g1.flatten.length (x.length+y.length) pw).toList;have hl:z.length=x.length+y.length:=by rw[hz.length_eq,WI]
   rw[ep];refine q4.app ⟨by rw[Zj],hl.symm,by rw[hl];lia,sz,?_⟩;rw[Zj,hl,←ZM];exact q5
 ·show (uU (Xt st) e1.length g1.flatten.length (x.length+y.length) pw).size+1=_;rw[←WH,ep,←WH (xs:=Xt st),q2];simp only[WI,WS];lia
theorem MW (C:lR M A E s O key knd D)(hD:∀p∈a0.toList,D p){st:Xb}(h:SI key knd a0 lo rest st){pw:Nat}{c:Option Unit×Unit}{Q:ForInStep (Option Unit×Unit)->Xb->Prop}(q1:∀aF,SI key knd a0 lo rest aF->Q (.done (none,())) aF)(q2:∀aF,SI key knd a0 lo rest aF->Q (.yield (none,())) aF):wpS M A E s (SE pw i c) Q st:=by
 unfold SE;refine WV (wpS_get ?_);by_cases c1:(Xt st).size>1
 ·rw[hZ c1,getElem?_pos (Xt st) _ (by lia)];obtain⟨a,b,old⟩:=(Xt st)[(Xt st).size-2];dsimp only;split
  ·exact W5 (q1 st h)
  ·refine WV (h.merge C hD (by lia) λaF h' _=>?_);rw[hV (by decide)];exact W5 (q2 aF h')
 ·rw[hV c1];exact W5 (q1 st h)
theorem uW {st:Xb}(h:SI key knd a0 lo rest st){Q:ForInStep (Option Unit×Nat)->Xb->Prop}(n1:1<=n)(n2:n<=rest.length)(sr:iL key (rest.take n))(q:∀aF,SI key knd a0 (lo+n) (rest.drop n) aF->Q (.yield (none,lo+n)) aF):wpS M A E s (vW lo n) Q st:=by
 unfold vW;refine WV (aaE (W5 (q _ ?_)));obtain⟨gs,e,l,p⟩:=h.segs;have hl:(rest.take n).length=n:=by rw[W_];lia
 refine⟨h.failed,h.kind,h.perm,gs++[rest.take n],?_,?_,?_⟩
 ·show (Xz st).toList=_;rw[e,Zg,W9];congr 1;rw[XS,List.flatten_nil,Xr,Xs]
 ·rw[Zg,WI,l,XS,List.flatten_nil,Xr,hl]
 ·show sd key 0 _ ((Xt st).push (lo,n,0)).toList;rw[ZH];exact p.app ⟨by rw[Zj,l],hl.symm,by lia,sr,trivial⟩
theorem F7 (C:lR M A E s O key knd D)(hD:∀p∈a0.toList,D p){st:Xb}(h:SI key knd a0 lo rest st){size:Nat}{Q:ForInStep (Option Unit×Nat)->Xb->Prop}(n1:1<=n)(n2:n<=rest.length)(sr:iL key (rest.take n))(q:∀aF,SI key knd a0 (lo+n) (rest.drop n) aF->Q (.yield (none,lo+n)) aF):wpS M A E s (Ro size lo n) Q st:=by
 unfold Ro;refine WV (wpS_get ?_);cases e:(Xt st).back? with
 |none=>exact uW h n1 n2 sr q
 |some v=>
  obtain⟨p1,m1,w⟩:=v;dsimp only;unfold KW;refine WV (Zm (Yc (I:=λx c aF=>c=(none,())/\SI key knd a0 lo rest aF) (Q:=λc aF=>c=(none,())/\SI key knd a0 lo rest aF) ?go (λ_ _ z=>z) ⟨rfl,h⟩) ?fin)
  case go=>
   rintro x c aF _ _ ⟨rfl,h'⟩;exact MW C hD h' (λki z=>⟨rfl,z⟩) λki z=>⟨rfl,z⟩
  case fin=>
   rintro c aF ⟨rfl,h'⟩;dsimp only;refine WV (aaE (uW ?_ n1 n2 sr q));obtain⟨gs,e,l,p⟩:=h'.segs;refine⟨h'.failed,h'.kind,h'.perm,gs,e,l,?_⟩;show sd key 0 gs ((Xt aF).modify _ _).toList;rw[Array.toList_modify];refine sd.power (λe=>?_) p;exact⟨rfl,rfl⟩
theorem Jf {l:Array Xe}{P R:List Xe}(e:l.toList=P++R)(h:DB key P.length l n):iL key (R.take n):=by
 refine Zq.mpr λi j hi hj uh=>?_;rw[W_] at hi hj;have at_:∀k,(hk:k<R.length)->kx key l (P.length+k)=key R[k]:=λk hk=>by
  unfold kx;rw[←W4,e,XN (Yq _ _),YE,Wx hk];rfl
 have:=h i j (by lia) (by lia);rw[at_ i (by lia),at_ j (by lia)] at this;rw[aba,aba];exact this
theorem SI.run {cq st:Xb}(h:SI key knd a0 lo rest cq)(b:SB lo (Xz cq) cq st):∃r,SI key knd a0 lo r st/\r.length=rest.length/\∀n,DB key lo (Xz st) n->iL key (r.take n):=by
 obtain⟨gs,e,l,p⟩:=h.segs;have hp:=abY.mp b.perm;have hl:lo<=(Xz st).toList.length:=by rw[hp.length_eq,e,WI,l];lia
 have ht:(Xz st).toList.take lo=gs.flatten:=by
  apply ZD;intro k;rw[aaS];split
  ·rename_i c;rw[W4,b.same k c,←W4,e,X5 (by lia)]
  ·rename_i c;rw[Z6 (by lia)]
 have e2:(Xz st).toList=gs.flatten++(Xz st).toList.drop lo:=by
  conv=>lhs;rw[←Xs lo (Xz st).toList,ht]
 refine⟨(Xz st).toList.drop lo,⟨?_,?_,hp.trans h.perm,gs,e2,l,?_⟩,?_,λn hn=>?_⟩
 ·rw[b.rest];exact h.failed
 ·rw[b.rest];exact h.kind
 ·rw[b.rest];exact p
 ·have:=hp.length_eq;rw[e,WI,l] at this;rw[XA];lia
 ·subst l;exact Jf e2 hn
theorem MX (C:lR M A E s O key knd D)(hD:∀p∈a0.toList,D p){st:Xb}{oA:Nat}{c:Option Unit×Nat}(h:SI key knd a0 c.2 rest st){Q:ForInStep (Option Unit×Nat)->Xb->Prop}(q1:SI key knd a0 a0.size [] st->c.2=a0.size->Q (.done (none,a0.size)) st)(q2:∀n r aF,1<=n->SI key knd a0 (c.2+n) r aF->Q (.yield (none,c.2+n)) aF):wpS M A E s (SG a0.size oA i c) Q st:=by
 obtain⟨c1,lo⟩:=c;dsimp only at h q1 q2;have hs:=h.size;unfold SG;dsimp only;by_cases c2:lo≥a0.size
 ·rw[hZ c2];have e1:lo=a0.size:=by lia
  have e2:rest=[]:=Yr (by lia);subst e1;subst e2;exact W5 (q1 h rfl)
 ·rw[hV c2];have UD:∀p∈(Xz st).toList,D p:=λp hp=>hD p (h.perm.mem_iff.mp hp);have hz:(Xz st).size=a0.size:=by have:=h.perm.length_eq;rwa [WH,WH] at this
  have b0:SB lo (Xz st) st st:=⟨Array.Perm.refl _,λ_ _=>rfl,rfl⟩;refine WV (yc C h.kind UD (by lia) (by lia) b0 λn aF b1 n1 n2 ha=>?_);dsimp only;by_cases c3:n<oA
  ·rw[hZ c3];refine WV (wpS_lift (Zz ⟨rfl,?_⟩));refine WV (Aa C h.kind UD (by lia) (by lia) b1 ha λki b2 Oc=>?_);rw[hV (by decide)];obtain⟨r,h',hl,hr⟩:=h.run b2;exact F7 C hD h' (by lia) (by lia) (hr _ Oc) λHs h3=>q2 _ _ Hs (by lia) h3
  ·rw[hV c3];obtain⟨r,h',hl,hr⟩:=h.run b1;exact F7 C hD h' n1 (by lia) (hr _ ha) λHs h3=>q2 _ _ Hs n1 h3
theorem MY {p:Array (Nat×Nat×Nat)}(h:¬p.size<=1):SH p+1<p.size:=by
 unfold SH;generalize (Option.any _ _)=z;cases z with
 |true=>rw[hZ rfl];lia
 |false=>rw[hV WA];lia
theorem yd (C:lR M A E s O key knd D)(hD:∀p∈a0.toList,D p){st:Xb}(hk:X_ st=knd)(hf:aau st=none)(ha:Xz st=a0)(hp:Xt st=#[]){Q:Unit->Xb->Prop}
  (q:∀aF,aau aF=none->(Xz aF).toList.Perm a0.toList->iL key (Xz aF).toList->Q () aF):wpS M A E s sortRuns' Q st:=by
 rw[vX];refine WV (wpS_get ?_);rw[ha];have h0:SI key knd a0 0 a0.toList st:=⟨hf,hk,by rw[ha],[],by rw[ha];rfl,rfl,by rw[hp];exact trivial⟩;refine WV (Zm (Yc (I:=λx c aF=>c.1=none/\x<=c.2/\∃r,SI key knd a0 c.2 r aF) (Q:=λc aF=>c.1=none/\SI key knd a0 a0.size [] aF) ?go ?out ⟨rfl,WK _,_,h0⟩) ?post)
 case out=>
  rintro⟨c1,lo⟩ aF ⟨e,hx,r,h⟩;dsimp only at e hx h;have hs:=h.size;have e1:lo=a0.size:=by lia
  have e2:r=[]:=Yr (by lia);subst e1;subst e2;exact⟨e,h⟩
 case go=>
  rintro x c aF _ hx ⟨e,hx2,r,h⟩;refine MX C hD h (λh1 h2=>⟨rfl,h1⟩) λn r ki n1 h2=>⟨rfl,?_,r,h2⟩;show x+1<=c.2+n;lia
 case post=>
  rintro⟨c1,lo⟩ aF ⟨e,h⟩;dsimp only at e ⊢;subst e;dsimp only;refine WV (Zm (Yc (I:=λx c aF=>c=(none,())/\SI key knd a0 a0.size [] aF/\(Xt aF).size+x<=a0.size) (Q:=λc aF=>c=(none,())/\SI key knd a0 a0.size [] aF/\(Xt aF).size<=1) ?_ ?_ ⟨rfl,h,by have:=h.few;lia⟩) ?_)
  ·rintro x c ki _ hx ⟨rfl,h2,h3⟩;unfold T3;refine WV (wpS_get ?_);by_cases c:(Xt ki).size<=1
   ·rw[hZ c];exact W5 ⟨rfl,h2,c⟩
   ·rw[hV c];refine WV (h2.merge C hD (MY c) λHs h4 h5=>?_);rw[hV (by decide)];exact W5 ⟨rfl,h4,by lia⟩
  ·rintro c ki ⟨rfl,h2,h3⟩;exact⟨rfl,h2,by lia⟩
  ·rintro c ki ⟨rfl,h2,h3⟩;refine W5 (q ki h2.failed h2.perm ?_);obtain⟨gs,e,l,p⟩:=h2.segs;rw[e,Xr]
   match gs,(Xt ki).toList,p,(show (Xt ki).toList.length<=1 by rw[WH];exact h3) with
   | [],_,_,_=>exact List.Pairwise.nil
   | [g],[e1],p,_=>
    rw[XS,List.flatten_nil,Xr];exact p.2.2.2.1
   |g::g2::gs,[e1],p,_=>exact p.2.2.2.2.elim
   |g::gs,e1::e2::es,p,hl=>exact absurd hl (by simp)
end
end Hc.Ts
namespace Hc.Ts
section
variable {A:XD}{O:acA}{key:Xe->O.α}{knd:aaR}{D:Xe->Prop}
theorem uX {vs:List WG}(h:l.Perm (vs.zip vs)):(l.map (·.2)).Perm vs/\∀p∈l,p=(p.2,p.2):=by
 have e:(vs.zip vs).map (·.2)=vs:=by
  induction vs with
  |nil=>rfl
  |cons v r ih=>rw[List.zip_cons_cons,WB,List.map_snd_zip (by simp)]
 refine⟨by have:=h.map (·.2);rwa [e] at this,λp hp=>?_⟩;have hp:=h.mem_iff.mp hp;clear h e
 induction vs with
 |nil=>cases hp
 |cons v r ih=>
  rw[List.zip_cons_cons,WZ] at hp;rcases hp with hp|hp
  ·subst hp;rfl
  ·exact ih hp
theorem F8 {vs:List WG}{P:Fin->WT->Prop}(ho:s.heap.get? a=some (ab6 "list" vs.toArray n))(hz:vs.length<=1000000)(hk:2<=vs.length->∀(h6:Zv) (Q:aaR->WT->Prop),(∀b o,b≠a->s.heap.get? b=some o->h6.get? b=some o)->Q knd {s with heap:=h6}->WX (Xg prog w) A (keyKind' vs.toArray) Q E {s with heap:=h6})(hC:2<=vs.length->∀h6:Zv,(∀b o,b≠a->s.heap.get? b=some o->h6.get? b=some o)->lR (Xg prog w) A E {s with heap:=h6} O key knd D)(hD:∀v∈vs,D (v,v))(h:∀out:List WG,out.Perm vs->out.Pairwise (λx y=>O.kle (key (x,x)) (key (y,y)))->P (.done (.ret .none)) {s with heap:=sortedHeap s.heap a vs out.toArray}) :
  WX (Xg prog w) A (Builtin.«list.sort» ⟨[.ref a],[]⟩) P E s:=by
 have Ht:vs.length<=WC:=by rw[YA];lia
 have la:a<s.heap.objs.size:=WU ho;rw[list_sort_plain];refine Wv (listItems_at ho rfl (Wv (listUpdate_at ho rfl ?_ (hsz:=by rw[WJ];exact Ht))));obtain⟨e1,o1⟩:∃e1,(s.heap.update a (aaa λ_=>#[])).get? a=some (ab6 "list" #[] e1):=⟨_,get?_update_seq ho (λ_=>#[])⟩;refine Wv (seqEpoch_at o1 rfl (Wv (wpAny_newTuple (Wv (wpAny_newList (X0 ?_))) (by simpa using Ht))));have kp:∀b o,b≠a->s.heap.get? b=some o->(((s.heap.update a (aaa λ_=>#[])).push (ab6 "tuple" vs.toArray 0)).push (ab6 "list" #[] 0)).get? b=some o:=λb o hb e=>
  Wz _ (Wz _ ((Heap.get?_update_ne _ _ _ _ hb).trans e))
 have o6:(((s.heap.update a (aaa λ_=>#[])).push (ab6 "tuple" vs.toArray 0)).push (ab6 "list" #[] 0)).get? a=some (ab6 "list" #[] e1):=Wz _ (Wz _ o1);change WX (Xg prog w) A _ P E {s with heap:=((s.heap.update a (aaa λ_=>#[])).push (ab6 "tuple" vs.toArray 0)).push (ab6 "list" #[] 0)};dsimp only;have fin:∀aF:Xb,aau aF=none->(Xz aF).toList.Perm (pairsOf vs).toList->iL key (Xz aF).toList->WX (Xg prog w) A (do
   let touched:=(←seqEpoch a) != e1
   Builtin.List.listUpdate (.ref a) λ_=>(Xz aF).map (·.2)
   if let some e:=aau aF then rule "list.sort.comparison-raised";throw e
   if touched then rule "list.sort.modified";raiseError "ValueError" "list modified during sort"
   ret .none) P E {s with heap:=((s.heap.update a (aaa λ_=>#[])).push (ab6 "tuple" vs.toArray 0)).push (ab6 "list" #[] 0)}:=by
  intro aF f1 f2 f3;rw[pairsOf_toList] at f2;obtain⟨m1,m2⟩:=uX f2;refine Wv (seqEpoch_at o6 rfl (Wv (listUpdate_at o6 rfl ?_ (hsz2:=by
   rw[Array.size_map,←WH,f2.length_eq,List.length_zip,ab5];lia))))
  rw[f1];simp only[bne_self_eq_false,Xm,if_false];refine Wy ?_;have e:(Xz aF).map (·.2)=((Xz aF).toList.map (·.2)).toArray:=by apply Array.ext';simp
  rw[e];refine h _ m1 (Za.mpr (ZE (λ{x y} hx hy r=>?_) f3));rw[←m2 x hx,←m2 y hy];exact r
 by_cases h2:vs.length<2
 ·rw[hZ (by rw[WJ];exact h2),hZ (by rw[WJ];exact h2)];refine Wv (Wy ?_);rw[StateT.run_pure];refine Wv (Wy ?_);refine fin (SortSt.mk' general' (vs.toArray.zip vs.toArray) #[] 7 none) rfl (Yd _) ?_;change iL key (pairsOf vs).toList;rw[pairsOf_toList]
  match vs,h2 with
  | [],_=>exact List.Pairwise.nil
  | [v],_=>exact ZN _ _
  |_::_::_,h2=>exact absurd h2 (by simp)
 ·rw[hV (by rw[WJ];exact h2),hV (by rw[WJ];exact h2)];refine Wv (hk (by lia) _ _ kp ?_);refine Wv (XQ (yd (hC (by lia) _ kp) (a0:=pairsOf vs) (λp hp=>?_) (st:=SortSt.mk' knd (vs.toArray.zip vs.toArray) #[] 7 none) rfl rfl rfl rfl
   (Q:=λ_ aF=>aau aF=none/\(Xz aF).toList.Perm (pairsOf vs).toList/\iL key (Xz aF).toList) λaF a1 a2 a3=>⟨a1,a2,a3⟩) ?_ λ_ _ e=>e)
  ·rw[pairsOf_toList] at hp;obtain⟨m1,m2⟩:=uX (Yd (vs.zip vs));rw[m2 p hp];exact hD _ (m1.mem_iff.mp (XB hp))
  ·rintro⟨⟨⟩,aF⟩ s' ⟨rfl,f1,f2,f3⟩;exact fin aF f1 f2 f3
end
end Hc.Ts
namespace Hc.Ts
open PySem.W
noncomputable def gu:List Int->List Int->Bool
 | [],[]=>false
 | [],_::_=>true
 |_::_,[]=>false
 |x::xs,y::ys=>if x=y then gu xs ys else decide (x<y)
theorem pj:∀a,gu a a=false
 | []=>rfl
 |x::xs=>by unfold gu;rw[hZ rfl];exact pj xs
theorem se:∀a b c,gu a b=true->gu b c=true->gu a c=true
 | [],[],_,h,_=>by cases h
 | [],_::_,[],_,h=>by cases h
 | [],_::_,_::_,_,_=>rfl
 |_::_,[],_,h,_=>by cases h
 |_::_,_::_,[],_,h=>by cases h
 |x::xs,y::ys,z::zs,h1,h2=>by
  unfold gu at h1 h2 ⊢;by_cases e1:x=y
  ·subst e1;rw[hZ rfl] at h1;by_cases e2:x=z
   ·subst e2;rw[hZ rfl] at h2 ⊢;exact se xs ys zs h1 h2
   ·rw[hV e2] at h2 ⊢;exact h2
  ·rw[hV e1] at h1;have h1:=of_decide_eq_true h1;by_cases e2:y=z
   ·subst e2;rw[hV e1];exact hG h1
   ·rw[hV e2] at h2;have h2:=of_decide_eq_true h2;rw[hV (by lia)];exact hG (by lia)
theorem ye:∀a b c,gu a c=true->gu a b=true\/gu b c=true
 | [],[],_::_,_=>.inr rfl
 | [],_::_,_::_,_=>.inl rfl
 | [],_,[],h=>by cases h
 |_::_,_,[],h=>by cases h
 |_::_,[],_::_,_=>.inr rfl
 |x::xs,y::ys,z::zs,h=>by
  unfold gu at h ⊢;by_cases e:x=z
  ·subst e;rw[hZ rfl] at h;by_cases e2:x=y
   ·subst e2;rw[hZ rfl,hZ rfl];exact ye xs ys zs h
   ·rw[hV e2,hV (λq=>e2 q.symm),decide_eq_true_eq,decide_eq_true_eq];lia
  ·rw[hV e] at h;have h:=of_decide_eq_true h;by_cases e2:x=y
   ·subst e2;exact .inr (by rw[hV e];exact hG h)
   ·by_cases e3:y=z
    ·subst e3;exact .inl (by rw[hV e];exact hG h)
    ·rw[hV e2,hV e3,decide_eq_true_eq,decide_eq_true_eq];lia
theorem lW:∀a b,gu a b=false->gu b a=false->a=b
 | [],[],_,_=>rfl
 | [],_::_,h,_=>by cases h
 |_::_,[],_,h=>by cases h
 |x::xs,y::ys,h1,h2=>by
  unfold gu at h1 h2;by_cases e:x=y
  ·subst e;rw[hZ rfl] at h1 h2;rw[lW xs ys h1 h2]
  ·rw[hV e] at h1;rw[hV (λq=>e q.symm)] at h2;have h1:=of_decide_eq_false h1;have h2:=of_decide_eq_false h2;lia
noncomputable def Jg:acA:=⟨List Int,gu,pj,se,ye,lW⟩
noncomputable def vY (h:Zv)(v:WG):List Int:=match v with
 | .ref a=>match h.get? a with
  |some o=>match o.data with
   | .seq au _=>au.toList.map numOf
   |_=>[]
  |none=>[]
 |_=>[]
def yf (h:Zv)(v:WG):Prop:=∃a au ns,v=.ref a/\h.IsTuple a au/\abp au.toList ns/\ns≠[]
theorem yg:∀{vs:List WG} {ns:List Int},abp vs ns->vs.map numOf=ns
 |_,_,.nil=>rfl
 |_,_,.cons n t r=>by rw[WB,yg r];rfl
theorem m6 {au:Array WG}(t:h.IsTuple a au)(i:abp au.toList ns):vY h (.ref a)=ns:=by
 obtain⟨o,e,_,n,d⟩:=t;unfold vY;dsimp only;rw[e];dsimp only;rw[d];exact yg i
section
variable {A:XD}{b fin:Bool}{Q:Bool->WT->Prop}
theorem yi:∀{xs ys:List WG} {ns ms:List Int} {i:Nat},abp xs ns->abp ys ms->fin=decide (ns.length<ms.length)->Q (gu ns ms) s->KatLex prog w A b fin Q (xs.zip ys) i s
 |_,_,_,_,i,.nil,.nil,hf,h=>by subst hf;exact kat_nil h
 |_,_,_,_,i,.nil,.cons m t r,hf,h=>by subst hf;exact kat_nil (by rw[show decide (([]:List Int).length<(m::_).length)=true from hG (by simp)];exact h)
 |_,_,_,_,i,.cons n t r,.nil,hf,h=>by subst hf;exact kat_nil (by rw[show decide ((n::_).length<([]:List Int).length)=false from hJ (by simp)];exact h)
 |_,_,_,_,i,.cons n t r,.cons m u q,hf,h=>by
  refine kat_cons (wpAny_eqBool_int ?_);unfold gu at h;by_cases e:n=m
  ·subst e;rw[hZ rfl] at h;rw[beq_self_eq_true];refine kat_yes (yi r q ?_ h);rw[hf];simp
  ·rw[hV e] at h;rw[show (n==m)=false from beq_eq_false_iff_ne.mpr e];refine kat_no ?_;cases hb:(b&&i==0) with
   |true=>exact oneLt_int h
   |false=>exact kat_one _ _ (lt_int h)
theorem Jh {hp:Zv}(keep:∀v,yf hp v->yf s.heap v/\vY s.heap v=vY hp v):lR (Xg prog w) A E s Jg (λx=>vY hp x.1) (tuples' true) (λx=>yf hp x.1) where
 lt:=λx y st Q dx dy kd q=>by
  obtain⟨k1,k2⟩:=keep _ dx;obtain⟨k3,k4⟩:=keep _ dy;obtain⟨a,xs,ns,e1,t1,i1,_⟩:=k1;obtain⟨c,ys,ms,e2,t2,i2,_⟩:=k3;rw[←k2,←k4,e1,e2,m6 t1 i1,m6 t2 i2] at q;rw[lt'_eq];refine WV (wpS_get ?_);rw[kd,e1,e2];obtain⟨o1,g1,_,n1,d1⟩:=t1;obtain⟨o2,g2,_,n2,d2⟩:=t2;refine WV (wpS_lift (Zl (kat_lt g1 d1 g2 d2 (yi i1 i2 ?_ ⟨rfl,?_⟩))))
  ·rw[←i1.length,←i2.length,WH,WH]
  ·exact W5 q
end
end Hc.Ts
namespace Hc.Dw
open PySem.W PySem.Calls
section
variable {A:XD}{d r I:W8}
theorem MZ (hh:A.handled=none)(Lj:d≠I):Walks prog w A I [I,d] [I] ds.size (λi v=>∃e,ds[i]? = some e/\v=e.key) (λi h=>h.IsKeyIter I d i ds.size ep/\j_ h d ds ep) where
 sub:=λb hb=>by simp at hb;simp[hb]
 frame:=λ_ _ _ st hk=>⟨st.1.at λo e=>hk I (by simp) o e,st.2.at λo e=>hk d (by simp) o e⟩
 item:=λi s Q E hi st hQ=>PQ st.1 st.2 hi λh' t' sb=>hQ _ h' s.toks ⟨_,getElem?_pos ds i hi,rfl⟩ ⟨t',st.2.at λo e=>sb.extBut _ _ Lj e⟩ λb o hb e=>sb.extBut b o (λh=>hb (by simp[h])) e
 done:=λs Q E st hQ=>PR hh st.1 st.2 (WK _) λh' eb=>hQ h' s.toks λb o hb e=>eb b o (λh=>hb (by simp[h])) e
 self:=λ_ _ _ _ st hQ=>wpAny_pyIter_keyiter st.1 hQ
theorem P4 (lo:(d==Yv)=false):KdlSrc prog w "dict" d d ds.size (λi v=>∃e,ds[i]? = some e/\v=e.key) (λh=>j_ h d ds ep) where
 type:=λ_ hm=>hm.ty
 there:=λ_ hm=>⟨hm.lt,hm.lt⟩
 keep:=λ_ _ hm hk=>hm.at λo e=>hk d (.inl rfl) o e
 notList:=by decide
 notTuple:=by decide
 hint:=λ_ _ _ _ hm hq=>kdl_hint_dict hm.ty hq
 iter:=λ_ s hh hm=>⟨_,_,(λ_ _ hq=>PN lo hm hq),MZ hh (Xj hm.lt),⟨⟨_,WL _ rfl,rfl,rfl⟩,hm.at λo e=>Wz _ e⟩⟩
theorem pq {T:String}{P:Nat->WG->Prop}{OK:Zv->Prop}(K:KdlSrc prog w T r d n P OK)(hh:A.handled=none)(hok:OK s.heap)(hn:n<=WC){Q:List WG->WT->Prop}(q:∀h' tk bq,(∀b o,s.heap.get? b=some o->h'.get? b=some o)->ItemsOf P bq n->Q bq.toList {s with heap:=h',toks:=tk}):WX (Xg prog w) A (collect (.ref r)) Q E s:=by
 have lt:=K.there _ hok;unfold collect;refine Wv (wpAny_runValue (Ze PySem.F.entry_proto_collect ?_));rw[YG PySem.F.plain_proto_collect _];change WX _ A.in1 (newList [] >>= λl=>again (.builtin "list.__iadd__" ⟨[l,.ref r],[]⟩)) _ _ s;refine Wv (Xi (Wy ⟨plainId_quiet PySem.F.plain_list_iadd _,Ze PySem.F.entry_list_iadd ?_⟩));rw[YG PySem.F.plain_list_iadd _];have hS:(s.heap.push {cls:=.type "list",data:=.seq ([]:List WG).toArray}).get? s.heap.objs.size=some {cls:=.type "list",data:=.seq #[] 0}:=WL _ rfl;change WX _ A.in1 (abJ (.ref s.heap.objs.size) (.ref r) (.ref s.heap.objs.size)) _ _ _;refine kdl_extend (A:=A) (R:=λx s'=>match x with
  | .ok (.ret v)=>WX (Xg prog w) A (match v with
   | .ref a=>do match (←load a).data with
    | .seq xs _=>pure xs.toList
    |_=>aaw "internal:collect"
   |_=>aaw "internal:collect") Q E s'
  | .ok _=>False
  | .error e=>E e s') (s:={s with heap:=s.heap.push {cls:=.type "list",data:=.seq ([]:List WG).toArray}}) K hh (K.keep _ _ hok λb _ o e=>Wz _ e) _ (ZK lt.1) (ZK lt.2) _ 0 hS (λh' tk bq c' k' NJ p9=>?_) hn
 change WX _ A (load s.heap.objs.size >>= _) _ _ _;refine Wv (wpAny_load NJ ?_);exact Wy (q h' tk bq (λb o e=>k' b o (Xj (WU e)) (Wz _ e)) p9)
end
end Hc.Dw
namespace Hc.Sy
open PySem.SetTable Hc.Sx
theorem N6:Slot "set_iterator" "__next__" "set_iterator.__next__":=by
 refine .of (owner:="set_iterator") (n:="__next__") ?_ (by decide+kernel) (by decide+kernel) (by decide+kernel) ?_ ?_
 ·rw[typeLookup_type,builtinLookup_eq_fast];kernel_rfl
 ·first|exact .inl (by decide+kernel)|exact .inr (by decide+kernel)
 ·rw[isSubtype_type];kernel_rfl
theorem T4:entryFor table "set_iterator.__next__"=some Builtin.«set_iterator.__next__»:=entryFor_of_tree (by kernel_rfl)
theorem T5 (a:WG):argsOk "set_iterator.__next__" ⟨[a],[]⟩:=by unfold argsOk;kernel_rfl
theorem T6:Slot "set_iterator" "__iter__" "set_iterator.__iter__":=by
 refine .of (owner:="set_iterator") (n:="__iter__") ?_ (by decide+kernel) (by decide+kernel) (by decide+kernel) ?_ ?_
 ·rw[typeLookup_type,builtinLookup_eq_fast];kernel_rfl
 ·first|exact .inl (by decide+kernel)|exact .inr (by decide+kernel)
 ·rw[isSubtype_type];kernel_rfl
theorem UW:entryFor table "set_iterator.__iter__"=some Builtin.«dict_keyiterator.__iter__»:=entryFor_alias (id':="dict_keyiterator.__iter__") (by kernel_rfl) rfl (by decide+kernel) (by kernel_rfl)
theorem UX (a:WG):argsOk "set_iterator.__iter__" ⟨[a],[]⟩:=by unfold argsOk;kernel_rfl
theorem UY:entryFor table "set.__iter__"=some Builtin.«frozenset.__iter__»:=entryFor_alias (id':="frozenset.__iter__") (by kernel_rfl) rfl (by decide+kernel) (by kernel_rfl)
theorem UZ (a:WG):argsOk "set.__iter__" ⟨[a],[]⟩:=by unfold argsOk;kernel_rfl
def lu (w:ZU)(h:Zv)(a:W8)(es:Array (Int×WG))(ep:Nat)(t:aaq):Prop:=
 ∃o,h.get? a=some o/\o.ExactSet/\o.data=.set es ep t/\t.fits es.size=true/\t.plain=true/\(y4 w=true\/t.led=true)/\Ph t.place/\t.place.size=es.size
theorem lu.at {es:Array (Int×WG)}(x:lu w h a es ep t)(e:∀o,h.get? a=some o->h'.get? a=some o):lu w h' a es ep t:=by
 obtain⟨o,q,r⟩:=x;exact⟨o,e o q,r⟩
theorem lu.ty {es:Array (Int×WG)}(x:lu w s.heap a es ep t):s.TypeIs (.ref a) "set":=by
 obtain⟨o,e,c,_⟩:=x;exact⟨o,e,c.1⟩
theorem lu.lt {es:Array (Int×WG)}(x:lu w h a es ep t):a<h.objs.size:=by
 obtain⟨o,e,_⟩:=x;exact WU e
noncomputable def tM (w:ZU)(a:W8)(ep:Nat)(es:Array (Int×WG)):Array (Int×WG):=if y4 w=true then acC (w.params.setOrder a ep) es else es
noncomputable def dY (w:ZU)(t:aaq):Nat->Nat
 |0=>0
 |i+1=>if y4 w=true then 0 else t.place.getD i 0+1
noncomputable def M3 (w:ZU)(a:W8)(n ep:Nat)(t:aaq)(i:Nat):Array WG:=#[.int (dY w t i:Nat) 0,.int i 0,.ref a,.int n 0,.int ep 0]
def Ab (w:ZU)(h:Zv)(it a:W8)(n ep:Nat)(t:aaq)(i:Nat):Prop:=∃o,h.get? it=some o/\o.cls=.type "set_iterator"/\o.data=.fields (M3 w a n ep t i)
theorem Ab.at (x:Ab w h it a n ep t i)(e:∀o,h.get? it=some o->h'.get? it=some o):Ab w h' it a n ep t i:=by
 obtain⟨o,q,r⟩:=x;exact⟨o,e o q,r⟩
theorem ez {A:XD}{α:Type}{b:Bool}{x y:Sem α}{Q:α->WT->Prop}(h:b=false)(q:WX M A y Q E s):WX M A (if b=true then x else y) Q E s:=by
 rw[h,hV WA];exact q
section
variable {A:XD}{es:Array (Int×WG)}
theorem P5 (x:lu w s.heap a es ep t)(q:Q (.ref s.heap.objs.size) {s with heap:=s.heap.push {cls:=.type "set_iterator",data:=.fields (M3 w a es.size ep t 0)}}):WX (Xg prog w) A (pyIter (.ref a)) Q E s:=by
 have ty:=x.ty;obtain⟨o,e1,e2,e3,e4,e5,e6,e7,e8⟩:=x;refine aaf ty PySem.F.slot_set_iter (Xn PySem.F.slot_set_iter ty UY ?_ (UZ _));unfold Builtin.«frozenset.__iter__» Builtin.Frozenset.slot0 slotArgs;simp only[List.isEmpty_nil,aac,Xm,↓reduceIte,bind_assoc,ZY,bne_self_eq_false];unfold Builtin.Frozenset.addrOf Builtin.Frozenset.sizeOf;refine Wv (Wy ?_)
 try dsimp only
 refine Wv (Wy ?_);refine Wv (Wv (abM e1 e3 e4 (Wy ?_)));unfold setDrawn setsByText;refine Wv (Wv (X7 e1 e3 e4 ?_));dsimp only;refine Wv (Wv (Y2 (Wy (Wy ?_))));have nd:(!(w.params.followText "set-order")&&(!t.plain&&decide (es.size>1)))=false:=by rw[e5];simp
 refine ez nd ?_;refine Wv (Wy ?_);unfold setEpoch;refine Wv (Wv (X7 e1 e3 e4 (Wy ?_)));refine Wv (Xi (Wy ⟨_,rfl,"set_iterator",_,⟨_,WL _ rfl,rfl⟩,N6.lookup,?_⟩));simpa [abh,M3,dY] using q
theorem vZ {Q:Option (WG×Nat)->WT->Prop}(x:lu w s.heap a es ep t)(hi:i<es.size){e:Int×WG}(he:(tM w a ep es)[i]? = some e)(q:Q (some (e.2,dY w t (i+1))) s) :
  WX (Xg prog w) A (setNext a (dY w t i) i ep) Q E s:=by
 obtain⟨o,e1,e2,e3,e4,e5,e6,e7,e8⟩:=x;unfold setNext;refine Wv (X7 e1 e3 e4 ?_);dsimp only;unfold setsByText;refine Wv (Wv (Y2 (Wy ?_)));unfold tM at he;by_cases b:y4 w=true
 ·rw[hZ b] at he;rw[hZ (show (Xg prog w).w.params.followText "set-order"=true from b),hV (by simp)];unfold setWalk setsByText;refine Wv (Wv (X7 e1 e3 e4 ?_));dsimp only;refine Wv (Wv (Y2 (Wy ?_)));rw[hZ (show (Xg prog w).w.params.followText "set-order"=true from b)];refine Wv (Y2 (Wy (Wy ?_)));have Hu:(acC ((Xg prog w).w.params.setOrder a ep) es)[i]? = some e:=he;rw[Hu];have z:dY w t i=0:=by
   cases i with
   |zero=>rfl
   |succ i=>show (if y4 w=true then 0 else _)=0;rw[hZ b]
  have z':dY w t (i+1)=0:=by show (if y4 w=true then 0 else _)=0;rw[hZ b]
  rw[z'] at q;rw[z];exact q
 ·rw[hV b] at he;rw[hV (show ¬(Xg prog w).w.params.followText "set-order"=true from b)];have led:t.led=true:=e6.resolve_left b;have nd:(!t.plain&&decide (es.size>1))=false:=by rw[e5];rfl
  refine ez nd ?_;refine Wv (aax (a:=()) (by show (if (!t.led && !es.isEmpty)=true then _ else _)=_;rw[led];rfl) (Wy ?_));have hb:below t.place (dY w t i)=i:=by
   obtain⟨b1,b2,b3⟩:=mU (j:=dY w t i) e7;rcases aa8 (below t.place (dY w t i)) i with z|z|z
   ·exfalso;cases i with
    |zero=>lia
    |succ i=>
     have hs:dY w t (i+1)=t.place.getD i 0+1:=by show (if y4 w=true then 0 else _)=_;rw[hV b]
     have g:t.place.getD i 0=t.place[i]'(by lia):=by simp[aa7,show i<t.place.size from by lia]
     have:=b2 i (by lia) (by lia);rw[hs,g] at this;lia
   ·exact z
   ·exfalso;have:=b1 i (by lia) z;cases i with
    |zero=>exact absurd this (Nat.not_lt_zero _)
    |succ i=>
     have hs:dY w t (i+1)=t.place.getD i 0+1:=by show (if y4 w=true then 0 else _)=_;rw[hV b]
     have g:t.place.getD i 0=t.place[i]'(by lia):=by simp[aa7,show i<t.place.size from by lia]
     have r:=(show t.place[i]'(by lia)<t.place[i+1]'(by lia) from e7 i (i+1) (by lia) (by lia) (by lia));rw[hs,g] at this;lia
  rw[hb,he,getElem?_pos t.place i (by lia)];have hs:dY w t (i+1)=t.place.getD i 0+1:=by show (if y4 w=true then 0 else _)=_;rw[hV b]
  have g:t.place.getD i 0=t.place[i]'(by lia):=by simp[aa7,show i<t.place.size from by lia]
  rw[hs,g] at q;exact q
theorem P6 {Q:Option WG->WT->Prop}(k:Ab w s.heap it a es.size ep t i)(x:lu w s.heap a es ep t)(ne:it≠a)(hi:i<es.size){e:Int×WG}(he:(tM w a ep es)[i]? = some e)
  (q:∀h',Ab w h' it a es.size ep t (i+1)->Yh it s.heap h'->Q (some e.2) {s with heap:=h'}):WX (Xg prog w) A (aaB (.ref it)) Q E s:=by
 obtain⟨oi,i1,i2,i3⟩:=k;have ty:s.TypeIs (.ref it) "set_iterator":=⟨oi,i1,i2⟩;have x0:=x;obtain⟨o,e1,e2,e3,e4,e5,e6,e7,e8⟩:=x;unfold aaB;refine Wv (Zl (Xy (name:=Yw "__next__") ty N6 (Xn N6 ty T4 ?_ (T5 _))));unfold Builtin.«set_iterator.__next__»;refine Wv (Wy ?_);refine Wv (aap i1 i3 ?_);change WX _ _ (setEntries a >>= _) _ _ s;refine Wv (abM e1 e3 e4 ?_);rw[hV (by simp)];change WX _ _ (setNext a (dY w t i:Int).toNat (i:Int).toNat (ep:Int).toNat >>= _) _ _ s;rw[Xk,Xk,Xk];refine Wv (vZ x0 hi he ?_);dsimp only;change WX _ _ (setField (.ref it) 0 _ >>= _) _ _ s;refine Wv (Zr i1 i3 (by simp[M3]) ?_);have UE:=YW (Obj.mapFields (·.setIfInBounds 0 (abh (dY w t (i+1):Nat)))) i1 (Z4 (YD i3 _));have To:=YD i3 (·.setIfInBounds 0 (abh (dY w t (i+1):Nat)));change WX _ _ (setField (.ref it) 1 _ >>= _) _ _ _;refine Wv (Zr UE To (by simp[M3]) ?_);refine Wy ⟨_,rfl,Wy (q _ ⟨_,YW _ UE (Z4 (YD To _)),(aa9 ..).trans ((aa9 ..).trans i2),?_⟩ ((X3 ..).trans (X3 ..)))⟩;rw[YD To];simp[M3,abh]
end
end Hc.Sy
namespace Hc.Sy
open PySem.SetTable Hc.Sx PySem.W
section
variable {A:XD}{es:Array (Int×WG)}
theorem BL {α:Type}(next:Nat->Nat):∀(n k:Nat) (left:List α) (out:Array α),left.length=n->(pickOrder.go next n k left out).toList.Perm (out.toList++left)
 |0,k,left,out,h=>by
  have:left=[]:=Yr h;subst this;unfold pickOrder.go;rw[Xr]
 |n+1,k,left,out,h=>by
  have hl:next k % left.length<left.length:=aae _ (by lia)
  unfold pickOrder.go;rw[Wx hl];dsimp only;refine (BL next n (k+1) _ _ (by rw[List.length_eraseIdx_of_lt hl];lia)).trans ?_;rw[ZH,W9];refine XY _ ?_;rw[List.eraseIdx_eq_take_drop_succ,List.singleton_append];refine List.perm_middle.symm.trans ?_;rw[←X6 hl,Xs]
theorem uY {α:Type}(next:Nat->Nat)(xs:Array α):(acC next xs).toList.Perm xs.toList:=by
 have:=BL next xs.size 0 xs.toList #[] (by simp)
 simpa [acC] using this
theorem yj:(tM w a ep es).toList.Perm es.toList:=by
 unfold tM;split
 ·exact uY _ _
 ·exact Yd _
theorem yk:(tM w a ep es).size=es.size:=by
 have:=(yj (w:=w) (a:=a) (ep:=ep) (es:=es)).length_eq;simpa using this
theorem v5 {Q:Option (WG×Nat)->WT->Prop}(x:lu w s.heap a es ep t)(q:Q none s):WX (Xg prog w) A (setNext a (dY w t es.size) es.size ep) Q E s:=by
 obtain⟨o,e1,e2,e3,e4,e5,e6,e7,e8⟩:=x;unfold setNext;refine Wv (X7 e1 e3 e4 ?_);dsimp only;unfold setsByText;refine Wv (Wv (Y2 (Wy ?_)));by_cases b:y4 w=true
 ·rw[hZ (show (Xg prog w).w.params.followText "set-order"=true from b),hV (by simp)];unfold setWalk setsByText;refine Wv (Wv (X7 e1 e3 e4 ?_));dsimp only;refine Wv (Wv (Y2 (Wy ?_)));rw[hZ (show (Xg prog w).w.params.followText "set-order"=true from b)];refine Wv (Y2 (Wy (Wy ?_)));have hz:(acC ((Xg prog w).w.params.setOrder a ep) es)[es.size]? = none:=by
   have:=(uY ((Xg prog w).w.params.setOrder a ep) es).length_eq;rw[Zh (by simpa using Nat.le_of_eq this)]
  rw[hz];exact q
 ·rw[hV (show ¬(Xg prog w).w.params.followText "set-order"=true from b)];have led:t.led=true:=e6.resolve_left b;have nd:(!t.plain&&decide (es.size>1))=false:=by rw[e5];rfl
  refine ez nd ?_;refine Wv (aax (a:=()) (by show (if (!t.led && !es.isEmpty)=true then _ else _)=_;rw[led];rfl) (Wy ?_));have hb:es.size<=below t.place (dY w t es.size):=by
   obtain⟨b1,b2,b3⟩:=mU (j:=dY w t es.size) e7;rcases YM (below t.place (dY w t es.size)) es.size with z|z
   ·exfalso;obtain⟨m,hm⟩:∃m,es.size=m+1:=⟨es.size-1,by lia⟩;have hs:dY w t es.size=t.place.getD m 0+1:=by rw[hm];show (if y4 w=true then 0 else _)=_;rw[hV b]
    have g:t.place.getD m 0=t.place[m]'(by lia):=by simp[aa7,show m<t.place.size from by lia]
    have:=b2 m (by lia) (by lia);rw[hs,g] at this;lia
   ·exact z
  rw[Zh hb];exact q
theorem P7 {Q:Option WG->WT->Prop}(hh:A.handled=none)(k:Ab w s.heap it a es.size ep t es.size)(x:lu w s.heap a es ep t)
  (q:∀h',Heap.ExtBut it s.heap h'->Q none {s with heap:=h'}):WX (Xg prog w) A (aaB (.ref it)) Q E s:=by
 obtain⟨oi,i1,i2,i3⟩:=k;have ty:s.TypeIs (.ref it) "set_iterator":=⟨oi,i1,i2⟩;have x0:=x;obtain⟨o,e1,e2,e3,e4,e5,e6,e7,e8⟩:=x;unfold aaB;refine Wv (Zl (Xy (name:=Yw "__next__") ty N6 (Xn N6 ty T4 ?_ (T5 _))));unfold Builtin.«set_iterator.__next__»;refine Wv (Wy ?_);refine Wv (aap i1 i3 ?_);change WX _ _ (setEntries a >>= _) _ _ s;refine Wv (abM e1 e3 e4 ?_);rw[hV (by simp)];change WX _ _ (setNext a (dY w t es.size:Int).toNat (es.size:Int).toNat (ep:Int).toNat >>= _) _ _ s;rw[Xk,Xk,Xk];refine Wv (v5 x0 ?_);dsimp only;change WX _ _ (setField (.ref it) 2 .none >>= _) _ _ s;refine Wv (Zr i1 i3 (by simp[M3]) ?_);change WX _ _ (newExc (.type "StopIteration") [] >>= _) _ _ _;refine Wv ?_;simp only[newExc,newTuple];refine Wv (Xi (hd:=by size_fits) ?_);refine Wv (m:=Zs _ _) (aax (a:=Value.none) (by first|rfl|(simp only[Zs];rfl)) (Xi (hd:=by size_fits) ?_));simp only[raiseNew];refine Wv (wpAny_handled ?_);rw[show A.in1.handled=none from hh];refine Wv (Wy (wpAny_throw ?_));refine Wv (ZP (b:=true) (T:="StopIteration") ⟨_,WL _ rfl,rfl⟩ acg ?_);exact Wy (q _ (((X3 ..).extBut.push _).push _))
theorem M4 (hh:A.handled=none)(Lj:a≠it):Walks prog w A it [it,a] [it] es.size (λi v=>∃e,(tM w a ep es)[i]? = some e/\v=e.2) (λi h=>Ab w h it a es.size ep t i/\lu w h a es ep t) where
 sub:=λb hb=>by simp at hb;simp[hb]
 frame:=λ_ _ _ st hk=>⟨st.1.at λo e=>hk it (by simp) o e,st.2.at λo e=>hk a (by simp) o e⟩
 item:=λi s Q E hi st hQ=>by
  have wX:i<(tM w a ep es).size:=by rw[yk];exact hi
  exact P6 st.1 st.2 (Ne.symm Lj) hi (getElem?_pos _ i wX) λh' t' sb=>hQ _ h' s.toks ⟨_,getElem?_pos _ i wX,rfl⟩ ⟨t',st.2.at λo e=>sb.extBut _ _ Lj e⟩ λb o hb e=>sb.extBut b o (λh=>hb (by simp[h])) e
 done:=λs Q E st hQ=>P7 hh st.1 st.2 λh' eb=>hQ h' s.toks λb o hb e=>eb b o (λh=>hb (by simp[h])) e
 self:=λi s Q E st hQ=>by
  obtain⟨oi,i1,i2,i3⟩:=st.1;have ty:s.TypeIs (.ref it) "set_iterator":=⟨oi,i1,i2⟩;refine aaf ty T6 (Xn T6 ty UW ?_ (UX _));change WX _ _ (ret (.ref it)) _ _ s;exact Wy ⟨_,rfl,"set_iterator",_,ty,N6.lookup,hQ⟩
theorem P8 {Q:Bool->WT->Prop}(hT:s.TypeIs (.ref a) "set")(h:Q false s):WX (Xg prog w) A (abN (.ref a)) Q E s:=by
 unfold abN;refine Wv (ZZ hT PySem.F.slot_set_len.lookup ?_);generalize hid:("set.__len__":String)=id0
 wp_delta
 rw[show splitId id0=some ("set","__len__") from by subst hid;decide+kernel];subst hid;refine Wv (ZP (T:="set") (b:=true) hT (by rw[isSubtype_type];kernel_rfl) ?_);refine wpAny_ite_split (λvi=>absurd vi (by decide)) (λ_=>?_);refine wpAny_ite_split (λ_=>?_) (λvi=>absurd (by decide+kernel) vi);refine Wv (abk hT ?_);exact Wy h
theorem SJ:KdlSrc prog w "set" a a es.size (λi v=>∃e,(tM w a ep es)[i]? = some e/\v=e.2) (λh=>lu w h a es ep t) where
 type:=λ_ hm=>hm.ty
 there:=λ_ hm=>⟨hm.lt,hm.lt⟩
 keep:=λ_ _ hm hk=>hm.at λo e=>hk a (.inl rfl) o e
 notList:=by decide
 notTuple:=by decide
 hint:=λ_ _ _ _ hm hq=>P8 hm.ty hq
 iter:=λ_ s hh hm=>⟨_,_,(λ_ _ hq=>P5 hm hq),M4 hh (Xj hm.lt),⟨⟨_,WL _ rfl,rfl,rfl⟩,hm.at λo e=>Wz _ e⟩⟩
end
end Hc.Sy
namespace Hc.Sy
open PySem.SetTable Hc.Sx PySem.W
noncomputable abbrev tI (prog:Zx)(w:ZU):aaO prog w (List Int):=acm (intKind prog w)
section
variable {A:XD}
theorem su {α β:Type}(f:α->β->Sem (ForInStep β))(b:β)(xs:Array α)(h:∀x∈xs.toList,f x b=pure (.yield b)):forIn xs b f=pure b:=by
 rw[←ab7];generalize xs.toList=l at h
 induction l with
 |nil=>rfl
 |cons x l ih=>
  rw[Z1,h x WM,pure_bind];exact ih λy hy=>h y (WO _ hy)
theorem KY {au:Array WG}{o:Obj}{Q:Option (Array WG)->WT->Prop}(e1:s.heap.get? a=some o)(e3:o.data=.seq au n)(q:Q (some au) s):WX (Xg prog w) A (seqItems? (.ref a)) Q E s:=by
 unfold seqItems?;refine Wv (wpAny_load e1 ?_);rw[e3];exact Wy q
theorem sv {ks:List Int}{vs:List WG}(h:ItemsAre (intKind prog w) ks vs):∀v∈vs,∃n t,v=.int n t:=by
 induction h with
 |nil=>intro v hv;cases hv
 | @cons k v' ks vs h1 _ ih=>
  intro v hv;rcases WZ.mp hv with rfl|hv
  ·obtain⟨t,rfl⟩:=Value.isInt_shape h1;exact⟨k,t,rfl⟩
  ·exact ih v hv
theorem U0:oI (tI prog w) where
 cls:=λ{A E s k a Q} hk q=>by
  obtain⟨o,au,n,e1,e2,e3,e4⟩:=hk;have ty:s.TypeIs (.ref a) "tuple":=⟨o,e1,e2⟩;unfold ofAClassStatement;refine Wv (abk ty ?_);change WX _ _ (pure true >>= _) _ _ s;refine Wv (Wy ?_);change WX _ _ (seqItems? (.ref a) >>= _) _ _ s;refine Wv (KY e1 e3 ?_);dsimp only;rw[su]
  ·exact Wv (Wy (Wy q))
  ·intro x hx;obtain⟨n,t,rfl⟩:=sv e4 x hx;rfl
 byv:=λ{A E s k a Q} hk q=>by
  obtain⟨o,au,n,e1,e2,e3,e4⟩:=hk;have ty:s.TypeIs (.ref a) "tuple":=⟨o,e1,e2⟩;unfold hashByValue;refine Wv (ZZ ty PySem.F.slot_tuple_hash.lookup ?_);change WX _ _ (seqItems? (.ref a) >>= _) _ _ s;refine Wv (KY e1 e3 ?_);dsimp only[Option.getD];rw[su]
  ·exact Wv (Wy (Wy q))
  ·intro x hx;obtain⟨n,t,rfl⟩:=sv e4 x hx;rfl
 kept:=λ{h h' k a d o es ep t} hk ho hd hs=>by
  obtain⟨o1,au,n,e1,e2,e3,e4⟩:=hk;have ne:a≠d:=λz=>by
   subst z;rw[e1] at ho;cases ho;rw[e3] at hd;cases hd
  exact⟨o1,au,n,hs.extBut _ _ ne e1,e2,e3,e4⟩
end
end Hc.Sy
namespace L2
open Hc.Dw Hc.Ts
noncomputable def P9:V->Int
 | .int i=>i
 |_=>0
noncomputable def cE (H:Hp)(b:W8):List Int:=match H b with
 |some (.tup xs)=>xs.map P9
 |_=>[]
theorem ym (ns:List Int):(ns.map V.int).map P9=ns:=by
 induction ns with
 |nil=>rfl
 |cons n r ih=>rw[WB,WB,ih];rfl
def M5 (K:WD)(H:Hp)(p:W8)(bs:List W8):Prop:=gc K H p (bs.map V.ref)\/gU K H p (bs.map V.ref)\/∃ep es,H p=some (DN p ep es)/\es.map (·.2.1)=bs
theorem kZ:∀{bs:List W8} {au:List WG},aW (bs.map V.ref) au->au=bs.map Value.ref
 | [],_,.nil=>rfl
 |b::bs,_,.cons r t=>by rw[WB,kZ t];cases r;rfl
theorem uZ:∀(bs:List W8),aW (bs.map V.ref) (bs.map Value.ref)
 | []=>.nil
 |b::bs=>.cons rfl (uZ bs)
theorem u3 {bs:List W8}{out:List WG}(h:out.Perm (bs.map Value.ref)):∃kg:List W8,out=kg.map Value.ref/\kg.Perm bs:=by
 let g:WG->W8:=λv=>match v with
  | .ref a=>a
  |_=>0
 refine⟨out.map g,?_,?_⟩
 ·rw[WW]
  conv=>lhs;rw[←List.map_id out]
  apply W3;intro v hv;obtain⟨b,_,rfl⟩:=WN.mp (h.mem_iff.mp hv);rfl
 ·have:=h.map g;rw[WW] at this;have e:bs.map (g∘Value.ref)=bs:=by
   conv=>rhs;rw[←List.map_id bs]
   apply W3;intro b _;rfl
  rw[e] at this;exact this
theorem Ji (I:az X pins σ H s)(h:H b=some (.tup (ns.map V.int)))(n:ns≠[]):yf s.heap (.ref b)/\vY s.heap (.ref b)=cE H b:=by
 obtain⟨_,au,rv,it,_⟩:=I.hok b _ h;have ia:=jD rv;refine⟨⟨b,au.toArray,ns,rfl,it,by simpa using ia,n⟩,?_⟩;rw[m6 it (by simpa using ia)];unfold cE;rw[h];exact (ym ns).symm
theorem u4 {v:WG}(t:yf h v)(k:∀b au,h.IsTuple b au->h'.IsTuple b au):yf h' v/\vY h' v=vY h v:=by
 obtain⟨a,au,ns,rfl,q,i,n⟩:=t;refine⟨⟨a,au,ns,rfl,k a au q,i,n⟩,?_⟩;rw[m6 q i,m6 (k a au q) i]
theorem BM {h:Zv}:∀{vs:List WG},(∀v∈vs,yf h v)->∃fs,PySem.W.KatTups h vs fs/\fs.length=vs.length/\∀f∈fs,∃n t,f=.int n t
 | [],_=>⟨[],.nil,rfl,λf hf=>by cases hf⟩
 |v::vs,hv=>by
  obtain⟨fs,k1,k2,k3⟩:=BM (vs:=vs) λu hu=>hv u (WO _ hu);obtain⟨a,au,ns,rfl,⟨o,e,c,n,d⟩,i,ne⟩:=hv v WM;have:∃m t r,au.toList=.int m t::r:=by
   generalize au.toList=l at i;cases i with
   |nil=>exact absurd rfl ne
   |cons m t r=>exact⟨m,t,_,rfl⟩
  obtain⟨m,t,r,el⟩:=this;refine⟨.int m t::fs,.cons e c d (by rw[←W4,el];rfl) k1,by rw[WS,WS,k2],λf hf=>?_⟩;rcases WZ.mp hf with rfl|hf
  ·exact⟨m,t,rfl⟩
  ·exact k3 f hf
noncomputable def P_:WG->W8
 | .ref a=>a
 |_=>0
theorem Ac {O:acA}{bs:List W8}{Q:VK}(kf:W8->O.α)(knd:aaR)(I:az X pins σ H s)(hz:bs.length<=1000000)(hu:X.A.units+64<YH)(kk:∀(A:XD) (E:WG->WT->Prop) (j5:List W8) (s6:WT) (Q6:aaR->WT->Prop),j5.Perm bs->2<=j5.length->(∀b o,s.heap.get? b=some o->s6.heap.get? b=some o)->Q6 knd s6->WX (Xg X.prog X.w) A (keyKind' (j5.map Value.ref).toArray) Q6 E s6)(kc:2<=bs.length->∀(A:XD) (E:WG->WT->Prop) (s6:WT),A.units<YH->(∀b o,s.heap.get? b=some o->s6.heap.get? b=some o)->lR (Xg X.prog X.w) A E s6 O (λx=>kf (P_ x.1)) knd (λx=>∃b∈bs,x.1=.ref b))(QX:∀(Q:List WG->WT->Prop) (E:WG->WT->Prop),(∀h1 tk (j5:List W8),j5.Perm bs->(∀b o,s.heap.get? b=some o->h1.get? b=some o)->Q (j5.map Value.ref) {s with heap:=h1,toks:=tk})->WX (Xg X.prog X.w) X.A.in1 (collect (.ref p)) Q E s)(q:∀(l:W8) (kg:List W8),H l=none->kg.Perm bs->kg.Pairwise (λx y=>O.blt (kf y) (kf x)=false)->Q (.ref l) (cD H l (.lst (kg.map V.ref)))) :
  WX (Xg X.prog X.w) X.A (call (.builtin "sorted") [.ref p]) (EP X pins σ Q) X.xe s:=by
 refine ace kind_sorted plain_sorted entry_sorted (args_sorted1 _) ?_;unfold Builtin.«sorted»;refine Wv (m:=checkCount "sorted" 1 1 _) (Wy ?_);refine Wv (QX _ _ λh1 tk j5 Dv k1=>?_);have hz:j5.length<=1000000:=by rw[Dv.length_eq];exact hz
 have Ht:j5.length<=WC:=by rw[YA];lia
 have I1:az X pins σ H {s with heap:=h1,toks:=tk}:=I.kept (t':=tk) k1;refine Wv (wpAny_newList ?_ (by rw[Ww];exact Ht));have NK:(h1.push {cls:=.type "list",data:=.seq (j5.map Value.ref).toArray}).get? h1.objs.size=some (ab6 "list" (j5.map Value.ref).toArray 0):=WL _ rfl;have kt:∀(h6:Zv),(∀b o,b≠h1.objs.size->(h1.push {cls:=.type "list",data:=.seq (j5.map Value.ref).toArray}).get? b=some o->h6.get? b=some o)->∀b o,s.heap.get? b=some o->h6.get? b=some o:=λh6 k6 b o e=>
  k6 b o (Xj (WU (k1 b o e))) (Wz _ (k1 b o e))
 refine Wv (X0 (Xn slot_list_sort ⟨_,NK,rfl⟩ entry_list_sort (F8 (s:={s with heap:=h1.push {cls:=.type "list",data:=.seq (j5.map Value.ref).toArray},toks:=tk}) (O:=O) (key:=λx=>kf (P_ x.1)) (knd:=knd) (D:=λx=>∃b∈bs,x.1=.ref b) NK (by rw[Ww];exact hz)
  (λh2 h6 Q6 k6 q6=>kk _ _ j5 _ _ Dv (by rw[Ww] at h2;exact h2) (kt h6 k6) q6) (λh2 h6 k6=>kc (by rw[Ww] at h2;rw[←Dv.length_eq];exact h2) _ _ _ (by show X.A.units+1+1<YH;lia) (kt h6 k6)) (λv hv=>by
   obtain⟨b,hb,rfl⟩:=WN.mp hv;exact⟨b,Dv.mem_iff.mp hb,rfl⟩) λout hp hw=>⟨_,rfl,?_⟩) (args_list_sort _)))
 obtain⟨kg,e,Hm⟩:=u3 hp;subst e;obtain⟨ee,he⟩:=sortedHeap_at (out:=(kg.map Value.ref).toArray) NK;have keep:∀b o,h1.get? b=some o->(sortedHeap (h1.push {cls:=.type "list",data:=.seq (j5.map Value.ref).toArray}) h1.objs.size (j5.map Value.ref) (kg.map Value.ref).toArray).get? b=some o:=λb o e=>by
  have hb:=WU e;rw[sortedHeap_old (Xj hb) (by rw[YU];exact aab hb)];exact Wz _ e
 have Ho:(kg.map V.ref).length<=WC:=by rw[Ww,Hm.length_eq];exact Ht
 refine Wy ⟨_,rfl,.ref h1.objs.size,_,I1.laid (t':=tk) keep (WK _) (show bO X.prog X.w _ _ _ (.lst _) from ⟨Ho,kg.map Value.ref,ee,uZ kg,by simpa using he⟩),rfl,q _ kg (I1.hok.fresh (WK _)) (Hm.trans Dv) ?_⟩;exact Za.mp hw
theorem pz {bs:List W8}{Q:VK}(I:az X pins σ H s)(hz:bs.length<=1000000)(hu:X.A.units+64<YH)(tu:∀b∈bs,∃ns:List Int,H b=some (.tup (ns.map V.int))/\ns≠[])(QX:∀(Q:List WG->WT->Prop) (E:WG->WT->Prop),(∀h1 tk (j5:List W8),j5.Perm bs->(∀b o,s.heap.get? b=some o->h1.get? b=some o)->Q (j5.map Value.ref) {s with heap:=h1,toks:=tk})->WX (Xg X.prog X.w) X.A.in1 (collect (.ref p)) Q E s)(q:∀(l:W8) (kg:List W8),H l=none->kg.Perm bs->kg.Pairwise (λx y=>gu (cE H y) (cE H x)=false)->Q (.ref l) (cD H l (.lst (kg.map V.ref)))) :
  WX (Xg X.prog X.w) X.A (call (.builtin "sorted") [.ref p]) (EP X pins σ Q) X.xe s:=by
 have tI:∀b∈bs,yf s.heap (.ref b)/\vY s.heap (.ref b)=cE H b:=λb hb=>by
  obtain⟨ns,e,ne⟩:=tu b hb;exact Ji I e ne
 have kt:∀(h6:Zv),(∀b o,s.heap.get? b=some o->h6.get? b=some o)->∀b au,s.heap.IsTuple b au->h6.IsTuple b au:=λh6 k6 b au ⟨o,e,z⟩=>⟨o,k6 b o e,z⟩;refine Ac (O:=Jg) (cE H) (tuples' true) I hz hu (λA E j5 s6 Q6 Dv h2 k6 q6=>?_) (λ_ A E s6 hA k6=>?_) QX q
 ·obtain⟨fs,f1,f2,f3⟩:=BM (h:=s6.heap) (vs:=j5.map Value.ref) λv hv=>by
   obtain⟨b,hb,rfl⟩:=WN.mp hv;exact (u4 (tI b (Dv.mem_iff.mp hb)).1 (kt _ k6)).1
  exact PySem.W.kat_kind (T:=.type "int") f1 (by rw[f2,Ww];lia) (λv hv=>by
   obtain⟨n,t,rfl⟩:=f3 v hv;exact PySem.W.Looks.of_pure rfl) (by decide) q6
 ·have c:=Jh (prog:=X.prog) (w:=X.w) (A:=A) (E:=E) (s:=s6) (hp:=s.heap) λv hv=>u4 hv (kt _ k6);refine⟨λx y st Q dx dy kd qq=>?_⟩;obtain⟨b,hb,e1⟩:=dx;obtain⟨d,hd,e2⟩:=dy;refine c.lt x y st Q (by rw[e1];exact (tI b hb).1) (by rw[e2];exact (tI d hd).1) kd ?_;rw[e1,e2,(tI b hb).2,(tI d hd).2];rw[e1,e2] at qq;exact qq
theorem v7 (hc:X.calm=true)(hu:X.A.units+64<YH):eE X (.builtin "sorted") (λxs H Q=>∃(p:W8) (bs:List W8),xs=[.ref p]/\M5 X.K H p bs/\bs.length<=1000000/\(∀b∈bs,∃ns:List Int,H b=some (.tup (ns.map V.int))/\ns≠[])/\
  ∀(l:W8) (kg:List W8),H l=none->kg.Perm bs->kg.Pairwise (λx y=>gu (cE H y) (cE H x)=false)->Q (.ref l) (cD H l (.lst (kg.map V.ref)))):=by
 intro pins s σ H xs us Q I r h;obtain⟨p,bs,rfl,QN,hz,tu,q⟩:=h;obtain⟨u,rfl,rx⟩:=jf r;cases rx;have Ht:bs.length<=WC:=by rw[YA];lia
 have QX:∀(Q:List WG->WT->Prop) (E:WG->WT->Prop),(∀h1 tk (j5:List W8),j5.Perm bs->(∀b o,s.heap.get? b=some o->h1.get? b=some o)->Q (j5.map Value.ref) {s with heap:=h1,toks:=tk})->WX (Xg X.prog X.w) X.A.in1 (collect (.ref p)) Q E s:=by
  intro Q E hq;rcases QN with hs|hs|⟨ep,es,hs,rfl⟩
  ·obtain⟨au,rv,pl,_⟩:=I.list hs;obtain⟨o,e,c,n,d⟩:=pl.isList;have e2:=kZ rv;subst e2;exact acu p (.inl rfl) e c d (λh1 k1=>by simpa using hq h1 s.toks bs (Yd _) k1) (by rw[WJ,Ww];exact Ht)
  ·obtain⟨au,rv,pl,_⟩:=I.tuple hs;obtain⟨o,e,c,n,d⟩:=pl;have e2:=kZ rv;subst e2;exact acu p (.inr rfl) e c d (λh1 k1=>by simpa using hq h1 s.toks bs (Yd _) k1) (by rw[WJ,Ww];exact Ht)
  ·obtain⟨lo,ds,rd,n,at_⟩:=I.rawD hs;refine pq (A:=X.A.in1) (P4 lo) (I.ok.hd hc) rd (by rw[n];rw[Ww] at Ht;exact Ht) λh1 tk bq k1 ia=>?_;have e:bq.toList=(es.map (·.2.1)).map Value.ref:=by
    apply ZD;intro i;rw[W4,WW,WQ];by_cases hi:i<bq.size
    ·rw[getElem?_pos bq i hi];obtain⟨en,e1,e2⟩:=ia.2 i _ (getElem?_pos bq i hi);have wX:i<ds.size:=by rw[←ia.1];exact hi
     rw[getElem?_pos ds i wX] at e1;cases e1;obtain⟨x,m,ek,_⟩:=at_ i wX;rw[m,e2,ek];rfl
    ·rw[getElem?_neg bq i hi,Z6 (by rw[←n,←ia.1];lia)];rfl
   rw[e];exact hq h1 tk _ (Yd _) k1
 exact pz I hz hu tu QX q
end L2
namespace L2
open Hc.Dw Hc.Ts
noncomputable def ao (ns:List Int):U:=.tup (ns.map .int)
noncomputable def Jj:U->Option (List Int)
 | .tup xs=>match kz xs with
  |some (n::ns)=>some (n::ns)
  |_=>none
 |_=>none
noncomputable def sC:List U->Option (List (List Int))
 | []=>some []
 |u::us=>match Jj u,sC us with
  |some ns,some md=>some (ns::md)
  |_,_=>none
noncomputable def C7 (x:List Int):List (List Int)->List (List Int)
 | []=>[x]
 |y::r=>if gu y x=true then y::C7 x r else x::y::r
noncomputable def dO (l:List (List Int)):List (List Int):=l.foldr C7 []
theorem n9 (x:List Int):∀l,(C7 x l).Perm (x::l)
 | []=>.refl _
 |y::r=>by
  unfold C7;split
  ·exact ((n9 x r).cons y).trans (.swap x y r)
  ·exact .refl _
theorem aZ:∀l,(dO l).Perm l
 | []=>.refl _
 |x::l=>(n9 x _).trans ((aZ l).cons x)
def Qa (l:List (List Int)):Prop:=l.Pairwise λx y=>gu y x=false
theorem BN (x:List Int):∀{l},Qa l->Qa (C7 x l)
 | [],_=>ZN _ _
 |y::r,h=>by
  obtain⟨h1,h2⟩:=YB.mp h;unfold C7;split
  ·rename_i c;refine YB.mpr ⟨λz hz=>?_,BN x h2⟩;rcases WZ.mp ((n9 x r).mem_iff.mp hz) with rfl|hz
   ·exact KeyOrd.klt_asymm (O:=Jg) c
   ·exact h1 z hz
  ·rename_i c;have c:gu y x=false:=by simpa using c
   refine YB.mpr ⟨λz hz=>?_,h⟩;rcases WZ.mp hz with rfl|hz
   ·exact c
   ·exact Xu (O:=Jg) (a:=x) (b:=y) (c:=z) c (h1 z hz)
theorem kF:∀l,Qa (dO l)
 | []=>List.Pairwise.nil
 |x::l=>BN x (kF l)
theorem qy:∀{l m:List (List Int)},l.Perm m->Qa l->Qa m->l=m
 | [],m,p,_,_=>(List.nil_perm.mp p).symm
 |x::l,[],p,_,_=>absurd p.length_eq (by simp)
 |x::l,y::m,p,h1,h2=>by
  obtain⟨a1,a2⟩:=YB.mp h1;obtain⟨b1,b2⟩:=YB.mp h2;have e:x=y:=by
   have hx:x∈y::m:=p.mem_iff.mp WM;have hy:y∈x::l:=p.mem_iff.mpr WM;rcases WZ.mp hx with rfl|hx
   ·rfl
   ·rcases WZ.mp hy with rfl|hy
    ·rfl
    ·exact lW x y (b1 x hx) (a1 y hy)
  subst e;rw[qy (p.cons_inv) a2 b2]
theorem Jk (h:Jj u=some ns):u=ao ns/\ns≠[]:=by
 unfold Jj at h;split at h
 ·split at h
  ·rename_i xs n r e;cases h;rw[qo e];exact⟨rfl,by simp⟩
  ·cases h
 ·cases h
theorem kG:∀{us:List U} {md:List (List Int)},sC us=some md->us=md.map ao/\∀ns∈md,ns≠[]
 | [],_,h=>by cases h;exact⟨rfl,λns hn=>by cases hn⟩
 |u::us,md,h=>by
  unfold sC at h;split at h
  ·rename_i ns r e1 e2;cases h;obtain⟨e3,n3⟩:=Jk e1;obtain⟨e4,n4⟩:=kG e2;refine⟨by rw[WB,←e3,←e4],λz hz=>?_⟩;rcases WZ.mp hz with rfl|hz
   ·exact n3
   ·exact n4 z hz
  ·cases h
theorem M6 (h:Rp K H A (ao ns) v):∃b,v=.ref b/\H b=some (.tup (ns.map V.int))/\ns.length<=WC:=by
 unfold ao Rp at h;obtain⟨b,ys,e,q,l,r⟩:=h;rw[r.toI] at q;exact⟨b,e,q,by simpa using l⟩
theorem M7 (q:H b=some (.tup (ns.map V.int)))(l:ns.length<=WC):Rp K H A (ao ns) (.ref b):=by
 unfold ao Rp;exact⟨b,_,rfl,q,by simpa using l,mR ns⟩
theorem v9 (q:H b=some (.tup (ns.map V.int))):cE H b=ns:=by unfold cE;rw[q];exact ym ns
theorem kH:∀{md:List (List Int)} {xs:List V},aE K H A (md.map ao) xs->∃bs:List W8,xs=bs.map V.ref/\bs.map (cE H)=md/\∀b∈bs,H b=some (.tup ((cE H b).map V.int))/\(cE H b).length<=WC
 | [],xs,h=>by rw[XX] at h;unfold aE at h;subst h;exact⟨[],rfl,rfl,λb hb=>by cases hb⟩
 |ns::md,xs,h=>by
  rw[WB] at h;unfold aE at h;obtain⟨x,r,rfl,h1,h2⟩:=h;obtain⟨b,rfl,q,l⟩:=M6 h1;obtain⟨bs,rfl,e,z⟩:=kH h2;refine⟨b::bs,rfl,by rw[WB,e,v9 q],λc hc=>?_⟩;rcases WZ.mp hc with rfl|hc
  ·rw[v9 q];exact⟨q,l⟩
  ·exact z c hc
theorem yn {bs:List W8}(h:∀b∈bs,H b=some (.tup ((cE H b).map V.int))/\(cE H b).length<=WC):aE K H A ((bs.map (cE H)).map ao) (bs.map V.ref):=by
 induction bs with
 |nil=>exact aE.nil
 |cons b bs ih=>exact aE.cons (M7 (h b WM).1 (h b WM).2) (ih λc hc=>h c (WO _ hc))
noncomputable def kI (us:List U):R U:=match sC us with
 |some md=>if md.length<=1000000 then .ok (.lst ((dO md).map ao)) else .stk
 |none=>.stk
noncomputable def sD:List U->R U:=λus=>match us with
 | [.lst xs]=>kI xs
 | [.tup xs]=>kI xs
 | [.dct ks _]=>if zU ks=true then kI ks else .stk
 |_=>.stk
def v_ (K:WD):List V->Hp->VK->Prop:=λxs H Q=>∃(p:W8) (bs:List W8),xs=[.ref p]/\M5 K H p bs/\bs.length<=1000000/\(∀b∈bs,∃ns:List Int,H b=some (.tup (ns.map V.int))/\ns≠[])/\
  ∀(l:W8) (kg:List W8),H l=none->kg.Perm bs->kg.Pairwise (λx y=>gu (cE H y) (cE H x)=false)->Q (.ref l) (cD H l (.lst (kg.map V.ref)))
theorem C8:mL K (v_ K) .O sD:=λA H vs us z Q h mu e q=>by
 have fin:∀(xs:List U) (p:W8) (bs:List W8),kI xs=.ok z->aE K H A xs (bs.map V.ref)->M5 K H p bs->v_ K [.ref p] H Q:=by
  intro xs p bs e r QN;unfold kI at e;split at e
  ·rename_i md e1;split at e
   ·rename_i hz;cases e;obtain⟨e2,ne⟩:=kG e1;subst e2;obtain⟨j5,e3,e4,e5⟩:=kH r;have e6:bs=j5:=by
     have:Function.Injective V.ref:=λa b h=>by cases h;rfl
     exact (List.map_inj_right λ_ _ h=>by cases h;rfl).mp e3
    subst e6;have n1:bs.length=md.length:=by rw[←e4,Ww]
    refine⟨p,bs,rfl,QN,by lia,λb hb=>⟨_,(e5 b hb).1,ne _ (by rw[←e4];exact XB hb)⟩,λl kg hn hp hw=>?_⟩;have e7:kg.map (cE H)=dO md:=qy ((hp.map (cE H)).trans (by rw[e4];exact (aZ md).symm)) (Za.mpr hw) (kF md);refine q _ _ (cC hn _) ⟨l,rfl,hn,?_⟩;rw[←e7];refine bT mu (yn λb hb=>e5 b (hp.mem_iff.mp hb)) hn ?_;have:WC=16777216:=rfl;rw[Ww,Ww,hp.length_eq];lia
   ·cases e
  ·cases e
 unfold sD at e;split at e
 ·obtain⟨v,rfl,p⟩:=h.one;unfold Pk at p;obtain⟨a,ys,rfl,h1,l1,r1⟩:=p;have e':=e;unfold kI at e';split at e'
  ·rename_i md e1;have r2:=r1;rw[(kG e1).1] at r2;obtain⟨bs,rfl,_⟩:=kH r2;exact fin _ a bs e r1 (.inl (gc.of h1))
  ·cases e'
 ·obtain⟨v,rfl,p⟩:=h.one;unfold Pk at p;obtain⟨a,ys,rfl,h1,l1,r1⟩:=p;have e':=e;unfold kI at e';split at e'
  ·rename_i md e1;have r2:=r1;rw[(kG e1).1] at r2;obtain⟨bs,rfl,_⟩:=kH r2;exact fin _ a bs e r1 (.inr (.inl (gU.of h1)))
  ·cases e'
 ·rename_i ks ws;split at e
  ·rename_i c;obtain⟨v,rfl,p⟩:=h.one;unfold Pk at p;obtain⟨a,ys,rfl,h1,l1,r1⟩:=p;obtain⟨es,ep,q1,kt,e1,e2⟩:=zV c h1;refine fin ks a (es.map (·.2.1)) e ?_ (.inr (.inr ⟨ep,es,q1,rfl⟩));subst e1;clear e fin e2 r1 h1 c q1 h
   induction es with
   |nil=>exact aE.nil
   |cons x es ih=>exact aE.cons (FY (kt x WM)) (ih λy hy=>kt y (WO _ hy))
  ·cases e
 ·cases e
def F9 (K:WD):List V->Hp->VK->Prop:=λxs H Q=>∃(p:W8) (ns:List Int),xs=[.ref p]/\(gc K H p (ns.map V.int)\/gU K H p (ns.map V.int))/\ns.length<64/\
  ∀(l:W8) (vh:List Int),H l=none->vh.Perm ns->vh.Pairwise (·<=·)->Q (.ref l) (cD H l (.lst (vh.map V.int)))
noncomputable def u5:List U->R U:=λus=>match zC us with
 | .ok z=>.ok z
 |_=>sD us
theorem F_:mL K (λxs H Q=>F9 K xs H Q\/v_ K xs H Q) .O u5:=λA H vs us z Q h mu e q=>by
 unfold u5 at e;split at e
 ·rename_i z' e1;cases e;exact .inl (CG A H vs us _ Q h mu e1 q)
 ·exact .inr (C8 A H vs us z Q h mu e q)
theorem C9 (hc:X.calm=true)(hu:X.A.units+64<YH):eE X (.builtin "sorted") (λxs H Q=>F9 X.K xs H Q\/v_ X.K xs H Q):=by
 intro pins s σ H xs us Q I r h;rcases h with h|h
 ·exact vx pins s σ H xs us Q I r h
 ·exact v7 hc hu pins s σ H xs us Q I r h
end L2
namespace L2
open Hc.Dw Hc.Ts Hc.Sx Hc.Sy
noncomputable def jn (bq:List (List Int))(x:List Int):List (List Int):=if x∈bq then bq else bq++[x]
noncomputable def cY (l:List (List Int)):List (List Int):=l.foldl jn []
def C_ (w:ZU)(l:W8)(bs:List W8)(h:Zv):Prop:=∃es ep t,lu w h l es ep t/\(es.toList.map (·.2)).Perm (bs.map Value.ref)
theorem Ga {vs:List WG}(h:abp vs ns):ItemsAre (intKind prog w) ns vs:=by
 induction h with
 |nil=>exact .nil
 |cons n t _ ih=>exact .cons (intKind_is _ _ _ _) ih
section
variable {e:YV}{p_ p1:Pos}{b1:Bool}{ga:Ev->R (List U×Ev)}
noncomputable def m7 (H:Hp)(bs:List W8)(i:Nat):List Int×W8:=(cE H (bs.getD i 0),bs.getD i 0)
theorem u6 (H:Hp)(bs:List W8):∀n,n<=bs.length->(dN (m7 H bs) n).map (·.1)=cY ((bs.take n).map (cE H))
 |0,_=>by simp[dN,cY]
 |n+1,h=>by
  have hn:n<bs.length:=by lia
  have ih:=u6 H bs n (by lia);have e1:bs.take (n+1)=bs.take n++[bs[n]]:=Xd hn;have e2:m7 H bs n=(cE H bs[n],bs[n]):=by unfold m7;simp[List.getD,Wx hn]
  rw[e1,WR];unfold cY at ih ⊢;rw[abb,←ih];show (lF (dN (m7 H bs) n) (m7 H bs n).1 (m7 H bs n).2).map (·.1)=jn ((dN (m7 H bs) n).map (·.1)) (cE H bs[n]);rw[e2];unfold lF jn;dsimp only;by_cases c:cE H bs[n]∈(dN (m7 H bs) n).map (·.1)
  ·rw[hZ c,hZ c]
  ·rw[hV c,hV c,WR];rfl
theorem yo (H:Hp)(bs:List W8):(dN (m7 H bs) bs.length).map (·.1)=cY (bs.map (cE H)):=by
 rw[u6 H bs _ (WK _),XR]
def KZ (w:ZU)(K:WD):List V->Hp->VK->Prop:=λxs H Q=>∃(p:W8) (bs:List W8),xs=[.ref p]/\gc K H p (bs.map V.ref)/\(∀b∈bs,H b=some (.tup ((cE H b).map V.int)))/\(cY (bs.map (cE H))).length<2046/\
 ∀(l:W8) (j5:List W8),H l=none->j5.map (cE H)=cY (bs.map (cE H))->(∀b∈j5,b∈bs)->Q (.ref l) (cD H l (.ext (C_ w l j5)))
theorem Dd (hc:X.calm=true)(hu:X.A.units+64<YH):eE X (.type "set") (KZ X.w X.K):=by
 intro pins s σ H xs us Q I r h;obtain⟨p,bs,rfl,hs,tu,hb,q⟩:=h;obtain⟨u,rfl,rx⟩:=jf r;cases rx;obtain⟨au,rv,pl,_⟩:=I.list hs;have e2:=kZ rv;subst e2;have sz:(bs.map Value.ref).toArray.size=bs.length:=by simp
 refine xR (knd:=tI X.prog X.w) (val:=m7 H bs) U0 (λ{h h' k a} hk m=>?_) (show X.A.units+1+1+1<YH by lia) (I.ok.hd hc) pl.isList (λi v hv=>?_) (λj hj=>?_) ?_ λh' tk hS hk=>?_
 ·obtain⟨o,au,n,e1,e2,e3,e4⟩:=hk;obtain⟨o',Az,G9,n',e3'⟩:=m a au ⟨o,e1,e2,n,e3⟩;exact⟨o',au,n',Az,G9,e3',e4⟩
 ·rw[←W4] at hv;rw[WQ] at hv;unfold m7;cases z:bs[i]? with
  |none=>rw[z] at hv;cases hv
  |some b=>rw[z] at hv;simp only[List.getD,z,Option.getD_some];exact (W6 hv).symm
 ·have hj:j<bs.length:=by rw[sz] at hj;exact hj
  have em:bs.getD j 0=bs[j]:=by simp[List.getD,Wx hj]
  unfold m7;rw[em];obtain⟨_,au,rv,it,_⟩:=I.hok _ _ (tu _ (Xh hj));obtain⟨o,h1,h2,n,h3⟩:=it;exact⟨o,_,n,h1,h2,h3,by simpa using Ga (jD rv)⟩
 ·rw[sz];have:=congrArg List.length (yo H bs);rw[Ww] at this;lia
 ·rw[sz] at hS;obtain⟨o,es,ep,t,C,g1,g2,g3,g4,g5⟩:=hS;have Tp:lu X.w h' s.heap.objs.size es ep t:=⟨o,g1,g2,g3,g4.fits,g4.pl,g5,g4.tab.ris,g4.tab.sz⟩;have mem:∀x∈dN (m7 H bs) bs.length,x.1=cE H x.2/\x.2∈bs:=λx hx=>by
   obtain⟨j,hj,rfl⟩:=kW _ _ x hx;refine⟨rfl,?_⟩;have em:bs.getD j 0=bs[j]:=by simp[List.getD,Wx hj]
   show bs.getD j 0∈bs;rw[em];exact Xh hj
  refine⟨.ref s.heap.objs.size,_,I.laid (a:=s.heap.objs.size) (o:=.ext (C_ X.w s.heap.objs.size ((dN (m7 H bs) bs.length).map (·.2)))) (t':=tk) hk (WK _)
   ⟨⟨es,ep,t,Tp,?_⟩,⟨o,g1⟩,λh1 h2 ⟨es,ep,t,r,z⟩ k=>⟨es,ep,t,r.at k,z⟩⟩,rfl,q _ _ (I.hok.fresh (WK _)) ?_ λb hb=>?_⟩
  ·refine (g4.per.map (·.2)).trans (List.Perm.of_eq ?_);rw[WW,WW];rfl
  ·rw[←yo H bs,WW];exact W3 λx hx=>(mem x hx).1.symm
  ·obtain⟨x,hx,rfl⟩:=WN.mp hb;exact (mem x hx).2
def Gb (w:ZU):List V->Hp->VK->Prop:=λxs H Q=>∃(p:W8) (bs:List W8),xs=[.ref p]/\H p=some (.ext (C_ w p bs))/\bs.length<=1000000/\(∀b∈bs,∃ns:List Int,H b=some (.tup (ns.map V.int))/\ns≠[])/\
  ∀(l:W8) (kg:List W8),H l=none->kg.Perm bs->kg.Pairwise (λx y=>gu (cE H y) (cE H x)=false)->Q (.ref l) (cD H l (.lst (kg.map V.ref)))
theorem Ad (hc:X.calm=true)(hu:X.A.units+64<YH):eE X (.builtin "sorted") (Gb X.w):=by
 intro pins s σ H xs us Q I r h;obtain⟨p,bs,rfl,hs,hz,tu,q⟩:=h;obtain⟨u,rfl,rx⟩:=jf r;cases rx;obtain⟨⟨es,ep,t,Tp,per⟩,_,_⟩:=I.hok p _ hs;refine pz I hz hu tu (λQ E hq=>?_) q;have n:es.size=bs.length:=by have:=per.length_eq;simpa using this
 refine pq (A:=X.A.in1) SJ (I.ok.hd hc) Tp (by rw[n,YA];lia) λh1 tk bq k1 ia=>?_;have e:bq.toList=(tM X.w p ep es).toList.map (·.2):=by
  apply ZD;intro i;rw[W4,WQ,W4];by_cases hi:i<bq.size
  ·rw[getElem?_pos bq i hi];obtain⟨en,e1,e2⟩:=ia.2 i _ (getElem?_pos bq i hi);rw[e1,e2];rfl
  ·rw[getElem?_neg bq i hi,getElem?_neg _ i (by rw[yk,←ia.1];exact hi)];rfl
 obtain⟨j5,e3,e4⟩:=u3 ((yj.map (·.2)).trans per);rw[e,e3];exact hq h1 tk j5 e4 k1
noncomputable def jo:List U->R U:=λus=>match us with
 | [.lst xs]=>match sC xs with
  |some md=>if (cY md).length<2046 then .ok (.lst ((dO (cY md)).map ao)) else .stk
  |none=>.stk
 |_=>.stk
theorem yp:∀(l bq:List (List Int)) (x:List Int),x∈l.foldl jn bq->x∈bq\/x∈l
 | [],bq,x,h=>.inl h
 |y::l,bq,x,h=>by
  rcases yp l _ x h with z|z
  ·unfold jn at z;split at z
   ·exact .inl z
   ·rcases Xa.mp z with z|z
    ·exact .inl z
    ·exact .inr (by rw[W0.mp z];exact WM)
  ·exact .inr (WO _ z)
theorem yq:mL K (λvs H Q=>KZ w K vs H λx H2=>Gb w [x] H2 Q) .O jo:=λA H vs us z Q h mu e q=>by
 unfold jo at e;split at e
 ·rename_i xs;split at e
  ·rename_i md e1;split at e
   ·rename_i hl;cases e;obtain⟨v,rfl,p⟩:=h.one;unfold Pk at p;obtain⟨a,ys,rfl,h1,l1,r1⟩:=p;obtain⟨e2,ne⟩:=kG e1;subst e2;obtain⟨bs,rfl,e4,e5⟩:=kH r1;refine⟨a,bs,rfl,gc.of h1,λb hb=>(e5 b hb).1,by rw[e4];exact hl,λl j5 hn k2 sub=>?_⟩;have sm:=cC hn (.ext (C_ w l j5));have kb:∀b∈bs,cE (cD H l (.ext (C_ w l j5))) b=cE H b:=λb hb=>by
     rw[v9 (sm _ _ (e5 b hb).1)]
    have ln:j5.length=(cY md).length:=by rw[←e4,←k2,Ww]
    refine⟨l,j5,rfl,bg,by lia,λb hb=>⟨_,sm _ _ (e5 b (sub b hb)).1,?_⟩,λl' kg Oa hp hw=>?_⟩
    ·have:cE H b∈cY (bs.map (cE H)):=by rw[←k2];exact XB hb
     rcases yp _ _ _ this with z|z
     ·cases z
     ·rw[e4] at z;exact ne _ z
    ·have Vy:(kg.map (cE H)).Pairwise λx y=>gu y x=false:=by
      refine Za.mpr (ZE (λ{x y} hx hy z=>?_) hw);rw[kb x (sub x (hp.mem_iff.mp hx)),kb y (sub y (hp.mem_iff.mp hy))] at z;exact z
     have e7:kg.map (cE H)=dO (cY md):=qy ((hp.map (cE H)).trans (by rw[k2,e4];exact (aZ _).symm)) Vy (kF _);have Vz:=sm.trans (cC Oa (.lst (kg.map V.ref)));have na:H l'=none:=by
      cases z:H l' with
      |none=>rfl
      |some o=>rw[sm _ _ z] at Oa;cases Oa
     refine q _ _ Vz ⟨l',rfl,na,?_⟩;rw[←e7];refine bT (λb hb=>?_) ?_ Oa ?_
     ·have m:=mu b hb;obtain⟨o,z⟩:=m.ex;rw[sm b o z,←z];exact m
     ·have k3:kg.map (cE H)=kg.map (cE (cD H l (.ext (C_ w l j5)))):=W3 λb hb=>(kb b (sub b (hp.mem_iff.mp hb))).symm;rw[k3];refine yn λb hb=>?_;have Du:=sub b (hp.mem_iff.mp hb);rw[kb b Du];exact⟨sm _ _ (e5 b Du).1,(e5 b Du).2⟩
     ·have:WC=16777216:=rfl;rw[Ww,Ww,hp.length_eq];lia
   ·cases e
  ·cases e
 ·cases e
theorem Ae (hc:X.calm=true)(hu:X.A.units+64<YH)(ha:DA X G [e] b1 true ga)(hm:X.mg "sorted"=none)(VA:X.mg "set"=none)(hg:Gl X "sorted":=by rfl)(QP:Gl X "set":=by rfl)
  (he:W7 [e] X.env=(false,aaj e X.env)::W7 [] X.env:=by rfl) (qC:(Zy p_ (W7 [] X.env)).any (·.1)=false:=by rfl)
  (UG:W7 [.Call (.Name "set" p2) [e] [] p_] X.env=(false,aaj (.Call (.Name "set" p2) [e] [] p_) X.env)::W7 [] X.env:=by rfl) (Hb:(Zy pos (W7 [] X.env)).any (·.1)=false:=by rfl) :
  DE X G (.Call (.Name "sorted" p1) [.Call (.Name "set" p2) [e] [] p_] [] pos) b1 .O (i5 jo ga):=⟨(qJ (Ad hc hu) hg hm uB (jC (gW (Dd hc hu) QP VA MC ha.un (by decide) (by decide) he qC) qI UG) (by decide) (by decide) UG Hb).to λ_ _ _ h=>vA (p:=true) (yq (K:=X.K)) h⟩
end
end L2
namespace L2
open Hc.Dw Hc.Ts
noncomputable def M8:U->U->R Bool
 | .int a,.int b=>.ok (a==b)
 | .bl a,.bl b=>.ok (a==b)
 | .str a,.str b=>.ok (a==b)
 |_,_=>.stk
noncomputable def lX (f:Bool->Bool):U->U->R U:=λu w=>(M8 u w).bind λb=>.ok (.bl (f b))
theorem jQ:g_ K Tx .S (lX id):=λA H x y u w z Q hx hy mu e q=>by
 unfold lX at e;obtain⟨b,e1,e2⟩:=R.bind_ok e;unfold M8 at e1;split at e1
 ·cases e1;cases e2;rw[hx.int,hy.int];refine⟨rfl,?_⟩;rw[qe];exact q _ H (aG.refl _) (show Rp K H A _ _ from lC)
 ·cases e1;cases e2;rw[hx.bl,hy.bl];refine⟨rfl,?_⟩;rw[vn];exact q _ H (aG.refl _) (show Rp K H A _ _ from lC)
 ·cases e1;cases e2;rw[hx.str,hy.str];refine⟨rfl,?_⟩;rw[qf];exact q _ H (aG.refl _) (show Rp K H A _ _ from lC)
 ·cases e1
theorem Jl:g_ K Tz .S (lX not):=λA H x y u w z Q hx hy mu e q=>by
 unfold lX at e;obtain⟨b,e1,e2⟩:=R.bind_ok e;unfold M8 at e1;split at e1
 ·cases e1;cases e2;rw[hx.int,hy.int];refine⟨rfl,?_⟩;rw[qe];exact q _ H (aG.refl _) (show Rp K H A _ _ from lC)
 ·cases e1;cases e2;rw[hx.bl,hy.bl];refine⟨rfl,?_⟩;rw[vn];exact q _ H (aG.refl _) (show Rp K H A _ _ from lC)
 ·cases e1;cases e2;rw[hx.str,hy.str];refine⟨rfl,?_⟩;rw[qf];exact q _ H (aG.refl _) (show Rp K H A _ _ from lC)
 ·cases e1
end L2
namespace L2
open PySem.W Hc.Dw
def Gd:List V->Hp->VK->Prop:=λxs H Q=>∃p ep es,xs=[.ref p]/\H p=some (DN p ep es)/\es.length<=WC/\∀l,H l=none->Q (.ref l) (cD H l (.lst (es.map λe=>V.ref e.2.1)))
theorem BO:∀(es:List (List U×W8×V)),aW (es.map λe=>V.ref e.2.1) ((es.map (·.2.1)).map Value.ref)
 | []=>.nil
 |_::es=>.cons rfl (BO es)
theorem Af (hc:X.calm=true):eE X (.type "list") Gd:=by
 intro pins s σ H xs us Q I r h;obtain⟨p,ep,es,rfl,hs,hz,q⟩:=h;obtain⟨u,rfl,rx⟩:=jf r;cases rx;obtain⟨lo,ds,rd,n,at_⟩:=I.rawD hs;refine kdl_call (A:=X.A) (P4 lo) (I.ok.hd hc) rd (by rw[n];exact hz) λh1 tk bq c k1 e1 ia=>?_;have e:bq.toList=(es.map (·.2.1)).map Value.ref:=by
  apply ZD;intro i;rw[W4,WW,WQ];by_cases hi:i<bq.size
  ·rw[getElem?_pos bq i hi];obtain⟨en,e1,e2⟩:=ia.2 i _ (getElem?_pos bq i hi);have wX:i<ds.size:=by rw[←ia.1];exact hi
   rw[getElem?_pos ds i wX] at e1;cases e1;obtain⟨x,m,ek,_⟩:=at_ i wX;rw[m,e2,ek];rfl
  ·rw[Zh (by lia)];have:es[i]? = none:=Z6 (by rw[←n,←ia.1];lia);rw[this];rfl
 have e3:bq=((es.map (·.2.1)).map Value.ref).toArray:=by rw[←e]
 rw[e3] at e1;exact⟨.ref s.heap.objs.size,_,I.laid (t':=tk) k1 (WK _) (show bO X.prog X.w _ h1 _ (.lst (es.map λe=>V.ref e.2.1)) from ⟨by rw[Ww];exact hz,_,c,BO es,e1⟩),rfl,q _ (I.hok.fresh (WK _))⟩
noncomputable def sE:List U->R U:=λus=>match us with
 | [.dct ks _]=>if zU ks=true then .ok (.lst ks) else .stk
 |_=>.stk
theorem yr {K:WD}{H:Hp}{A:W8->Prop}:∀{es:List (List U×W8×V)},(∀e∈es,tK H e.1 e.2.1)->aE K H A (es.map λp=>.tup p.1) (es.map λe=>V.ref e.2.1)
 | [],_=>aE.nil
 |e::es,h=>aE.cons (FY (h e WM)) (yr λx hx=>h x (WO _ hx))
theorem De:mL K Gd .O sE:=λA H vs us z Q h mu e q=>by
 unfold sE at e;split at e
 ·rename_i ks ws;split at e
  ·rename_i wk;cases e;obtain⟨v,rfl,p⟩:=h.one;unfold Pk at p;obtain⟨a,xs,rfl,d,l,r⟩:=p;obtain⟨es,ep,h1,kt,rfl,rfl⟩:=zV wk d;have le:es.length<=WC:=by have:=r.length;rw[Ww] at this;lia
   exact⟨a,ep,es,rfl,h1,le,λl hl=>q _ _ (cC hl _) ⟨l,rfl,hl,bT mu (yr kt) hl (by rw[Ww];exact le)⟩⟩
  ·cases e
 ·cases e
theorem sF {A:XD}{k v:YV}(h:WX (Xg prog w) A (aaj k env) (λkv s1=>WX (Xg prog w) A (aaj v env) (λvv s2=>WX (Xg prog w) A (dictSet s.heap.objs.size kv vv) (λ_ s3=>Q (.ref s.heap.objs.size) s3) E s2) E s1) E {s with heap:=s.heap.push {cls:=.type "dict",data:=.dict #[]}}) :
  WX (Xg prog w) A (aaj (.Dict [some k] [v] pos) env) Q E s:=by
 rw[arm_eval_Dict,zip_pairTrees [some k] [v] env pos rfl rfl,dictDisplay_pairs (pairTrees [some k] [v] env pos) (by simp[pairTrees]) (by simp[pairTrees])];refine Wv (abz (Wv ?_));unfold subDict;refine Wv (wpAny_alloc ?_);refine Wv (X0 ?_);rw[hZ (by simp[pairTrees])];refine Wv (pairTrees_cons_walk (XQ h (λkv s1 h1=>XQ h1 (λvv s2 h2=>pairTrees_nil_walk ?_) λ_ _ e=>e) λ_ _ e=>e));refine X0 ?_;rw[Z1];refine Wv (Wv (Wv (XQ h2 (λ_ s3 h3=>Wy ?_) λ_ _ e=>e)));show WX _ _ (forIn [] _ _) _ _ _;rw[List.forIn_nil];exact Wy (Wy (Wy (Wy h3)))
def M9 (tk tv:TE):TE:=λσ H Q=>∀p,H p=none->tk σ (cD H p (.dK [])) λx H1=>tv σ H1 λy H2=>∃kk b,x=.ref b/\H2 p=some (.dK [])/\tK H2 kk b/\∀ep,Q (.ref p) (cD H2 p (DN p ep (j7 [] kk b y)))
theorem Ge {k v:YV}{tk tv:TE}(hu:X.A.units+64<YH)(hk:PE X k tk)(hv:PE X v tv):PE X (.Dict [some k] [v] pos) (M9 tk tv):=by
 intro pins s σ H Q I q;have hn:=I.hok.fresh (WK s.heap.objs.size);have I1:=I.laid (a:=s.heap.objs.size) (o:=.dK []) (h':=s.heap.push {cls:=.type "dict",data:=.dict #[]}) (t':=s.toks) (λ_ _ q=>Wz _ q) (WK _) (xo s.heap I.big);refine sF (dC (hk pins _ σ _ _ I1 (q _ hn)) λu s1 ⟨x,H1,I1,rx,q1⟩=>dC (hv pins s1 σ H1 _ I1 q1) λw2 s2 ⟨y,H2,I2,ry,q2⟩=>?_);obtain⟨kk,b,rfl,e,kb,q2⟩:=q2;cases rx;have g:iM H2 s.heap.objs.size []:=⟨.inr ⟨rfl,e⟩,Y9,λe he=>by cases he⟩;obtain⟨xs,rel,dd⟩:=g.of I2.hok;refine wpAny_dictSet_heap (hsz:=by rw[←Z8 rel];exact Ys _) (show X.A.units+20<YH by lia) (kb.tk I2.hok) dd λh' Lf hs=>?_;obtain⟨q,ds,ep,hq,h2,h3,h4,_,h5⟩:=Lf;refine⟨.ref s.heap.objs.size,_,?_,rfl,q2 ep⟩;exact qg I2 g.mut hs ⟨q,hq⟩ ⟨⟨g.lo I2.hok,q,ds,_,hq,h2,h3,xw kk ry rel,h4⟩,⟨q,hq⟩,λg1 g2 ⟨l,o,ds,xs,z1,z2⟩ kp=>⟨l,o,ds,xs,kp _ z1,z2⟩⟩
noncomputable def N7 (j:Nat)(n:Int):Ev->R (U×Ev):=λρ=>match ρ[j]? with
 |some (some (.tup ks))=>if EN (.tup ks)=true then .ok (.dct [.tup ks] [.int n],ρ) else .stk
 |_=>.stk
theorem Gf {pos p1 k2 p2}{y:Str}{n:Int}(hu:X.A.units+64<YH)(hN:X.N[j]? = some y:=by rfl)(hv:Dx X.env.scope y:=by first|exact Or.inl rfl|exact Or.inr (Or.inl rfl)|exact Or.inr (Or.inr rfl))(c:G.is j=false:=by rfl)(hd:(y==("__debug__":Str))=false:=by decide)(ny:(y==("__classdict__":Str))=false:=by decide):DE X G (.Dict [some (.Name y p1)] [.Constant (.int n) k2 p2] pos) false .O (N7 j n):=⟨(Ge hu (i4 hN hv hd ny) DL).to λσ H Q h=>by
 obtain⟨Z,A,ρ,q,f⟩:=h;unfold N7 at f;split at f
 ·rename_i ks h0;split at f
  ·rename_i kt;intro a na;obtain⟨v,h1,h2⟩:=q.slot j _ h0;rw[hV (by rw[c];exact WA)] at h2;obtain⟨b,rfl,kb⟩:=xM kt h2;have s1:=cC na (.dK []);refine⟨.ref b,h1,ks,b,rfl,bg,kb.to λc ys hc=>s1 _ _ hc,λep=>?_⟩;have sn:aG H (cD (cD H a (.dK [])) a (DN a ep (j7 [] ks b (.int n)))):=λb o e=>by
    have nb:b≠a:=λz=>by rw[z,na] at e;cases e
    rw[aS nb,aS nb];exact e
   exact f _ _ (q.same sn) (eO.same sn) (λ_=>⟨rfl,sn⟩) (AK.e q sn ⟨a,rfl,na,[.int n],.inr ⟨[(ks,b,.int n)],List.cons_ne_nil _ _,⟨.inl ⟨ep,bg⟩,Zd.mpr ⟨abt,Y9⟩,λe he=>by
    rw[W0.mp he];exact kb.to λc ys hc=>sn _ _ hc⟩,rfl,rfl⟩,(by have:WC=16777216:=rfl;rw[this];simp),aE.cons di aE.nil⟩)
  ·exact f.elim
 ·exact f.elim⟩
end L2
noncomputable section
namespace Hc
open PySem L2
noncomputable abbrev lY:Gm:=⟨[false,false,false],false,λ_=>False⟩
noncomputable def eA:Ev->SR:=(aP (ba 0 (i5 xE (ae (af 0) ak)))
 (aP (ba 1 (i5 xE (ae (af 1) ak)))
 (aP (gj (gB (aY (lX not) (af 1) (gC (.int 0))))
 (aP (ba 2 (aY pM (af 0) (af 1)))
 (aP (ba 0 (af 1))
 (ba 1 (af 2)))) 1000000000000000)
 (cI (af 0)))))
noncomputable def bf:List U->R U:=eM .S 3 eA
noncomputable abbrev Jm:Gm:=⟨[false,false,false],false,λ_=>False⟩
noncomputable def wa:Ev->SR:=(aP (ba 2 (jh 2 bf (ae (af 0) (ae (af 1) ak))))
 (aP (zq (gB (aY NZ (af 1) (gC (.int 0)))) (ba 2 (Q7 IA (af 2))) iP)
 (cI (cx (ae (aY jl (af 0) (af 2)) (ae (aY jl (af 1) (af 2)) ak))))))
noncomputable def k7:List U->R U:=eM .S 3 wa
noncomputable abbrev pP:Gm:=⟨[false,false,false],false,λ_=>False⟩
noncomputable def fF:Ev->SR:=(ba 1 (aY jl (aY fz (af 1) (aY je (af 2) (gC (.int 1)))) (jh 2 bf (ae (af 1) (ae (aY je (af 2) (gC (.int 1))) ak)))))
noncomputable def gw:Ev->SR:=(aP (ba 1 (gC (.int 1)))
 (aP (i6 (gm (af 0)) (bw 2)
 fF)
 (cI (af 1))))
noncomputable def cv:List U->R U:=eM .S 3 gw
noncomputable abbrev Ag:Gm:=⟨[false,false],false,λ_=>False⟩
noncomputable def lZ:Ev->SR:=(cI (i5 cT (ae (jk (gm (af 1)) [none,some 0] (bw 0) cK (aY je (af 1) (af 0))) ak)))
noncomputable def ij:List U->R U:=eM .S 2 lZ
noncomputable abbrev Dg:Gm:=⟨[false,true,false],false,λ_=>False⟩
noncomputable def n_:Ev->SR:=(aP (ba 1 N1)
 (aP (i6 (gm (af 0)) (bw 2)
 (i9 1 (aY cM (i8 1 (af 2) (gC (.int 0))) (gC (.int 1))) (af 2)))
 (cI (af 1))))
noncomputable def jq:List U->R U:=eM .O 3 n_
noncomputable abbrev Gg:Gm:=⟨[false,false,true,false,false,false,false,false],false,λ_=>False⟩
noncomputable def og:Ev->SR:=(aP (ba 7 (jh 2 ij (ae (af 5) (ae (af 3) ak))))
 (i9 2 (aY cM (i8 2 (af 7) (gC (.int 0))) (aY fz (af 6) (af 4))) (af 7)))
noncomputable def k8:Ev->SR:=(i6 (Rl (af 0)) (cf 2 (aD (bw 5) (aD (bw 6) cc)))
 og)
noncomputable def sG:Ev->SR:=(aP (ba 2 N1)
 (aP (i6 (Rl (jh 1 jq (ae (af 1) ak))) (cf 2 (aD (bw 3) (aD (bw 4) cc)))
 k8)
 (cI (af 2))))
noncomputable def kJ:List U->R U:=eM .O 8 sG
noncomputable abbrev pQ:Gm:=⟨[false,false,false,true,false,false,false],false,λ_=>False⟩
noncomputable def dE:Ev->SR:=(aP (ba 6 (aY je (af 5) (af 1)))
 (i9 3 (aY fz (aY je (af 6) (gC (.int 0))) (aY jl (af 2) (aY je (af 6) (gC (.int 1))))) (af 4)))
noncomputable def gx:Ev->SR:=(aP (ba 2 (jh 1 cv (ae (jk (gm (af 0)) [none,none,some 1] (cf 2 (aD (bw 0) (aD (bw 1) cc))) cK (aY je (af 1) (af 2))) ak)))
 (aP (ba 3 N1)
 (aP (i6 (gm (af 0)) (cf 2 (aD (bw 4) (aD (bw 5) cc)))
 dE)
 (n0 3 (cI (cx (ae (af 3) (ae (af 2) ak))))))))
noncomputable def cZ:List U->R U:=eM .S 7 gx
noncomputable abbrev Ah:Gm:=⟨[false,true,false,false,true,false],false,λ_=>False⟩
noncomputable def iS:Ev->SR:=(j3 (gM "list" 1 gK (ae (i5 sE (ae (af 2) ak)) ak)))
noncomputable def iT:Ev->SR:=(j3 (gM "list" 4 jI (ae (cx (ae (af 5) (ae (i5 cT (ae (jk (gm (af 0)) [none,none,some 5] (cf 2 (aD (bw 0) (aD (bw 1) cc))) cK (jh 2 k7 (ae (i8 0 (af 2) (gC (.int 0))) (ae (af 1) ak)))) ak)) ak))) ak)))
noncomputable def l0:Ev->SR:=(aP (ba 1 (gE ak))
 (aP (i6 (gm (af 0)) (cf 2 (aD (bw 2) (aD (bw 3) cc)))
 iS)
 (n0 1 (aP (ba 4 (gE ak))
 (aP (i6 (gm (i5 jo (ae (af 1) ak))) (bw 5)
 iT)
 (cI (i5 cT (ae (af 4) ak))))))))
noncomputable def eB:List U->R U:=eM .S 6 l0
noncomputable abbrev Jn:Gm:=⟨[false],false,λ_=>False⟩
noncomputable def wc:Ev->SR:=(cI (jh 1 eB (ae (jk (gm (af 0)) [none] (bw 0) cK (cx (ae (N7 0 1) (ae (gC (.int 1)) ak)))) ak)))
noncomputable def k9:List U->R U:=eM .S 1 wc
noncomputable abbrev sH:Gm:=⟨[false],false,λ_=>False⟩
noncomputable def ik:Ev->SR:=(cI (A5 (ae (i5 iN (ae (aY je (aY je (af 0) (gC (.int 0))) (gC (.int 1))) ak)) ak)))
noncomputable def dk:List U->R U:=eM .O 1 ik
noncomputable abbrev tN:Gm:=⟨[false,false,true,false,false],false,λ_=>False⟩
noncomputable def eZ:Ev->SR:=(aP (ba 4 (jh 2 cZ (ae (af 0) (ae (af 3) ak))))
 (j3 (gM "list" 2 jI (ae (cx (ae (jh 2 kJ (ae (aY je (af 4) (gC (.int 0))) (ae (af 1) ak))) (ae (aY fz (aY je (af 4) (gC (.int 1))) (i5 iN (ae (af 1) ak))) ak))) ak))))
noncomputable def jb:Ev->SR:=(aP (ba 2 (gE ak))
 (aP (i6 (gm (jh 1 dk (ae (af 0) ak))) (bw 3)
 eZ)
 (n0 2 (cI (jh 1 eB (ae (af 2) ak))))))
noncomputable def cA:List U->R U:=eM .S 5 jb
noncomputable abbrev wd:Gm:=⟨[false,false],false,λ_=>False⟩
noncomputable def jR:Ev->SR:=(cI (jh 2 cA (ae (af 0) (ae (cx (ae (af 1) ak)) ak))))
noncomputable def gO:List U->R U:=eM .S 2 jR
noncomputable abbrev sI:Gm:=⟨[false,false],false,λ_=>False⟩
noncomputable def e_:Ev->SR:=(aP (zq (gB (aY NZ (af 1) (i5 iN (ae (af 0) ak)))) (cI (aY je (af 0) (af 1))) iP)
 (cI (gC (.int 0))))
noncomputable def cL:List U->R U:=eM .S 2 e_
noncomputable abbrev we:Gm:=⟨[false,false,false],false,λ_=>False⟩
noncomputable def gP:Ev->SR:=(aP (ba 2 (jh 2 cL (ae (af 0) (ae (af 1) ak))))
 (aP (zq (gB (aY Sk (af 2) (aY Iz (gC (.int 10)) (gC (.int 18))))) (cI (gE (ae (aY CD (af 2) (aY Iz (gC (.int 10)) (gC (.int 18)))) (ae (gC (.bl true)) ak)))) iP)
 (cI (gE (ae (aY pM (af 2) (gC (.int 2147483647))) (ae (gC (.bl false)) ak))))))
noncomputable def fc:List U->R U:=eM .O 3 gP
noncomputable abbrev yt:Gm:=⟨[true,false,false,false],true,λ_=>False⟩
noncomputable def iU:Ev->SR:=(aP (zq (gB (aY je (af 0) (gC (.int 1)))) (aP (ba 2 (aY pM (aY je (af 0) (gC (.int 0))) (af 1)))
 (aP (AS 0 (aY jl (aY je (af 0) (gC (.int 0))) (af 1)) (gC (.int 0)))
 (cI (af 2)))) iP)
 (aP (AS 0 (aY pM (aY cM (aY fz (aY je (af 0) (gC (.int 0))) (gC (.int 48271))) (gC (.int 29))) (gC (.int 2147483647))) (gC (.int 0)))
 (aP (ba 3 (aY pM (aY cM (aY cM (aY fz (aY je (af 0) (gC (.int 0))) (aY je (af 0) (gC (.int 0)))) (aY fz (gC (.int 39373)) (aY je (af 0) (gC (.int 0))))) (gC (.int 7))) (gC (.int 2147483629))))
 (aP (ba 3 (aY pM (aY cM (aY fz (af 3) (af 3)) (aY fz (gC (.int 16807)) (af 3))) (gC (.int 2147483587))))
 (cI (aY pM (aY jl (af 3) (gC (.int 8))) (af 1)))))))
noncomputable def aw:List U->R (U×U):=zy 4 iU
noncomputable abbrev sJ:Gm:=⟨[false,false],false,λ_=>False⟩
noncomputable def iq:Ev->SR:=(aP (ba 0 (i5 xE (ae (af 0) ak)))
 (aP (ba 1 (i5 xE (ae (af 1) ak)))
 (aP (gj (gB (aY Q_ (af 1) (gC (.int 0))))
 (Io 0 1 (ae (af 1) (ae (aY pM (af 0) (af 1)) ak))) 1000000000000000)
 (cI (af 0)))))
noncomputable def dq:List U->R U:=eM .S 2 iq
noncomputable abbrev wg:Gm:=⟨[false,false,false],false,λ_=>False⟩
noncomputable def jS:Ev->SR:=(aP (ba 2 (jh 2 dq (ae (af 0) (ae (af 1) ak))))
 (cI (cx (ae (aY jl (af 0) (af 2)) (ae (aY jl (af 1) (af 2)) ak)))))
noncomputable def bM:List U->R U:=eM .S 3 jS
noncomputable abbrev wj:Gm:=⟨[false,false,false,false],false,λ_=>False⟩
noncomputable def fP:Ev->SR:=(ba 1 (jh 2 bM (ae (aY cM (aY fz (aY je (af 1) (gC (.int 0))) (af 3)) (aY fz (af 2) (aY je (af 1) (gC (.int 1))))) (ae (aY fz (aY je (af 1) (gC (.int 1))) (af 3)) ak))))
noncomputable def jT:Ev->SR:=(aP (ba 1 (cx (ae (gC (.int 0)) (ae (gC (.int 1)) ak))))
 (aP (i6 (gm (af 0)) (cf 2 (aD (bw 2) (aD (bw 3) cc)))
 fP)
 (cI (af 1))))
noncomputable def dF:List U->R U:=eM .S 4 jT
noncomputable abbrev fG:Gm:=⟨[true,false,false],true,λ_=>False⟩
noncomputable def jU:Ev->SR:=(aP (ba 2 (qj 2 0 aw (ae (gC (.int 4)) ak)))
 (aP (zq (gB (aY NZ (af 2) (gC (.int 2)))) (cI (i5 cT (ae (vE fG (eT (ae (af 1) ak)) [none,some 0] (bw 0) cK (qj 2 1 aw (ae (gC (.int 2)) ak))) ak))) iP)
 (cI (i5 cT (ae (vE fG (eT (ae (af 1) ak)) [none,some 0,some 2] (bw 0) cK (qj 2 1 aw (ae (aY je (gE (ae (gC (.int 3)) (ae (gC (.int 10)) ak))) (aY CD (af 2) (gC (.int 2)))) ak))) ak)))))
noncomputable def eC:List U->R (U×U):=zy 3 jU
noncomputable abbrev jV:Gm:=⟨[true,false,true],true,λ_=>False⟩
noncomputable def jW:Ev->SR:=(aP (ba 2 (A5 (ae (af 1) ak)))
 (cI (i5 cT (ae (vE jV (eT (ae (af 1) ak)) [none,some 2,some 0] (bw 0) cK (gM "list" 1 nV (ae (qj 2 2 aw (ae (i5 iN (ae (af 1) ak)) ak)) ak))) ak))))
noncomputable def bN:List U->R (U×U):=zy 3 jW
noncomputable abbrev yu:Gm:=⟨[false,false],false,λ_=>False⟩
noncomputable def kK:Ev->SR:=(cI (i5 cT (ae (jk (gm (af 1)) [none,some 0] (bw 0) cK (aY je (af 1) (af 0))) ak)))
noncomputable def cP:List U->R U:=eM .S 2 kK
noncomputable abbrev ir:Gm:=⟨[true,false,false,false,false,false,false,false,false,true],true,λ_=>False⟩
noncomputable def bU:Ev->SR:=(aP (ba 2 (EJ (ae (af 1) ak)))
 (aP (ba 3 (qj 2 0 aw (ae (gC (.int 6)) ak)))
 (aP (zq (gB (aY (lX id) (af 3) (gC (.int 0)))) (cI (i5 cT (ae (jk (eT (ae (af 1) ak)) [none,some 2] (bw 0) cK (aY cM (rf oG (af 1) (cW (af 0)) dM) (rf oG (af 1) dM (cW (af 0))))) ak))) iP)
 (aP (zq (gB (aY (lX id) (af 3) (gC (.int 1)))) (aP (ba 4 (qj 2 0 bN (ae (af 1) ak)))
 (cI (cx (ae (af 2) (ae (af 4) ak))))) iP)
 (aP (zq (gB (aY (lX id) (af 3) (gC (.int 2)))) (aP (ba 5 (aY jl (af 1) (gC (.int 2))))
 (cI (cx (ae (af 2) (ae (aY cM (aY cM (rf oG (af 2) (cW (af 5)) (cW (aY fz (gC (.int 2)) (af 5)))) (rf oG (af 2) dM (cW (af 5)))) (rf oG (af 2) (cW (aY fz (gC (.int 2)) (af 5))) dM)) ak))))) iP)
 (aP (zq (gB (aY (lX id) (af 3) (gC (.int 3)))) (aP (ba 6 (gE (ae (cx ak) ak)))
 (aP (ba 7 (i5 xF (ae (af 1) (ae (aY cM (gC (.int 2)) (qj 2 0 aw (ae (gC (.int 3)) ak))) ak))))
 (aP (i6 (eT (ae (af 7) ak)) (bw 8)
 (aP (ba 9 (gE ak))
 (aP (i6 (gm (af 6)) (bw 4)
 (j3 (gM "list" 9 gK (ae (jk (eT (ae (aY cM (af 8) (gC (.int 1))) ak)) [none,some 4,some 8] (bw 0) cK (aY cM (aY cM (rf oG (af 1) dM (cW (af 0))) (cx (ae (af 2) ak))) (rf oG (af 1) (cW (af 0)) dM))) ak))))
 (xx 6 9))))
 (cI (i5 cT (ae (jk (gm (af 6)) [none,some 2,some 7] (bw 0) cK (aY cM (af 0) (rf oG (af 1) (cW (af 2)) dM))) ak)))))) iP)
 (cI (i5 cT (ae (vE ir (eT (ae (aY cM (gC (.int 1)) (qj 2 0 aw (ae (gC (.int 4)) ak))) ak)) [none,some 0,some 1] (bw 0) cK (qj 2 1 bN (ae (af 2) ak))) ak)))))))))
noncomputable def aK:List U->R (U×U):=zy 10 bU
noncomputable abbrev yv:Gm:=⟨[false,false],false,λ_=>False⟩
noncomputable def kL:Ev->SR:=(cI (i5 cT (ae (jk (IW (ae (af 0) (ae (af 1) ak))) [none,none] (cf 2 (aD (bw 0) (aD (bw 1) cc))) cK (jh 1 dF (ae (gE (ae (af 0) (ae (af 1) ak))) ak))) ak)))
noncomputable def eG:List U->R U:=eM .S 2 kL
noncomputable abbrev Ai:Gm:=⟨[false,true,false,false],false,λ_=>False⟩
noncomputable def iV:Ev->SR:=(i9 1 (Q5 (gB (aY (CO id) (af 2) (af 1))) (jh 2 eG (ae (aY vL (af 1) (af 2)) (ae (af 3) ak))) (af 3)) (af 2))
noncomputable def l4:Ev->SR:=(aP (ba 1 N1)
 (aP (i6 (gm (af 0)) (cf 2 (aD (bw 2) (aD (bw 3) cc)))
 iV)
 (n0 1 (cI (i5 cT (ae (jk (gm (i5 u5 (ae (af 1) ak))) [none,some 1] (bw 0) cK (cx (ae (af 0) (ae (aY vL (af 1) (af 0)) ak)))) ak))))))
noncomputable def cU:List U->R U:=eM .S 4 l4
noncomputable abbrev wm:Gm:=⟨[false,true,false],false,λ_=>False⟩
noncomputable def dZ:Ev->SR:=(j3 (gM "list" 1 jI (ae (cx (ae (aY je (af 0) (af 2)) (ae (i5 cT (ae (jk (eT (ae (i5 iN (ae (af 0) ak)) ak)) [none,some 2] (bw 0) cK (cx (ae (i5 EG (ae (aY (lX id) (af 0) (af 1)) ak)) (ae (gC (.int 1)) ak)))) ak)) ak))) ak)))
noncomputable def jX:Ev->SR:=(aP (ba 1 (gE ak))
 (aP (i6 (eT (ae (i5 iN (ae (af 0) ak)) ak)) (bw 2)
 dZ)
 (n0 1 (cI (jh 1 cU (ae (af 1) ak))))))
noncomputable def dG:List U->R U:=eM .S 3 jX
noncomputable abbrev wq:Gm:=⟨[false,false,true,false,false,false],false,λ_=>False⟩
noncomputable def fQ:Ev->SR:=(aP (ba 5 (i5 cT (ae (jk (gm (af 4)) [none,none,some 1] (cf 2 (aD (bw 0) (aD (bw 1) cc))) cK (jh 2 bM (ae (af 0) (ae (aY fz (af 1) (i5 iN (ae (af 2) ak))) ak)))) ak)))
 (j3 (gM "list" 2 gK (ae (jk (gm (af 1)) [none,some 5,some 3] (bw 0) cK (cx (ae (jh 2 cP (ae (af 2) (ae (af 0) ak))) (ae (af 1) ak)))) ak))))
noncomputable def jY:Ev->SR:=(aP (ba 2 (gE ak))
 (aP (i6 (gm (af 0)) (cf 2 (aD (bw 3) (aD (bw 4) cc)))
 fQ)
 (n0 2 (cI (jh 1 cU (ae (af 2) ak))))))
noncomputable def gQ:List U->R U:=eM .S 6 jY
noncomputable abbrev Gh:Gm:=⟨[false,false,true,false,true,false,false,false,false,false],false,λ_=>False⟩
noncomputable def kM:Ev->SR:=(aP (zq (O4 (Ma (gB (EI "tuple" (af 6)))) (O4 (gB (aY (O9 not) (af 6) (af 5))) (gB (aY (O9 not) (jh 1 k9 (ae (i5 cT (ae (af 4) ak)) ak)) (jh 1 dG (ae (af 4) ak)))))) (cI (gC (.bl false))) iP)
 (zq (gB (aY (lX id) (qj 2 2 aw (ae (gC (.int 3)) ak)) (gC (.int 0)))) (aP (ba 8 (qj 2 2 bN (ae (af 3) ak)))
 (aP (ba 5 (jh 1 cU (ae (jk (gm (af 5)) [none,none,some 8] (cf 2 (aD (bw 0) (aD (bw 1) cc))) cK (cx (ae (jh 2 cP (ae (af 0) (ae (af 2) ak))) (ae (af 1) ak)))) ak)))
 (ba 6 (jh 2 gO (ae (af 6) (ae (af 8) ak)))))) (zq (gB (aY NZ (i5 iN (ae (af 5) ak)) (gC (.int 40)))) (aP (ba 9 (qj 2 2 aK (ae (af 3) ak)))
 (aP (ba 5 (jh 2 gQ (ae (af 5) (ae (af 9) ak))))
 (ba 6 (jh 2 cA (ae (af 6) (ae (af 9) ak)))))) iP)))
noncomputable def sL:Ev->SR:=(aP (ba 2 (jh 2 fc (ae (af 0) (ae (af 1) ak))))
 (aP (ba 3 (aY cM (gC (.int 1)) (qj 2 2 aw (ae (gC (.int 6)) ak))))
 (aP (ba 4 (vE Gh (eT (ae (aY cM (gC (.int 1)) (qj 2 2 aw (ae (gC (.int 3)) ak))) ak)) [none,some 2,some 3] (bw 0) cK (qj 2 1 eC (ae (af 2) ak))))
 (aP (zq (gB (aY (lX id) (qj 2 2 aw (ae (gC (.int 2)) ak)) (gC (.int 1)))) (j3 (gM "list" 4 jI (ae (aY je (af 4) (gC (.int 0))) ak))) iP)
 (n0 4 (aP (ba 5 (jh 1 dG (ae (af 4) ak)))
 (aP (ba 6 (jh 1 k9 (ae (af 4) ak)))
 (i6 (eT (ae (gC (.int 5)) ak)) (bw 7)
 kM))))))))
noncomputable def Gi:Ev->SR:=(aP (i6 (eT (ae (i5 AZ (ae (gC (.int 1)) (ae (i5 xF (ae (i5 iN (ae (af 0) ak)) (ae (gC (.int 6)) ak))) ak))) ak)) (bw 1)
 sL)
 (cI (gC (.bl true))))
noncomputable def yw:List U->R U:=eM .S 10 Gi
end Hc
end
namespace Hc
open L2
noncomputable def top (i:Nat):abx:=PySem.Challenge.pw_hushcards_k61_states_laid_and_mixed.main.body.getD i (.Pass ⟨0,0,0,0⟩)
noncomputable abbrev bR:abx:=top 1
noncomputable abbrev oh:abx:=top 2
noncomputable abbrev c_:abx:=top 3
noncomputable abbrev iu:abx:=top 5
noncomputable abbrev jr:abx:=top 7
noncomputable abbrev k_:abx:=top 8
noncomputable abbrev cB:abx:=top 10
noncomputable abbrev iy:abx:=top 11
noncomputable abbrev l5:abx:=top 12
noncomputable abbrev dH:abx:=top 13
noncomputable abbrev eI:abx:=top 14
noncomputable abbrev fH:abx:=top 15
noncomputable abbrev fI:abx:=top 17
noncomputable abbrev gY:abx:=top 18
noncomputable abbrev jt:abx:=top 19
noncomputable abbrev eJ:abx:=top 20
noncomputable abbrev gZ:abx:=top 21
noncomputable abbrev g7:abx:=top 22
noncomputable abbrev iW:abx:=top 23
noncomputable abbrev fJ:abx:=top 24
noncomputable abbrev iz:abx:=top 25
noncomputable abbrev bQ:abx:=top 26
noncomputable abbrev iA:abx:=top 27
noncomputable abbrev jZ:abx:=top 28
noncomputable abbrev fK:abx:=top 29
noncomputable abbrev eK:abx:=top 30
noncomputable abbrev tP:abx:=top 32
abbrev Bd (x:Str)(ps:List Str)(s:abx):Prop:=∀(kV nF pm:WG) (an:Option W8) (cN ct:WG) (us:List WG),us.length=ps.length->bindArgs (YI x x (eR s) (bX s) (ah s) .none kV nF pm an cN ct) ⟨us,[]⟩=pure (ps.zip us)
theorem oj {P:List Str}{sc:acj}(a:sc.kind=.function:=by rfl)(b:sc.isCoroutine=false:=by rfl)(c:sc.isGenerator=false:=by rfl)(d:N.Nodup:=by decide+kernel)(e:N.take P.length=P:=by rfl)(f:∀x∈P,sc.names.lookup x=some .local\/sc.names.lookup x=some .cell:=by decide+kernel)(g:∀y∈sc.names,y.2≠.free:=by decide+kernel):aJ N P sc:=⟨a,b,c,d,e,f,g⟩
theorem rm {A:XD}(r:eQ k A)(h:j<=k:=by first|decide|lia):eQ j A:=r.mono h
theorem bz:aJ ["one","other","rest"] ["one","other"] (ah bR):=oj
theorem lx:Bd "greatest_divisor" ["one","other"] bR:=λ_ _ _ _ _ _ us hl=>match us,hl with|[_,_],_=>rfl
theorem sM:aJ ["top","bottom","divisor"] ["top","bottom"] (ah oh):=oj
theorem Gj:Bd "ratio" ["top","bottom"] oh:=λ_ _ _ _ _ _ us hl=>match us,hl with|[_,_],_=>rfl
theorem dI:aJ ["some","bottom","fraction"] ["some"] (ah c_):=oj
theorem om:Bd "common_bottom" ["some"] c_:=λ_ _ _ _ _ _ us hl=>match us,hl with|[_],_=>rfl
theorem yx:aJ ["row","places"] ["row","places"] (ah iu):=oj
theorem yy:Bd "cards_at" ["row","places"] iu:=λ_ _ _ _ _ _ us hl=>match us,hl with|[_,_],_=>rfl
theorem l6:aJ ["shuffle","often","order"] ["shuffle"] (ah jr):=oj
theorem Aj:Bd "counted" ["shuffle"] jr:=λ_ _ _ _ _ _ us hl=>match us,hl with|[_],_=>rfl
theorem fL:aJ ["weights","shuffle","gathered","order","often","row","weight","changed"] ["weights","shuffle"] (ah k_):=oj
theorem Dh:Bd "spread" ["weights","shuffle"] k_:=λ_ _ _ _ _ _ us hl=>match us,hl with|[_,_],_=>rfl
theorem bS:aJ ["state","number","bottom","whole","row","weights","weight"] ["state","number"] (ah cB):=oj
theorem oo:Bd "whole_weights" ["state","number"] cB:=λ_ _ _ _ _ _ us hl=>match us,hl with|[_,_],_=>rfl
theorem eL:aJ ["deals","rows","whole","bottom","state","row"] ["deals"] (ah iy):=oj
theorem yz:Bd "state_of" ["deals"] iy:=λ_ _ _ _ _ _ us hl=>match us,hl with|[_],_=>rfl
theorem Gk:aJ ["rows"] ["rows"] (ah l5):=oj
theorem Gn:Bd "begun" ["rows"] l5:=λ_ _ _ _ _ _ us hl=>match us,hl with|[_],_=>rfl
theorem pR:aJ ["state"] ["state"] (ah dH):=oj
theorem pS:Bd "deal_numbers" ["state"] dH:=λ_ _ _ _ _ _ us hl=>match us,hl with|[_],_=>rfl
theorem ff:aJ ["state","shuffle","mixed","number","deal"] ["state","shuffle"] (ah eI):=oj
theorem sN:Bd "mixed_state" ["state","shuffle"] eI:=λ_ _ _ _ _ _ us hl=>match us,hl with|[_,_],_=>rfl
theorem tQ:aJ ["state","order"] ["state","order"] (ah fH):=oj
theorem tR:Bd "laid_state" ["state","order"] fH:=λ_ _ _ _ _ _ us hl=>match us,hl with|[_,_],_=>rfl
theorem pT:aJ ["script","k"] ["script","k"] (ah fI):=oj
theorem pV:Bd "_law_cell_at" ["script","k"] fI:=λ_ _ _ _ _ _ us hl=>match us,hl with|[_,_],_=>rfl
theorem lG:aJ ["script","k","cell"] ["script","k"] (ah gY):=oj
theorem tT:Bd "_law_state" ["script","k"] gY:=λ_ _ _ _ _ _ us hl=>match us,hl with|[_,_],_=>rfl
theorem gR:aJ ["state","many","found","mixed"] ["state","many"] (ah jt):=oj
theorem wu:Bd "_law_take" ["state","many"] jt:=λ_ _ _ _ _ _ us hl=>match us,hl with|[_,_],_=>rfl
theorem eh:aJ ["one","other"] ["one","other"] (ah eJ):=oj
theorem pW:Bd "_law_divisor" ["one","other"] eJ:=λ_ _ _ _ _ _ us hl=>match us,hl with|[_,_],_=>rfl
theorem lH:aJ ["top","bottom","by"] ["top","bottom"] (ah gZ):=oj
theorem tU:Bd "_law_ratio" ["top","bottom"] gZ:=λ_ _ _ _ _ _ us hl=>match us,hl with|[_,_],_=>rfl
theorem d4:aJ ["some","found","top","bottom"] ["some"] (ah g7):=oj
theorem tV:Bd "_law_total" ["some"] g7:=λ_ _ _ _ _ _ us hl=>match us,hl with|[_],_=>rfl
theorem pA:aJ ["state","many","way"] ["state","many"] (ah iW):=oj
theorem yA:Bd "_law_row" ["state","many"] iW:=λ_ _ _ _ _ _ us hl=>match us,hl with|[_,_],_=>rfl
theorem lJ:aJ ["state","many","left"] ["state","many"] (ah fJ):=oj
theorem tW:Bd "_law_order" ["state","many"] fJ:=λ_ _ _ _ _ _ us hl=>match us,hl with|[_,_],_=>rfl
theorem wx:aJ ["row","order"] ["row","order"] (ah iz):=oj
theorem wy:Bd "_law_laid" ["row","order"] iz:=λ_ _ _ _ _ _ us hl=>match us,hl with|[_,_],_=>rfl
theorem aV:aJ ["state","many","stays","way","order","half","some","size","k","longer"] ["state","many"] (ah bQ):=oj
theorem pX:Bd "_law_shuffle" ["state","many"] bQ:=λ_ _ _ _ _ _ us hl=>match us,hl with|[_,_],_=>rfl
theorem wz:aJ ["one","other"] ["one","other"] (ah iA):=oj
theorem wA:Bd "_law_plus" ["one","other"] iA:=λ_ _ _ _ _ _ us hl=>match us,hl with|[_,_],_=>rfl
theorem iX:aJ ["pairs","known","row","weights"] ["pairs"] (ah jZ):=oj
theorem yB:Bd "_law_put" ["pairs"] jZ:=λ_ _ _ _ _ _ us hl=>match us,hl with|[_],_=>rfl
theorem jc:aJ ["rows","pairs","k"] ["rows"] (ah fK):=oj
theorem tX:Bd "_law_begun" ["rows"] fK:=λ_ _ _ _ _ _ us hl=>match us,hl with|[_],_=>rfl
theorem d5:aJ ["state","shuffle","pairs","row","weights","share"] ["state","shuffle"] (ah eK):=oj
theorem tY:Bd "_law_mixed" ["state","shuffle"] eK:=λ_ _ _ _ _ _ us hl=>match us,hl with|[_,_],_=>rfl
theorem fg:aJ ["script","k","draws","many","rows","due","found","j","order","shuffle"] ["script"] (ah tP):=oj
structure nD (mg:Str->Option WG):Prop where
 zlq:mg "abs"=none
 zkq:mg "int"=none
 zaq:mg "isinstance"=none
 zhq:mg "len"=none
 zeq:mg "list"=none
 zfq:mg "max"=none
 zgq:mg "min"=none
 zdq:mg "range"=none
 ziq:mg "set"=none
 zbq:mg "sorted"=none
 zcq:mg "tuple"=none
 zjq:mg "zip"=none
end Hc
namespace Hc
open L2
section
variable {base:Zv}
theorem lA (T:nD mg)  (bW:Df K mg "greatest_divisor" bR):Fn P w K mg base "greatest_divisor" 1 ["one","other"] (gF K 2 bf .S):=by
 refine Df.fnD (N:=["one","other","rest"]) (ps:=["one","other"]) (st:=bR) (k:=0) lY .S eA bW bz lx rfl (by decide) ?_;intro f cN A outer s0 H E hr;have hu:=hr.units;have mn:=cH hr;exact (ai (aT (i:=0) bz.nd (bH mw qm (by rfl) T.zlq vt (aa (aj 0) ag)))
 (ai (aT (i:=1) bz.nd (bH mw qm (by rfl) T.zlq vt (aa (aj 1) ag)))
 (ai (xy XF (dR Oz Jl (aj 1) aq (dP _))
 (ai (aT (i:=2) bz.nd (aQ kj iQ (aj 0) (aj 1)))
 (ai (aT (i:=0) bz.nd (aj 1))
 (ar (aT (i:=1) bz.nd (aj 2))))))
 (ar (bb (aj 0))))))
theorem Gp (T:nD mg)(bD:Fn P w K mg base "greatest_divisor" 1 ["one","other"] (gF K 2 bf .S))(nA:Df K mg "ratio" oh):Fn P w K mg base "ratio" 2 ["top","bottom"] (gF K 2 k7 .S):=by
 refine Df.fnD (N:=["top","bottom","divisor"]) (ps:=["top","bottom"]) (st:=oh) (k:=1) Jm .S wa nA sM Gj rfl (by decide) ?_;intro f cN A outer s0 H E hr;have hu:=hr.units;have mn:=cH hr;exact (ai (aT (i:=2) sM.nd (aH bD (rm hr) (aa (aj 0) (aa (aj 1) ag))))
 (ai (ji (dR AE vJ (aj 1) aq (dP _)) (ar (aT (i:=2) sM.nd (O5 LK IB (aj 2)))) d9)
 (ar (bb (dj (aa (aQ dD eV (aj 0) (aj 2)) (aa (aQ dD eV (aj 1) (aj 2)) ag)))))))
theorem oq (T:nD mg)(bD:Fn P w K mg base "greatest_divisor" 1 ["one","other"] (gF K 2 bf .S))(c8:Df K mg "common_bottom" c_):Fn P w K mg base "common_bottom" 2 ["some"] (gF K 1 cv .S):=by
 refine Df.fnD (N:=["some","bottom","fraction"]) (ps:=["some"]) (st:=c_) (k:=1) pP .S gw c8 dI om rfl (by decide) ?_;intro f cN A outer s0 H E hr;have hu:=hr.units;have mn:=cH hr;exact (ai (aT (i:=1) dI.nd aq)
 (ai (dU XF rfl (cJ (aj 0)) (aA (i:=2) dI.nd)
 (ar (aT (i:=1) dI.nd (aQ dD eV (aQ eo cS (aj 1) (cO bF bI (aj 2) aq (λ_ _=>rfl))) (aH bD (rm hr) (aa (aj 1) (aa (cO bF bI (aj 2) aq (λ_ _=>rfl)) ag)))))))
 (ar (bb (aj 1)))))
theorem yC (T:nD mg)  (iD:Df K mg "cards_at" iu):Fn P w K mg base "cards_at" 1 ["row","places"] (gF K 2 ij .S):=by
 refine Df.fnD (N:=["row","places"]) (ps:=["row","places"]) (st:=iu) (k:=0) Ag .S lZ iD yx yy rfl (by decide) ?_;intro f cN A outer s0 H E hr;have hu:=hr.units;have mn:=cH hr;exact (ar (bb (bh aN bB (by rfl) T.zcq bG (aa (eU (ah iu) ["row","places"] ["place","row"] [none,some 0] rfl (cJ (aj 1)) (λY=>⟨(aA (i:=0) (show (["place","row"]:List Str).Nodup by decide+kernel)),bu,(cO bF bI (aj 1) (aj 0) (λ_ _=>rfl))⟩)) ag))))
theorem Ak (T:nD mg)  (jA:Df K mg "counted" jr):Fn P w K mg base "counted" 1 ["shuffle"] (gF K 1 jq .O):=by
 refine Df.fnD (N:=["shuffle","often","order"]) (ps:=["shuffle"]) (st:=jr) (k:=0) Dg .O n_ jA l6 Aj rfl (by decide) ?_;intro f cN A outer s0 H E hr;have hu:=hr.units;have mn:=cH hr;exact (ai (d_ (i:=1) l6.nd mS)
 (ai (dU XF rfl (cJ (aj 0)) (aA (i:=2) l6.nd)
 (ar (qr (j:=1) hu (aQ bY bZ (rn (j:=1) hu (aj 2) aq) aq) (aj 2))))
 (ar (AN (i:=1) (hi:=by decide)))))
theorem Di (T:nD mg)(mf:Fn P w K mg base "cards_at" 1 ["row","places"] (gF K 2 ij .S))(oB:Fn P w K mg base "counted" 1 ["shuffle"] (gF K 1 jq .O))(kP:Df K mg "spread" k_):Fn P w K mg base "spread" 2 ["weights","shuffle"] (gF K 2 kJ .O):=by
 refine Df.fnD (N:=["weights","shuffle","gathered","order","often","row","weight","changed"]) (ps:=["weights","shuffle"]) (st:=k_) (k:=1) Gg .O sG kP fL Dh rfl (by decide) ?_;intro f cN A outer s0 H E hr;have hu:=hr.units;have mn:=cH hr;exact (ai (d_ (i:=2) fL.nd mS)
 (ai (dU XF rfl (xU (aH oB (rm hr) (aa (aj 1) ag))) (gg rfl (aX (aA (i:=3) fL.nd) (aX (aA (i:=4) fL.nd) d8)))
 (ar (dU XF rfl (xU (aj 0)) (gg rfl (aX (aA (i:=5) fL.nd) (aX (aA (i:=6) fL.nd) d8)))
 (ai (aT (i:=7) fL.nd (aH mf (rm hr) (aa (aj 5) (aa (aj 3) ag))))
 (ar (qr (j:=2) hu (aQ bY bZ (rn (j:=2) hu (aj 7) aq) (aQ eo cS (aj 6) (aj 4))) (aj 7)))))))
 (ar (AN (i:=2) (hi:=by decide)))))
theorem ou (T:nD mg)(gA:Fn P w K mg base "common_bottom" 2 ["some"] (gF K 1 cv .S))(c9:Df K mg "whole_weights" cB):Fn P w K mg base "whole_weights" 3 ["state","number"] (gF K 2 cZ .S):=by
 refine Df.fnD (N:=["state","number","bottom","whole","row","weights","weight"]) (ps:=["state","number"]) (st:=cB) (k:=2) pQ .S gx c9 bS oo rfl (by decide) ?_;intro f cN A outer s0 H E hr;have hu:=hr.units;have mn:=cH hr;exact (ai (aT (i:=2) bS.nd (aH gA (rm hr) (aa (eU (ah cB) ["state","number","bottom","whole","row","weights","weight"] ["row","weights","number"] [none,none,some 1] rfl (cJ (aj 0)) (λY=>⟨(gg rfl (aX (aA (i:=0) (show (["row","weights","number"]:List Str).Nodup by decide+kernel)) (aX (aA (i:=1) (show (["row","weights","number"]:List Str).Nodup by decide+kernel)) d8))),bu,(cO bF bI (aj 1) (aj 2) (λ_ _=>rfl))⟩)) ag)))
 (ai (d_ (i:=3) bS.nd mS)
 (ai (dU XF rfl (cJ (aj 0)) (gg rfl (aX (aA (i:=4) bS.nd) (aX (aA (i:=5) bS.nd) d8)))
 (ai (aT (i:=6) bS.nd (cO bF bI (aj 5) (aj 1) (λ_ _=>rfl)))
 (ar (qr (j:=3) hu (aQ eo cS (cO bF bI (aj 6) aq (λ_ _=>rfl)) (aQ dD eV (aj 2) (cO bF bI (aj 6) aq (λ_ _=>rfl)))) (aj 4)))))
 (jO 3 (ar (bb (dj (aa (aj 3) (aa (aj 2) ag)))))))))
theorem yD (T:nD mg)(wZ:Fn P w K mg base "ratio" 2 ["top","bottom"] (gF K 2 k7 .S))(iE:Df K mg "state_of" iy):Fn P w K mg base "state_of" 3 ["deals"] (gF K 1 eB .S):=by
 refine Df.fnD (N:=["deals","rows","whole","bottom","state","row"]) (ps:=["deals"]) (st:=iy) (k:=2) Ah .S l0 iE eL yz rfl (by decide) ?_;intro f cN A outer s0 H E hr;have hu:=hr.units;have mn:=cH hr;exact (ai (d_ (i:=1) eL.nd (ic ag))
 (ai (dU XF rfl (cJ (aj 0)) (gg rfl (aX (aA (i:=2) eL.nd) (aX (aA (i:=3) eL.nd) d8)))
 (ar (jG (kq (i:=1) X4 aaF aaG vI lP (aa (bh (Af rfl) De (by rfl) T.zeq AJ (aa (aj 2) ag)) ag)))))
 (jO 1 (ai (d_ (i:=4) eL.nd (ic ag))
 (ai (dU XF rfl (cJ (m1:=.O) (Ae rfl hu (aa (aj 1) ag) T.zbq T.ziq)) (aA (i:=5) eL.nd)
 (ar (jG (kq (i:=4) X4 ZI ZJ kR jK (aa (dj (aa (aj 5) (aa (bh aN bB (by rfl) T.zcq bG (aa (eU (ah iy) ["deals","rows","whole","bottom","state","row"] ["whole","bottom","row"] [none,none,some 5] rfl (cJ (aj 0)) (λY=>⟨(gg rfl (aX (aA (i:=0) (show (["whole","bottom","row"]:List Str).Nodup by decide+kernel)) (aX (aA (i:=1) (show (["whole","bottom","row"]:List Str).Nodup by decide+kernel)) d8))),bu,(aH wZ (rm hr) (aa (rn (j:=0) hu (aj 2) aq) (aa (aj 1) ag)))⟩)) ag)) ag))) ag)))))
 (ar (bb (bh aN bB (by rfl) T.zcq bG (aa (gf 4) ag)))))))))
theorem Gq (T:nD mg)(fM:Fn P w K mg base "state_of" 3 ["deals"] (gF K 1 eB .S))(nB:Df K mg "begun" l5):Fn P w K mg base "begun" 4 ["rows"] (gF K 1 k9 .S):=by
 refine Df.fnD (N:=["rows"]) (ps:=["rows"]) (st:=l5) (k:=3) Jn .S wc nB Gk Gn rfl (by decide) ?_;intro f cN A outer s0 H E hr;have hu:=hr.units;have mn:=cH hr;exact (ar (bb (aH fM (rm hr) (aa (eU (ah l5) ["rows"] ["row"] [none] rfl (cJ (aj 0)) (λY=>⟨(aA (i:=0) (show (["row"]:List Str).Nodup by decide+kernel)),bu,(dj (aa (Gf (j:=0) hu) (aa aq ag)))⟩)) ag))))
theorem pY (T:nD mg)  (dw:Df K mg "deal_numbers" dH):Fn P w K mg base "deal_numbers" 1 ["state"] (gF K 1 dk .O):=by
 refine Df.fnD (N:=["state"]) (ps:=["state"]) (st:=dH) (k:=0) sH .O ik dw pR pS rfl (by decide) ?_;intro f cN A outer s0 H E hr;have hu:=hr.units;have mn:=cH hr;exact (ar (vC (A6 rfl (aa (bH eP gJ (by rfl) T.zhq jE (aa (cO bF bI (cO bF bI (aj 0) aq (λ_ _=>rfl)) aq (λ_ _=>rfl)) ag)) ag) T.zeq T.zdq)))
theorem sO (T:nD mg)(tm:Fn P w K mg base "spread" 2 ["weights","shuffle"] (gF K 2 kJ .O))(gD:Fn P w K mg base "whole_weights" 3 ["state","number"] (gF K 2 cZ .S))(fM:Fn P w K mg base "state_of" 3 ["deals"] (gF K 1 eB .S))(iF:Fn P w K mg base "deal_numbers" 1 ["state"] (gF K 1 dk .O))(d7:Df K mg "mixed_state" eI):Fn P w K mg base "mixed_state" 4 ["state","shuffle"] (gF K 2 cA .S):=by
 refine Df.fnD (N:=["state","shuffle","mixed","number","deal"]) (ps:=["state","shuffle"]) (st:=eI) (k:=3) tN .S jb d7 ff sN rfl (by decide) ?_;intro f cN A outer s0 H E hr;have hu:=hr.units;have mn:=cH hr;exact (ai (d_ (i:=2) ff.nd (ic ag))
 (ai (dU XF rfl (cJ (m1:=.O) (aH iF (rm hr) (aa (aj 0) ag))) (aA (i:=3) ff.nd)
 (ai (aT (i:=4) ff.nd (aH gD (rm hr) (aa (aj 0) (aa (aj 3) ag))))
 (ar (jG (kq (i:=2) X4 ZI ZJ kR jK (aa (dj (aa (aH tm (rm hr) (aa (cO bF bI (aj 4) aq (λ_ _=>rfl)) (aa (aj 1) ag))) (aa (aQ eo cS (cO bF bI (aj 4) aq (λ_ _=>rfl)) (bH eP gJ (by rfl) T.zhq jE (aa (aj 1) ag))) ag))) ag))))))
 (jO 2 (ar (bb (aH fM (rm hr) (aa (aj 2) ag)))))))
theorem tZ (T:nD mg)(fS:Fn P w K mg base "mixed_state" 4 ["state","shuffle"] (gF K 2 cA .S))(fm:Df K mg "laid_state" fH):Fn P w K mg base "laid_state" 5 ["state","order"] (gF K 2 gO .S):=by
 refine Df.fnD (N:=["state","order"]) (ps:=["state","order"]) (st:=fH) (k:=4) wd .S jR fm tQ tR rfl (by decide) ?_;intro f cN A outer s0 H E hr;have hu:=hr.units;have mn:=cH hr;exact (ar (bb (aH fS (rm hr) (aa (aj 0) (aa (dj (aa (aj 1) ag)) ag)))))
theorem pZ (T:nD mg)  (dz:Df K mg "_law_cell_at" fI):Fn P w K mg base "_law_cell_at" 1 ["script","k"] (gF K 2 cL .S):=by
 refine Df.fnD (N:=["script","k"]) (ps:=["script","k"]) (st:=fI) (k:=0) sI .S e_ dz pT pV rfl (by decide) ?_;intro f cN A outer s0 H E hr;have hu:=hr.units;have mn:=cH hr;exact (ai (ji (dR AE vJ (aj 1) (bH eP gJ (by rfl) T.zhq jE (aa (aj 0) ag)) (dP _)) (ar (bb (cO bF bI (aj 0) (aj 1) (λ_ _=>rfl)))) d9)
 (ar (bb aq)))
theorem t7 (T:nD mg)(iG:Fn P w K mg base "_law_cell_at" 1 ["script","k"] (gF K 2 cL .S))(fo:Df K mg "_law_state" gY):Fn P w K mg base "_law_state" 2 ["script","k"] (gF K 2 fc .O):=by
 refine Df.fnD (N:=["script","k","cell"]) (ps:=["script","k"]) (st:=gY) (k:=1) we .O gP fo lG tT rfl (by decide) ?_;intro f cN A outer s0 H E hr;have hu:=hr.units;have mn:=cH hr;exact (ai (aT (i:=2) lG.nd (aH iG (rm hr) (aa (aj 0) (aa (aj 1) ag))))
 (ai (ji (dR OB Ms (aj 2) (aQ D3 AX aq aq) (dP _)) (ar (vC (ic (aa (aQ DZ AW (aj 2) (aQ D3 AX aq aq)) (aa AL ag))))) d9)
 (ar (vC (ic (aa (aQ kj iQ (aj 2) aq) (aa AL ag)))))))
theorem wB (T:nD mg)  (f7:Df K mg "_law_take" jt):Fn P w K mg base "_law_take" 1 ["state","many"] (Es K 2 aw):=by
 refine Df.fnI (N:=["state","many","found","mixed"]) (ps:=["state","many"]) (st:=jt) (k:=0) yt iU f7 gR wu rfl rfl (by decide) ?_;intro f cN A outer s0 H E hr;have hu:=hr.units;have mn:=cH hr;exact (ai (ji (Ep (cO bF bI (gf 0) aq (λ_ _=>rfl))) (ai (aT (i:=2) gR.nd (aQ kj iQ (cO bF bI (gf 0) aq (λ_ _=>rfl)) (aj 1)))
 (ai (AU (i:=0) (aQ dD eV (cO bF bI (gf 0) aq (λ_ _=>rfl)) (aj 1)) aq)
 (ar (bb (aj 2))))) d9)
 (ai (AU (i:=0) (aQ kj iQ (aQ bY bZ (aQ eo cS (cO bF bI (gf 0) aq (λ_ _=>rfl)) aq) aq) aq) aq)
 (ai (aT (i:=3) gR.nd (aQ kj iQ (aQ bY bZ (aQ bY bZ (aQ eo cS (cO bF bI (gf 0) aq (λ_ _=>rfl)) (cO bF bI (gf 0) aq (λ_ _=>rfl))) (aQ eo cS aq (cO bF bI (gf 0) aq (λ_ _=>rfl)))) aq) aq))
 (ai (aT (i:=3) gR.nd (aQ kj iQ (aQ bY bZ (aQ eo cS (aj 3) (aj 3)) (aQ eo cS aq (aj 3))) aq))
 (ar (bb (aQ kj iQ (aQ dD eV (aj 3) aq) (aj 1))))))))
theorem p0 (T:nD mg)  (dA:Df K mg "_law_divisor" eJ):Fn P w K mg base "_law_divisor" 1 ["one","other"] (gF K 2 dq .S):=by
 refine Df.fnD (N:=["one","other"]) (ps:=["one","other"]) (st:=eJ) (k:=0) sJ .S iq dA eh pW rfl (by decide) ?_;intro f cN A outer s0 H E hr;have hu:=hr.units;have mn:=cH hr;exact (ai (aT (i:=0) eh.nd (bH mw qm (by rfl) T.zlq vt (aa (aj 0) ag)))
 (ai (aT (i:=1) eh.nd (bH mw qm (by rfl) T.zlq vt (aa (aj 1) ag)))
 (ai (xy XF (dR OA Mr (aj 1) aq (dP _))
 (ar (Mi (i:=0) (j:=1) rfl eh.nd (aa (aj 1) (aa (aQ kj iQ (aj 0) (aj 1)) ag)))))
 (ar (bb (aj 0))))))
theorem t9 (T:nD mg)(iH:Fn P w K mg base "_law_divisor" 1 ["one","other"] (gF K 2 dq .S))(fq:Df K mg "_law_ratio" gZ):Fn P w K mg base "_law_ratio" 2 ["top","bottom"] (gF K 2 bM .S):=by
 refine Df.fnD (N:=["top","bottom","by"]) (ps:=["top","bottom"]) (st:=gZ) (k:=1) wg .S jS fq lH tU rfl (by decide) ?_;intro f cN A outer s0 H E hr;have hu:=hr.units;have mn:=cH hr;exact (ai (aT (i:=2) lH.nd (aH iH (rm hr) (aa (aj 0) (aa (aj 1) ag))))
 (ar (bb (dj (aa (aQ dD eV (aj 0) (aj 2)) (aa (aQ dD eV (aj 1) (aj 2)) ag))))))
theorem t_ (T:nD mg)(dJ:Fn P w K mg base "_law_ratio" 2 ["top","bottom"] (gF K 2 bM .S))(ft:Df K mg "_law_total" g7):Fn P w K mg base "_law_total" 3 ["some"] (gF K 1 dF .S):=by
 refine Df.fnD (N:=["some","found","top","bottom"]) (ps:=["some"]) (st:=g7) (k:=2) wj .S jT ft d4 tV rfl (by decide) ?_;intro f cN A outer s0 H E hr;have hu:=hr.units;have mn:=cH hr;exact (ai (aT (i:=1) d4.nd (dj (aa aq (aa aq ag))))
 (ai (dU XF rfl (cJ (aj 0)) (gg rfl (aX (aA (i:=2) d4.nd) (aX (aA (i:=3) d4.nd) d8)))
 (ar (aT (i:=1) d4.nd (aH dJ (rm hr) (aa (aQ bY bZ (aQ eo cS (cO bF bI (aj 1) aq (λ_ _=>rfl)) (aj 3)) (aQ eo cS (aj 2) (cO bF bI (aj 1) aq (λ_ _=>rfl)))) (aa (aQ eo cS (cO bF bI (aj 1) aq (λ_ _=>rfl)) (aj 3)) ag))))))
 (ar (bb (aj 1)))))
theorem yE (T:nD mg)(aR:Fn P w K mg base "_law_take" 1 ["state","many"] (Es K 2 aw))(iI:Df K mg "_law_row" iW):Fn P w K mg base "_law_row" 2 ["state","many"] (Es K 2 eC):=by
 refine Df.fnI (N:=["state","many","way"]) (ps:=["state","many"]) (st:=iW) (k:=1) fG jU iI pA yA rfl rfl (by decide) ?_;intro f cN A outer s0 H E hr;have hu:=hr.units;have mn:=cH hr;exact (ai (aT (i:=2) pA.nd (bL (i:=0) aR (rm hr) (aa aq ag)))
 (ai (ji (dR AE vJ (aj 2) aq (dP _)) (ar (bb (bh aN bB (by rfl) T.zcq bG (aa (vF (ah iW) ["state","many","way"] ["k","state"] [none,some 0] rfl (cu (aa (aj 1) ag) T.zdq) (λY=>⟨(aA (i:=0) (show (["k","state"]:List Str).Nodup by decide+kernel)),bu,(bL (i:=1) aR (rm hr) (aa aq ag))⟩)) ag)))) d9)
 (ar (bb (bh aN bB (by rfl) T.zcq bG (aa (vF (ah iW) ["state","many","way"] ["k","state","way"] [none,some 0,some 2] rfl (cu (aa (aj 1) ag) T.zdq) (λY=>⟨(aA (i:=0) (show (["k","state","way"]:List Str).Nodup by decide+kernel)),bu,(bL (i:=1) aR (rm hr) (aa (cO bF bI (ic (aa aq (aa aq ag))) (aQ DZ AW (aj 2) aq) (λ_ _=>rfl)) ag))⟩)) ag))))))
theorem uc (T:nD mg)(aR:Fn P w K mg base "_law_take" 1 ["state","many"] (Es K 2 aw))(fu:Df K mg "_law_order" fJ):Fn P w K mg base "_law_order" 2 ["state","many"] (Es K 2 bN):=by
 refine Df.fnI (N:=["state","many","left"]) (ps:=["state","many"]) (st:=fJ) (k:=1) jV jW fu lJ tW rfl rfl (by decide) ?_;intro f cN A outer s0 H E hr;have hu:=hr.units;have mn:=cH hr;exact (ai (d_ (i:=2) lJ.nd (A6 rfl (aa (aj 1) ag) T.zeq T.zdq))
 (ar (bb (bh aN bB (by rfl) T.zcq bG (aa (vF (ah fJ) ["state","many","left"] ["k","left","state"] [none,some 2,some 0] rfl (cu (aa (aj 1) ag) T.zdq) (λY=>⟨(aA (i:=0) (show (["k","left","state"]:List Str).Nodup by decide+kernel)),bu,(kq (i:=1) X4 PySem.F.slot_list_pop PySem.F.type_list_pop D_ CH (aa (bL (i:=2) aR (rm hr) (aa (bH eP gJ (by rfl) T.zhq jE (aa (gf 1) ag)) ag)) ag))⟩)) ag)))))
theorem wC (T:nD mg)  (f9:Df K mg "_law_laid" iz):Fn P w K mg base "_law_laid" 1 ["row","order"] (gF K 2 cP .S):=by
 refine Df.fnD (N:=["row","order"]) (ps:=["row","order"]) (st:=iz) (k:=0) yu .S kK f9 wx wy rfl (by decide) ?_;intro f cN A outer s0 H E hr;have hu:=hr.units;have mn:=cH hr;exact (ar (bb (bh aN bB (by rfl) T.zcq bG (aa (eU (ah iz) ["row","order"] ["place","row"] [none,some 0] rfl (cJ (aj 1)) (λY=>⟨(aA (i:=0) (show (["place","row"]:List Str).Nodup by decide+kernel)),bu,(cO bF bI (aj 1) (aj 0) (λ_ _=>rfl))⟩)) ag))))
theorem p6 (T:nD mg)(aR:Fn P w K mg base "_law_take" 1 ["state","many"] (Es K 2 aw))(fw:Fn P w K mg base "_law_order" 2 ["state","many"] (Es K 2 bN))(dB:Df K mg "_law_shuffle" bQ):Fn P w K mg base "_law_shuffle" 3 ["state","many"] (Es K 2 aK):=by
 refine Df.fnI (N:=["state","many","stays","way","order","half","some","size","k","longer"]) (ps:=["state","many"]) (st:=bQ) (k:=2) ir bU dB aV pX rfl rfl (by decide) ?_;intro f cN A outer s0 H E hr;have hu:=hr.units;have mn:=cH hr;exact (ai (aT (i:=2) aV.nd (IE rfl (aa (aj 1) ag) T.zcq T.zdq))
 (ai (aT (i:=3) aV.nd (bL (i:=0) aR (rm hr) (aa aq ag)))
 (ai (ji (dR qG jQ (aj 3) aq (dP _)) (ar (bb (bh aN bB (by rfl) T.zcq bG (aa (eU (ah bQ) ["state","many","stays","way","order","half","some","size","k","longer"] ["k","stays"] [none,some 2] rfl (cu (aa (aj 1) ag) T.zdq) (λY=>⟨(aA (i:=0) (show (["k","stays"]:List Str).Nodup by decide+kernel)),bu,(aQ bY bZ (fW fX ky (aj 1) (gI (aj 0)) jF) (fW fX ky (aj 1) jF (gI (aj 0))))⟩)) ag)))) d9)
 (ai (ji (dR qG jQ (aj 3) aq (dP _)) (ai (aT (i:=4) aV.nd (bL (i:=0) fw (rm hr) (aa (aj 1) ag)))
 (ar (bb (dj (aa (aj 2) (aa (aj 4) ag)))))) d9)
 (ai (ji (dR qG jQ (aj 3) aq (dP _)) (ai (aT (i:=5) aV.nd (aQ dD eV (aj 1) aq))
 (ar (bb (dj (aa (aj 2) (aa (aQ bY bZ (aQ bY bZ (fW fX ky (aj 2) (gI (aj 5)) (gI (aQ eo cS aq (aj 5)))) (fW fX ky (aj 2) jF (gI (aj 5)))) (fW fX ky (aj 2) (gI (aQ eo cS aq (aj 5))) jF)) ag)))))) d9)
 (ai (ji (dR qG jQ (aj 3) aq (dP _)) (ai (aT (i:=6) aV.nd (ic (aa (dj ag) ag)))
 (ai (aT (i:=7) aV.nd (bH (um rfl) xG (by rfl) T.zgq Ek (aa (aj 1) (aa (aQ bY bZ aq (bL (i:=0) aR (rm hr) (aa aq ag))) ag))))
 (ai (dU XF rfl (cu (aa (aj 7) ag) T.zdq) (aA (i:=8) aV.nd)
 (ai (d_ (i:=9) aV.nd (ic ag))
 (ai (dU XF rfl (cJ (aj 6)) (aA (i:=4) aV.nd)
 (ar (jG (kq (i:=9) X4 aaF aaG vI lP (aa (eU (ah bQ) ["state","many","stays","way","order","half","some","size","k","longer"] ["j","order","k"] [none,some 4,some 8] rfl (cu (aa (aQ bY bZ (aj 8) aq) ag) T.zdq) (λY=>⟨(aA (i:=0) (show (["j","order","k"]:List Str).Nodup by decide+kernel)),bu,(aQ bY bZ (aQ bY bZ (fW fX ky (aj 1) jF (gI (aj 0))) (dj (aa (aj 2) ag))) (fW fX ky (aj 1) (gI (aj 0)) jF))⟩)) ag)))))
 (ar (Im (i:=6) (j:=9) aV.nd)))))
 (ar (bb (bh aN bB (by rfl) T.zcq bG (aa (eU (ah bQ) ["state","many","stays","way","order","half","some","size","k","longer"] ["order","stays","size"] [none,some 2,some 7] rfl (cJ (aj 6)) (λY=>⟨(aA (i:=0) (show (["order","stays","size"]:List Str).Nodup by decide+kernel)),bu,(aQ bY bZ (aj 0) (fW fX ky (aj 1) (gI (aj 2)) jF))⟩)) ag))))))) d9)
 (ar (bb (bh aN bB (by rfl) T.zcq bG (aa (vF (ah bQ) ["state","many","stays","way","order","half","some","size","k","longer"] ["k","state","many"] [none,some 0,some 1] rfl (cu (aa (aQ bY bZ aq (bL (i:=0) aR (rm hr) (aa aq ag))) ag) T.zdq) (λY=>⟨(aA (i:=0) (show (["k","state","many"]:List Str).Nodup by decide+kernel)),bu,(bL (i:=1) fw (rm hr) (aa (aj 2) ag))⟩)) ag))))))))))
theorem wF (T:nD mg)(j2:Fn P w K mg base "_law_total" 3 ["some"] (gF K 1 dF .S))(gb:Df K mg "_law_plus" iA):Fn P w K mg base "_law_plus" 4 ["one","other"] (gF K 2 eG .S):=by
 refine Df.fnD (N:=["one","other"]) (ps:=["one","other"]) (st:=iA) (k:=3) yv .S kL gb wz wA rfl (by decide) ?_;intro f cN A outer s0 H E hr;have hu:=hr.units;have mn:=cH hr;exact (ar (bb (bh aN bB (by rfl) T.zcq bG (aa (eU (ah iA) ["one","other"] ["a","b"] [none,none] rfl (MG (aa (aj 0) (aa (aj 1) ag)) T.zjq) (λY=>⟨(gg rfl (aX (aA (i:=0) (show (["a","b"]:List Str).Nodup by decide+kernel)) (aX (aA (i:=1) (show (["a","b"]:List Str).Nodup by decide+kernel)) d8))),bu,(aH j2 (rm hr) (aa (ic (aa (aj 0) (aa (aj 1) ag))) ag))⟩)) ag))))
theorem yF (T:nD mg)(kQ:Fn P w K mg base "_law_plus" 4 ["one","other"] (gF K 2 eG .S))(iJ:Df K mg "_law_put" jZ):Fn P w K mg base "_law_put" 5 ["pairs"] (gF K 1 cU .S):=by
 refine Df.fnD (N:=["pairs","known","row","weights"]) (ps:=["pairs"]) (st:=jZ) (k:=4) Ai .S l4 iJ iX yB rfl (by decide) ?_;intro f cN A outer s0 H E hr;have hu:=hr.units;have mn:=cH hr;exact (ai (d_ (i:=1) iX.nd mS)
 (ai (dU XF rfl (cJ (aj 0)) (gg rfl (aX (aA (i:=2) iX.nd) (aX (aA (i:=3) iX.nd) d8)))
 (ar (qr (j:=1) hu (Er (hc:=(dR (My hu) IK (aj 2) (gf 1) (by with_unfolding_all rfl))) (ha:=(aH kQ (rm hr) (aa (ET hu (gf 1) (aj 2)) (aa (aj 3) ag)))) (hb:=(aj 3))) (aj 2))))
 (jO 1 (ar (bb (bh aN bB (by rfl) T.zcq bG (aa (eU (ah jZ) ["pairs","known","row","weights"] ["row","known"] [none,some 1] rfl (cJ (m1:=.O) (bH (C9 rfl hu) F_ (by rfl) T.zbq uB (aa (aj 1) ag))) (λY=>⟨(aA (i:=0) (show (["row","known"]:List Str).Nodup by decide+kernel)),bu,(dj (aa (aj 0) (aa (ET hu (aj 1) (aj 0)) ag)))⟩)) ag)))))))
theorem ud (T:nD mg)(eD:Fn P w K mg base "_law_put" 5 ["pairs"] (gF K 1 cU .S))(fx:Df K mg "_law_begun" fK):Fn P w K mg base "_law_begun" 6 ["rows"] (gF K 1 dG .S):=by
 refine Df.fnD (N:=["rows","pairs","k"]) (ps:=["rows"]) (st:=fK) (k:=5) wm .S jX fx jc tX rfl (by decide) ?_;intro f cN A outer s0 H E hr;have hu:=hr.units;have mn:=cH hr;exact (ai (d_ (i:=1) jc.nd (ic ag))
 (ai (dU XF rfl (cu (aa (bH eP gJ (by rfl) T.zhq jE (aa (aj 0) ag)) ag) T.zdq) (aA (i:=2) jc.nd)
 (ar (jG (kq (i:=1) X4 ZI ZJ kR jK (aa (dj (aa (cO bF bI (aj 0) (aj 2) (λ_ _=>rfl)) (aa (bh aN bB (by rfl) T.zcq bG (aa (eU (ah fK) ["rows","pairs","k"] ["j","k"] [none,some 2] rfl (cu (aa (bH eP gJ (by rfl) T.zhq jE (aa (aj 0) ag)) ag) T.zdq) (λY=>⟨(aA (i:=0) (show (["j","k"]:List Str).Nodup by decide+kernel)),bu,(dj (aa (bh Cr IC (by rfl) T.zkq L5 (aa (L9 qG jQ (aj 0) (aj 1) (dP _)) ag)) (aa aq ag)))⟩)) ag)) ag))) ag)))))
 (jO 1 (ar (bb (aH eD (rm hr) (aa (aj 1) ag)))))))
theorem ue (T:nD mg)(dJ:Fn P w K mg base "_law_ratio" 2 ["top","bottom"] (gF K 2 bM .S))(i0:Fn P w K mg base "_law_laid" 1 ["row","order"] (gF K 2 cP .S))(eD:Fn P w K mg base "_law_put" 5 ["pairs"] (gF K 1 cU .S))(fy:Df K mg "_law_mixed" eK):Fn P w K mg base "_law_mixed" 6 ["state","shuffle"] (gF K 2 gQ .S):=by
 refine Df.fnD (N:=["state","shuffle","pairs","row","weights","share"]) (ps:=["state","shuffle"]) (st:=eK) (k:=5) wq .S jY fy d5 tY rfl (by decide) ?_;intro f cN A outer s0 H E hr;have hu:=hr.units;have mn:=cH hr;exact (ai (d_ (i:=2) d5.nd (ic ag))
 (ai (dU XF rfl (cJ (aj 0)) (gg rfl (aX (aA (i:=3) d5.nd) (aX (aA (i:=4) d5.nd) d8)))
 (ai (aT (i:=5) d5.nd (bh aN bB (by rfl) T.zcq bG (aa (eU (ah eK) ["state","shuffle","pairs","row","weights","share"] ["top","bottom","shuffle"] [none,none,some 1] rfl (cJ (aj 4)) (λY=>⟨(gg rfl (aX (aA (i:=0) (show (["top","bottom","shuffle"]:List Str).Nodup by decide+kernel)) (aX (aA (i:=1) (show (["top","bottom","shuffle"]:List Str).Nodup by decide+kernel)) d8))),bu,(aH dJ (rm hr) (aa (aj 0) (aa (aQ eo cS (aj 1) (bH eP gJ (by rfl) T.zhq jE (aa (aj 2) ag))) ag)))⟩)) ag)))
 (ar (jG (kq (i:=2) X4 aaF aaG vI lP (aa (eU (ah eK) ["state","shuffle","pairs","row","weights","share"] ["order","share","row"] [none,some 5,some 3] rfl (cJ (aj 1)) (λY=>⟨(aA (i:=0) (show (["order","share","row"]:List Str).Nodup by decide+kernel)),bu,(dj (aa (aH i0 (rm hr) (aa (aj 2) (aa (aj 0) ag))) (aa (aj 1) ag)))⟩)) ag))))))
 (jO 2 (ar (bb (aH eD (rm hr) (aa (aj 2) ag)))))))
theorem M_ (T:nD mg)(FL:Hk K "law" "law" tP f fd)(bW:Df K mg "greatest_divisor" bR)(nA:Df K mg "ratio" oh)(c8:Df K mg "common_bottom" c_)(iD:Df K mg "cards_at" iu)(jA:Df K mg "counted" jr)(kP:Df K mg "spread" k_)(c9:Df K mg "whole_weights" cB)(iE:Df K mg "state_of" iy)(nB:Df K mg "begun" l5)(dw:Df K mg "deal_numbers" dH)(d7:Df K mg "mixed_state" eI)(fm:Df K mg "laid_state" fH)(dz:Df K mg "_law_cell_at" fI)(fo:Df K mg "_law_state" gY)(f7:Df K mg "_law_take" jt)(dA:Df K mg "_law_divisor" eJ)(fq:Df K mg "_law_ratio" gZ)(ft:Df K mg "_law_total" g7)(iI:Df K mg "_law_row" iW)(fu:Df K mg "_law_order" fJ)(f9:Df K mg "_law_laid" iz)(dB:Df K mg "_law_shuffle" bQ)(gb:Df K mg "_law_plus" iA)(iJ:Df K mg "_law_put" jZ)(fx:Df K mg "_law_begun" fK)(fy:Df K mg "_law_mixed" eK)(hp:∀ns:List Int,ns.length<=63->yw [.scr (ns.map .int)]=.ok (.bl true)):lq P w K mg base xk 7 f fd ["script"] (xB K):=by
 have bD:=lA (P:=P) (w:=w) (base:=base) T  bW;have wZ:=Gp (P:=P) (w:=w) (base:=base) T bD nA;have gA:=oq (P:=P) (w:=w) (base:=base) T bD c8;have mf:=yC (P:=P) (w:=w) (base:=base) T  iD;have oB:=Ak (P:=P) (w:=w) (base:=base) T  jA;have tm:=Di (P:=P) (w:=w) (base:=base) T mf oB kP;have gD:=ou (P:=P) (w:=w) (base:=base) T gA c9;have fM:=yD (P:=P) (w:=w) (base:=base) T wZ iE;have Cf:=Gq (P:=P) (w:=w) (base:=base) T fM nB;have iF:=pY (P:=P) (w:=w) (base:=base) T  dw;have fS:=sO (P:=P) (w:=w) (base:=base) T tm gD fM iF d7;have w6:=tZ (P:=P) (w:=w) (base:=base) T fS fm;have iG:=pZ (P:=P) (w:=w) (base:=base) T  dz;have w9:=t7 (P:=P) (w:=w) (base:=base) T iG fo;have aR:=wB (P:=P) (w:=w) (base:=base) T  f7;have iH:=p0 (P:=P) (w:=w) (base:=base) T  dA;have dJ:=t9 (P:=P) (w:=w) (base:=base) T iH fq;have j2:=t_ (P:=P) (w:=w) (base:=base) T dJ ft;have AA:=yE (P:=P) (w:=w) (base:=base) T aR iI;have fw:=uc (P:=P) (w:=w) (base:=base) T aR fu;have i0:=wC (P:=P) (w:=w) (base:=base) T  f9;have tq:=p6 (P:=P) (w:=w) (base:=base) T aR fw dB;have kQ:=wF (P:=P) (w:=w) (base:=base) T j2 gb;have eD:=yF (P:=P) (w:=w) (base:=base) T kQ iJ;have nC:=ud (P:=P) (w:=w) (base:=base) T eD fx;have w_:=ue (P:=P) (w:=w) (base:=base) T dJ i0 eD fy;refine Mp (f:=yw) ?_ hp;refine Hk.okD (N:=["script","k","draws","many","rows","due","found","j","order","shuffle"]) (ps:=["script"]) (st:=tP) (k:=6) Gh .S Gi FL fg rfl (by decide) ?_;intro f cN A outer s0 H E hr;have hu:=hr.units;have mn:=cH hr;exact (ai (dU XF rfl (cu (aa (bH (Cq rfl) EF (by rfl) T.zfq L6 (aa aq (aa (bH (um rfl) xG (by rfl) T.zgq Ek (aa (bH eP gJ (by rfl) T.zhq jE (aa (aj 0) ag)) (aa aq ag))) ag))) ag) T.zdq) (aA (i:=1) fg.nd)
 (ai (d_ (i:=2) fg.nd (aH w9 (rm hr) (aa (aj 0) (aa (aj 1) ag))))
 (ai (aT (i:=3) fg.nd (aQ bY bZ aq (bL (i:=2) aR (rm hr) (aa aq ag))))
 (ai (zx (i:=4) (ah tP) ["script","k","draws","many","rows","due","found","j","order","shuffle"] ["j","draws","many"] [none,some 2,some 3] fg.nd rfl (cu (aa (aQ bY bZ aq (bL (i:=2) aR (rm hr) (aa aq ag))) ag) T.zdq) (λY=>⟨(aA (i:=0) (show (["j","draws","many"]:List Str).Nodup by decide+kernel)),bu,(bL (i:=1) AA (rm hr) (aa (aj 2) ag))⟩))
 (ai (ji (dR qG jQ (bL (i:=2) aR (rm hr) (aa aq ag)) aq (dP _)) (ar (jG (kq (i:=4) X4 ZI ZJ kR jK (aa (cO bF bI (gf 4) aq (λ_ _=>rfl)) ag)))) d9)
 (jO 4 (ai (aT (i:=5) fg.nd (aH nC (rm hr) (aa (aj 4) ag)))
 (ai (aT (i:=6) fg.nd (aH Cf (rm hr) (aa (aj 4) ag)))
 (ar (dU XF rfl (cu (aa aq ag) T.zdq) (aA (i:=7) fg.nd)
 (ai (ji (DW.dt (JS (Mc (Ep (ID (T:="tuple") (by decide) (aj 6) T.zaq T.zcq bG))) (JS (dR (Ei hu) (EE (f:=not)) (aj 6) (aj 5) (dP _)) (Mb (dR (Ei hu) (EE (f:=not)) (aH Cf (rm hr) (aa (bh aN bB (by rfl) T.zcq bG (aa (aj 4) ag)) ag)) (aH nC (rm hr) (aa (aj 4) ag)) (dP _)))))) (ar (bb AL)) d9)
 (ar (ji (dR qG jQ (bL (i:=2) aR (rm hr) (aa aq ag)) aq (dP _)) (ai (aT (i:=8) fg.nd (bL (i:=2) fw (rm hr) (aa (aj 3) ag)))
 (ai (aT (i:=5) fg.nd (aH eD (rm hr) (aa (eU (ah tP) ["script","k","draws","many","rows","due","found","j","order","shuffle"] ["row","weights","order"] [none,none,some 8] rfl (cJ (aj 5)) (λY=>⟨(gg rfl (aX (aA (i:=0) (show (["row","weights","order"]:List Str).Nodup by decide+kernel)) (aX (aA (i:=1) (show (["row","weights","order"]:List Str).Nodup by decide+kernel)) d8))),bu,(dj (aa (aH i0 (rm hr) (aa (aj 0) (aa (aj 2) ag))) (aa (aj 1) ag)))⟩)) ag)))
 (ar (aT (i:=6) fg.nd (aH w6 (rm hr) (aa (aj 6) (aa (aj 8) ag))))))) (ar (ji (dR AE vJ (bH eP gJ (by rfl) T.zhq jE (aa (aj 5) ag)) aq (dP _)) (ai (aT (i:=9) fg.nd (bL (i:=2) tq (rm hr) (aa (aj 3) ag)))
 (ai (aT (i:=5) fg.nd (aH w_ (rm hr) (aa (aj 5) (aa (aj 9) ag))))
 (ar (aT (i:=6) fg.nd (aH fS (rm hr) (aa (aj 6) (aa (aj 9) ag))))))) d9)))))))))))))))
 (ar (bb AL)))
end
inductive m9 (K:WD)(x:Str)(st:abx):Prop
 |mk {f:W8} {od an:Option W8} {sl:Array (Option WG)} {oc kV dc pm cd ct:WG}:YN K XH x=some (some (.ref f))->K.lookup f=some ⟨oc,od,.func (YI x x (eR st) (bX st) (ah st) .none kV dc pm an cd ct),sl⟩->acd K cd x=true->ZR K (.ref f)=true->m9 K x st
theorem cQ (q:m9 K x st)(X:K.In h)(G:h.Ns XH mg):Df K mg x st:=by
 obtain⟨a,l,c,k⟩:=q;exact⟨_,_,PySem.W.mg_of X G a,Eb (st:=st) l c k⟩
theorem all_mk {fa:W8}(X:K.In h)(G:h.Ns XH mg)(VB:mg "law"=some (.ref fa))(q0:m9 K "greatest_divisor" bR)(q1:m9 K "ratio" oh)(q2:m9 K "common_bottom" c_)(q3:m9 K "cards_at" iu)(q4:m9 K "counted" jr)(q5:m9 K "spread" k_)(q6:m9 K "whole_weights" cB)(q7:m9 K "state_of" iy)(q8:m9 K "begun" l5)(q9:m9 K "deal_numbers" dH)(VC:m9 K "mixed_state" eI)(VD:m9 K "laid_state" fH)(VE:m9 K "_law_cell_at" fI)(VF:m9 K "_law_state" gY)(VG:m9 K "_law_take" jt)(VH:m9 K "_law_divisor" eJ)(VI:m9 K "_law_ratio" gZ)(VJ:m9 K "_law_total" g7)(VL:m9 K "_law_row" iW)(VM:m9 K "_law_order" fJ)(VN:m9 K "_law_laid" iz)(VO:m9 K "_law_shuffle" bQ)(VP:m9 K "_law_plus" iA)(VQ:m9 K "_law_put" jZ)(VR:m9 K "_law_begun" fK)(VS:m9 K "_law_mixed" eK)(VT:m9 K "law" tP)(zlq:YN K XH "abs"=some none)(zkq:YN K XH "int"=some none)(zaq:YN K XH "isinstance"=some none)(zhq:YN K XH "len"=some none)(zeq:YN K XH "list"=some none)(zfq:YN K XH "max"=some none)(zgq:YN K XH "min"=some none)(zdq:YN K XH "range"=some none)(ziq:YN K XH "set"=some none)(zbq:YN K XH "sorted"=some none)(zcq:YN K XH "tuple"=some none)(zjq:YN K XH "zip"=some none)(hp:∀ns:List Int,ns.length<=63->yw [.scr (ns.map .int)]=.ok (.bl true))
  : ∃fd:aby,(∀(s:WT) (v:WG),BindsTo s fd ⟨[v],[]⟩ [("script",v)])/\∀base:Zv,K.In base->base.Ns XH mg->lq PySem.Challenge.pw_hushcards_k61_states_laid_and_mixed w K mg base xk 7 fa fd ["script"] (xB K):=by
 obtain @⟨f_,od_,an26,sl_,oc_,kV26,dc26,pm26,cd26,ct26,a26,l26,c26,k26⟩:=VT;have e:=VB.symm.trans (PySem.W.mg_of X G a26);cases e;have T:nD mg:=⟨XT X G zlq,XT X G zkq,XT X G zaq,XT X G zhq,XT X G zeq,XT X G zfq,XT X G zgq,XT X G zdq,XT X G ziq,XT X G zbq,XT X G zcq,XT X G zjq⟩;have bW:=cQ q0 X G;have nA:=cQ q1 X G;have c8:=cQ q2 X G;have iD:=cQ q3 X G;have jA:=cQ q4 X G;have kP:=cQ q5 X G;have c9:=cQ q6 X G;have iE:=cQ q7 X G;have nB:=cQ q8 X G;have dw:=cQ q9 X G;have d7:=cQ VC X G;have fm:=cQ VD X G;have dz:=cQ VE X G;have fo:=cQ VF X G;have f7:=cQ VG X G;have dA:=cQ VH X G;have fq:=cQ VI X G;have ft:=cQ VJ X G;have iI:=cQ VL X G;have fu:=cQ VM X G;have f9:=cQ VN X G;have dB:=cQ VO X G;have gb:=cQ VP X G;have iJ:=cQ VQ X G;have fx:=cQ VR X G;have fy:=cQ VS X G;have FL:=Eb (st:=tP) l26 c26 k26;refine⟨YI "law" "law" (eR tP) (bX tP) (ah tP) .none kV26 dc26 pm26 an26 cd26 ct26,λs v=>.of_eq rfl,λbase _ _=>?_⟩;exact M_ (P:=PySem.Challenge.pw_hushcards_k61_states_laid_and_mixed) (w:=w) (base:=base) T  FL bW nA c8 iD jA kP c9 iE nB dw d7 fm dz fo f7 dA fq ft iI fu f9 dB gb iJ fx fy hp
end Hc
namespace Hc
open L2
noncomputable abbrev hS (s:String)(n:Nat):WG:=.str (Yw s) n
noncomputable abbrev hE (P:Params)(s:String)(n:Nat)(v:WG):acz:=⟨PyData.keyHash P (Yw s),hS s n,v⟩
noncomputable abbrev hD (c:WG)(l:List acz)(n:Nat):Obj:=⟨c,none,.dict l.toArray n,#[]⟩
noncomputable abbrev hX (c:WG)(l:List WG):Obj:=⟨c,none,.fields l.toArray,#[]⟩
noncomputable abbrev hC (n q:String)(a:Nat)(l k:Int)(r r1:Nat)(v1 v2:WG)(r2:Nat)(m:Int)(m':Nat):Obj:=hX (.type "code") [hS n a,hS q (a+1),hS "/claim/cut.py" (a+2),.int l 0,.int k 0,.int 0 0,.int 0 0,.int 3 0,.ref r,.bool true,.int 181 0,.ref r1,.none,v1,v2,.ref r2,.int m 0,.int l 0,hS "/claim/cut.py" m']
noncomputable abbrev hF (n q:String)(s:abx)(kV nF pm:WG)(an:Option W8)(cd ct:WG):Obj:=⟨.type "function",none,.func (YI n q (eR s) (bX s) (ah s) .none kV nF pm an cd ct),#[]⟩
noncomputable def Kf (P:Params):WD:=
 (nat_lit 2,hD .none [] 0) ::
 (nat_lit 3,hD (.type "dict") [hE P "__name__" 165 (hS "law_hushcards_k61_states_laid_and_mixed" 295),hE P "__doc__" 166 .none,hE P "__package__" 167 .none,hE P "__loader__" 168 (.builtin "__main__.__loader__#opaque"),hE P "__spec__" 169 .none,hE P "__annotations__" 170 (.ref 6),hE P "__builtins__" 171 (.ref 4),hE P "__file__" 173 (hS "/claim/cut.py" 172),hE P "__cached__" 174 .none,hE P "greatest_divisor" 197 (.ref 21),hE P "ratio" 206 (.ref 28),hE P "common_bottom" 215 (.ref 35),hE P "cards_at" 223 (.ref 40),hE P "counted" 234 (.ref 47),hE P "spread" 248 (.ref 54),hE P "whole_weights" 256 (.ref 59),hE P "state_of" 262 (.ref 64),hE P "begun" 268 (.ref 69),hE P "deal_numbers" 275 (.ref 76),hE P "mixed_state" 286 (.ref 83),hE P "laid_state" 294 (.ref 90),hE P "_law_cell_at" 304 (.ref 97),hE P "_law_state" 313 (.ref 104),hE P "_law_take" 323 (.ref 111),hE P "_law_divisor" 331 (.ref 118),hE P "_law_ratio" 340 (.ref 125),hE P "_law_total" 350 (.ref 132),hE P "_law_row" 356 (.ref 137),hE P "_law_order" 362 (.ref 142),hE P "_law_laid" 368 (.ref 147),hE P "_law_shuffle" 374 (.ref 152),hE P "_law_plus" 380 (.ref 157),hE P "_law_put" 386 (.ref 162),hE P "_law_begun" 392 (.ref 167),hE P "_law_mixed" 398 (.ref 172),hE P "_law_looked" 404 (.ref 177),hE P "law" 410 (.ref 182)] 37) ::
 (nat_lit 20,hC "greatest_divisor" "greatest_divisor" 189 2 2 15 16 (.ref 17) (.ref 18) 19 195 196) ::
 (nat_lit 21,hF "greatest_divisor" "greatest_divisor" (top 1) .none .none (hS "hushcards.fractions" 187) none (.ref 20) .none) ::
 (nat_lit 27,hC "ratio" "ratio" 198 10 2 22 23 (.ref 24) (.ref 25) 26 204 205) ::
 (nat_lit 28,hF "ratio" "ratio" (top 2) .none .none (hS "hushcards.fractions" 187) none (.ref 27) .none) ::
 (nat_lit 34,hC "common_bottom" "common_bottom" 207 15 1 29 30 (.ref 31) (.ref 32) 33 213 214) ::
 (nat_lit 35,hF "common_bottom" "common_bottom" (top 3) .none .none (hS "hushcards.fractions" 187) none (.ref 34) .none) ::
 (nat_lit 39,hC "cards_at" "cards_at" 218 21 2 36 37 .none .none 38 221 222) ::
 (nat_lit 40,hF "cards_at" "cards_at" (top 5) .none .none (hS "hushcards.orders" 216) none (.ref 39) .none) ::
 (nat_lit 46,hC "counted" "counted" 226 24 1 41 42 (.ref 43) (.ref 44) 45 232 233) ::
 (nat_lit 47,hF "counted" "counted" (top 7) .none .none (hS "hushcards.shuffles" 224) none (.ref 46) .none) ::
 (nat_lit 53,hC "spread" "spread" 235 29 2 48 49 (.ref 50) (.ref 51) 52 246 247) ::
 (nat_lit 54,hF "spread" "spread" (top 8) .none .none (hS "hushcards.shuffles" 224) none (.ref 53) .none) ::
 (nat_lit 58,hC "whole_weights" "whole_weights" 251 37 2 55 56 .none .none 57 254 255) ::
 (nat_lit 59,hF "whole_weights" "whole_weights" (top 10) .none .none (hS "hushcards.states" 249) none (.ref 58) .none) ::
 (nat_lit 63,hC "state_of" "state_of" 257 44 1 60 61 .none .none 62 260 261) ::
 (nat_lit 64,hF "state_of" "state_of" (top 11) .none .none (hS "hushcards.states" 249) none (.ref 63) .none) ::
 (nat_lit 68,hC "begun" "begun" 263 52 1 65 66 .none .none 67 266 267) ::
 (nat_lit 69,hF "begun" "begun" (top 12) .none .none (hS "hushcards.states" 249) none (.ref 68) .none) ::
 (nat_lit 75,hC "deal_numbers" "deal_numbers" 269 54 1 70 71 (.ref 72) (.ref 73) 74 273 274) ::
 (nat_lit 76,hF "deal_numbers" "deal_numbers" (top 13) .none .none (hS "hushcards.states" 249) none (.ref 75) .none) ::
 (nat_lit 82,hC "mixed_state" "mixed_state" 276 56 2 77 78 (.ref 79) (.ref 80) 81 284 285) ::
 (nat_lit 83,hF "mixed_state" "mixed_state" (top 14) .none .none (hS "hushcards.states" 249) none (.ref 82) .none) ::
 (nat_lit 89,hC "laid_state" "laid_state" 287 62 2 84 85 (.ref 86) (.ref 87) 88 292 293) ::
 (nat_lit 90,hF "laid_state" "laid_state" (top 15) .none .none (hS "hushcards.states" 249) none (.ref 89) .none) ::
 (nat_lit 96,hC "_law_cell_at" "_law_cell_at" 297 65 2 91 92 (.ref 93) (.ref 94) 95 302 303) ::
 (nat_lit 97,hF "_law_cell_at" "_law_cell_at" (top 17) .none .none (hS "law_hushcards_k61_states_laid_and_mixed" 295) none (.ref 96) .none) ::
 (nat_lit 103,hC "_law_state" "_law_state" 305 69 2 98 99 (.ref 100) (.ref 101) 102 311 312) ::
 (nat_lit 104,hF "_law_state" "_law_state" (top 18) .none .none (hS "law_hushcards_k61_states_laid_and_mixed" 295) none (.ref 103) .none) ::
 (nat_lit 110,hC "_law_take" "_law_take" 314 74 2 105 106 (.ref 107) (.ref 108) 109 321 322) ::
 (nat_lit 111,hF "_law_take" "_law_take" (top 19) .none .none (hS "law_hushcards_k61_states_laid_and_mixed" 295) none (.ref 110) .none) ::
 (nat_lit 117,hC "_law_divisor" "_law_divisor" 324 83 2 112 113 (.ref 114) (.ref 115) 116 329 330) ::
 (nat_lit 118,hF "_law_divisor" "_law_divisor" (top 20) .none .none (hS "law_hushcards_k61_states_laid_and_mixed" 295) none (.ref 117) .none) ::
 (nat_lit 124,hC "_law_ratio" "_law_ratio" 332 89 2 119 120 (.ref 121) (.ref 122) 123 338 339) ::
 (nat_lit 125,hF "_law_ratio" "_law_ratio" (top 21) .none .none (hS "law_hushcards_k61_states_laid_and_mixed" 295) none (.ref 124) .none) ::
 (nat_lit 131,hC "_law_total" "_law_total" 341 92 1 126 127 (.ref 128) (.ref 129) 130 348 349) ::
 (nat_lit 132,hF "_law_total" "_law_total" (top 22) .none .none (hS "law_hushcards_k61_states_laid_and_mixed" 295) none (.ref 131) .none) ::
 (nat_lit 136,hC "_law_row" "_law_row" 351 97 2 133 134 .none .none 135 354 355) ::
 (nat_lit 137,hF "_law_row" "_law_row" (top 23) .none .none (hS "law_hushcards_k61_states_laid_and_mixed" 295) none (.ref 136) .none) ::
 (nat_lit 141,hC "_law_order" "_law_order" 357 102 2 138 139 .none .none 140 360 361) ::
 (nat_lit 142,hF "_law_order" "_law_order" (top 24) .none .none (hS "law_hushcards_k61_states_laid_and_mixed" 295) none (.ref 141) .none) ::
 (nat_lit 146,hC "_law_laid" "_law_laid" 363 105 2 143 144 .none .none 145 366 367) ::
 (nat_lit 147,hF "_law_laid" "_law_laid" (top 25) .none .none (hS "law_hushcards_k61_states_laid_and_mixed" 295) none (.ref 146) .none) ::
 (nat_lit 151,hC "_law_shuffle" "_law_shuffle" 369 107 2 148 149 .none .none 150 372 373) ::
 (nat_lit 152,hF "_law_shuffle" "_law_shuffle" (top 26) .none .none (hS "law_hushcards_k61_states_laid_and_mixed" 295) none (.ref 151) .none) ::
 (nat_lit 156,hC "_law_plus" "_law_plus" 375 128 2 153 154 .none .none 155 378 379) ::
 (nat_lit 157,hF "_law_plus" "_law_plus" (top 27) .none .none (hS "law_hushcards_k61_states_laid_and_mixed" 295) none (.ref 156) .none) ::
 (nat_lit 161,hC "_law_put" "_law_put" 381 130 1 158 159 .none .none 160 384 385) ::
 (nat_lit 162,hF "_law_put" "_law_put" (top 28) .none .none (hS "law_hushcards_k61_states_laid_and_mixed" 295) none (.ref 161) .none) ::
 (nat_lit 166,hC "_law_begun" "_law_begun" 387 135 1 163 164 .none .none 165 390 391) ::
 (nat_lit 167,hF "_law_begun" "_law_begun" (top 29) .none .none (hS "law_hushcards_k61_states_laid_and_mixed" 295) none (.ref 166) .none) ::
 (nat_lit 171,hC "_law_mixed" "_law_mixed" 393 140 2 168 169 .none .none 170 396 397) ::
 (nat_lit 172,hF "_law_mixed" "_law_mixed" (top 30) .none .none (hS "law_hushcards_k61_states_laid_and_mixed" 295) none (.ref 171) .none) ::
 (nat_lit 181,hC "law" "law" 405 151 1 178 179 .none .none 180 408 409) ::
 (nat_lit 182,hF "law" "law" (top 32) .none .none (hS "law_hushcards_k61_states_laid_and_mixed" 295) none (.ref 181) .none)::[]
noncomputable def vw:Zx:={PySem.Challenge.pw_hushcards_k61_states_laid_and_mixed with main:={PySem.Challenge.pw_hushcards_k61_states_laid_and_mixed.main with body:=([1,2,3,5,7,8,10,11,12,13,14,15,17,18,19,20,21,22,23,24,25,26,27,28,29,30,31,32]:List Nat).map top}}
noncomputable def hk:PySem.W.Hook:=PySem.W.kHook Kf [2,3,20,21,27,28,34,35,39,40,46,47,53,54,58,59,63,64,68,69,75,76,82,83,89,90,96,97,103,104,110,111,117,118,124,125,131,132,136,137,141,142,146,147,151,152,156,157,161,162,166,167,171,172,181,182] (λ_=>by kernel_rfl)
noncomputable abbrev T7:=PySem.Challenge.rw_hushcards_k61_states_laid_and_mixed.row
theorem left:PySem.W.LeftO T7.prog vw [] (λs=>PySem.W.xlAt vw [] s&&PySem.W.recOk (PySem.W.RowW.records T7.toRowW) s) hk.obs hk.val 1820:=λw=>by kernel_rfl
end Hc
namespace Hc
open L2
theorem K0 {f:Bool->Bool}{u w:U}:lX f u w=(M8 u w).bind λb=>.ok (.bl (f b)):=nr rfl
theorem gT {a b:Int}:M8 (.int a) (.int b)=.ok (a==b):=nr rfl
theorem Gs {a b:Bool}:M8 (.bl a) (.bl b)=.ok (a==b):=nr rfl
theorem BP {a b:Str}:M8 (.str a) (.str b)=.ok (a==b):=nr rfl
theorem cV:type_of% @WB.{0,0}/\type_of% @XX.{0,0}/\type_of% @WS.{0}/\type_of% @ZY.{0}/\type_of% @aas.{0}/\type_of% @YX.{0}/\type_of% @List.replicate_succ.{0}/\type_of% @List.replicate_zero.{0}/\type_of% @List.getElem?_cons_zero.{0}/\type_of% @X2.{0}/\type_of% @aaT.{0}/\type_of% @List.set_cons_succ.{0}/\type_of% @Option.getD_some.{0}/\type_of% @abq.{0}/\type_of% @if_true.{1}/\type_of% @if_false.{1}/\type_of% @Xm/\type_of% @J_/\type_of% @aac/\type_of% @acf/\type_of% @K0/\type_of% @gT/\type_of% @Gs/\type_of% @BP:=
 ⟨@WB.{0,0},@XX.{0,0},@WS.{0},@ZY.{0},@aas.{0},@YX.{0},@List.replicate_succ.{0},@List.replicate_zero.{0},@List.getElem?_cons_zero.{0},@X2.{0},@aaT.{0},@List.set_cons_succ.{0},@Option.getD_some.{0},@abq.{0},@if_true.{1},@if_false.{1},@Xm,@J_,@aac,@acf,@K0,@gT,@Gs,@BP⟩
end Hc
namespace Hc.Cn
open L2 Hc.Ts
noncomputable abbrev Rw:=List Int
noncomputable abbrev Dc:=List (Rw×Int)
noncomputable def iB (d:Dc)(k:Rw):Int:=((d.find? λp=>decide (p.1=k)).map (·.2)).getD 0
noncomputable def ju (d:Dc)(k:Rw)(v:Int):Dc:=if k∈d.map (·.1) then d.map (λp=>if p.1=k then (p.1,v) else p) else d++[(k,v)]
noncomputable def j0 (d:Dc)(k:Rw)(w:Int):Dc:=ju d k (iB d k+w)
noncomputable def jd (d:Dc)(f:Rw->Int):Int:=(d.map λp=>p.2*f p.1).sum
def Nd (d:Dc):Prop:=(d.map (·.1)).Nodup
def Ps (d:Dc):Prop:=∀p∈d,1<=p.2
theorem g8 (p:Rw×Int)(d:Dc)(k:Rw):iB (p::d) k=if p.1=k then p.2 else iB d k:=by
 unfold iB;rw[Ym];by_cases c:p.1=k
 ·rw[hG c,hZ c];rfl
 ·rw[hJ c,hV c]
theorem jv:∀{d:Dc} {k:Rw},k∉d.map (·.1)->iB d k=0
 | [],_,_=>rfl
 |p::d,k,h=>by
  rw[WB,WZ,not_or] at h;rw[g8,hV (λe=>h.1 e.symm),jv h.2]
theorem u7 {d:Dc}{k:Rw}(h:k∈d.map (·.1)):(k,iB d k)∈d:=by
 induction d with
 |nil=>cases h
 |cons q d ih=>
  rw[g8];by_cases c:q.1=k
  ·rw[hZ c,←c];exact WM
  ·rw[hV c];rw[WB,WZ] at h;rcases h with h|h
   ·exact absurd h.symm c
   ·exact WO _ (ih h)
theorem m_ (d:Dc)(k:Rw)(v:Int):(ju d k v).map (·.1)=if k∈d.map (·.1) then d.map (·.1) else d.map (·.1)++[k]:=by
 unfold ju;split
 ·rw[WW];apply W3;intro p _;show (if p.1=k then (p.1,v) else p).1=p.1;split<;>rfl
 ·rw[WR];rfl
theorem Gu {d:Dc}(k:Rw)(v:Int)(h:Nd d):Nd (ju d k v):=by
 unfold Nd at h ⊢;rw[m_];split
 ·exact h
 ·rename_i c;exact aad.mpr ⟨h,by simp,λa ha b hb=>by
   rw[W0] at hb;subst hb;exact λe=>c (e▸ha)⟩
theorem Na {d:Dc}{k:Rw}{v:Int}(h:Ps d)(hv:1<=v):Ps (ju d k v):=by
 unfold ju;intro p hp;split at hp
 ·obtain⟨q,hq,rfl⟩:=WN.mp hp;split
  ·exact hv
  ·exact h q hq
 ·rcases Xa.mp hp with hp|hp
  ·exact h p hp
  ·rw[W0] at hp;subst hp;exact hv
theorem yG {d:Dc}(h:Ps d)(k:Rw):0<=iB d k:=by
 by_cases c:k∈d.map (·.1)
 ·have:=h _ (u7 c);lia
 ·rw[jv c];exact Int.le_refl _
theorem sum_append (a b:List Int):(a++b).sum=a.sum+b.sum:=abO
theorem yH:∀{d:Dc} {k:Rw} {v:Int} (f:Rw->Int),Nd d->k∈d.map (·.1)->jd (d.map λp=>if p.1=k then (p.1,v) else p) f=jd d f+(v-iB d k)*f k
 |q::d,k,v,f,n,h=>by
  unfold Nd at n;rw[WB,Zd] at n;unfold jd;rw[WB,WB,WB,Xp,Xp,g8];by_cases c:q.1=k
  ·rw[hZ c,hZ c];have e:(d.map λp=>if p.1=k then (p.1,v) else p)=d:=by
    conv=>rhs;rw[←List.map_id d]
    apply W3;intro p hp;rw[hV (λz=>n.1 (by rw[c,←z];exact XB hp))];rfl
   rw[e,c];show v*f k+_=q.2*f k+_+(v-q.2)*f k;rw[Int.sub_mul];lia
  ·rw[hV c,hV c];have h':k∈d.map (·.1):=by
    rw[WB,WZ] at h;rcases h with h|h
    ·exact absurd h.symm c
    ·exact h
   have:=yH (v:=v) f n.2 h';unfold jd at this;rw[this];lia
theorem yI {d:Dc}(k:Rw)(w:Int)(f:Rw->Int)(n:Nd d):jd (j0 d k w) f=jd d f+w*f k:=by
 unfold j0 ju;split
 ·rename_i c;rw[yH f n c];congr 2;lia
 ·rename_i c;unfold jd;rw[WR,sum_append,jv c];simp
noncomputable def a_ (d:Dc)(ws:List (Rw×Int)):Dc:=ws.foldl (λd p=>j0 d p.1 p.2) d
theorem u9:∀(ws:List (Rw×Int)) {d:Dc},Nd d->Ps d->(∀p∈ws,1<=p.2)->Nd (a_ d ws)/\Ps (a_ d ws)/\∀f,jd (a_ d ws) f=jd d f+(ws.map λp=>p.2*f p.1).sum
 | [],d,n,p,_=>⟨n,p,λf=>by show jd d f=_;simp⟩
 |q::ws,d,n,p,h=>by
  have n1:Nd (j0 d q.1 q.2):=Gu _ _ n;have p1:Ps (j0 d q.1 q.2):=Na p (by have:=yG p q.1;have:=h q WM;lia);obtain⟨a,b,c⟩:=u9 ws n1 p1 λx hx=>h x (WO _ hx);refine⟨a,b,λf=>?_⟩;show jd (a_ (j0 d q.1 q.2) ws) f=_;rw[c f,yI _ _ _ n,WB,Xp];lia
theorem Gv {d:Dc}(n:Nd d)(k:Rw):jd d (λx=>if x=k then 1 else 0)=iB d k:=by
 induction d with
 |nil=>rfl
 |cons q d ih=>
  have n':=n;unfold Nd at n';rw[WB,Zd] at n';have:=ih n'.2;unfold jd at this ⊢;rw[WB,Xp,this,g8];show q.2*(if q.1=k then 1 else 0)+_=_;by_cases c:q.1=k
  ·rw[hZ c,hZ c,jv (c▸n'.1)];lia
  ·rw[hV c,hV c];lia
noncomputable def Jo (d:Dc):Int:=(d.map (·.2)).sum
theorem uf {a b:List Rw}(p:a.Perm b):dO a=dO b:=qy (((aZ a).trans p).trans (aZ b).symm) (kF a) (kF b)
noncomputable def df (l:List Rw):Dc:=a_ [] (l.map λx=>(x,1))
theorem Al:Nd []/\Ps []:=⟨Y9,λp hp=>by cases hp⟩
theorem sP (l:List Rw):Nd (df l)/\Ps (df l)/\∀f,jd (df l) f=(l.map f).sum:=by
 obtain⟨a,b,c⟩:=u9 (l.map λx=>(x,(1:Int))) Al.1 Al.2 λp hp=>by
  obtain⟨x,_,rfl⟩:=WN.mp hp;exact Int.le_refl _
 refine⟨a,b,λf=>?_⟩;have:=c f;rw[WW] at this;unfold df;rw[this];show (0:Int)+_=_;rw[ab_];congr 1;apply W3;intro x _;show 1*f x=f x;lia
theorem sQ {α β:Type}(g:α->List β)(h:β->Int):∀l:List α,((l.flatMap g).map h).sum=(l.map λa=>((g a).map h).sum).sum
 | []=>rfl
 |a::l=>by rw[Yy,WR,sum_append,WB,Xp,sQ g h l]
theorem BQ (k:Int):∀l:List Int,(l.map λx=>k*x).sum=k*l.sum
 | []=>by simp
 |x::l=>by rw[WB,Xp,Xp,BQ k l,Int.mul_add]
theorem BR (l:List Rw):Jo (df l)=l.length:=by
 obtain⟨n,p,s⟩:=sP l;have:=s λ_=>1;unfold jd at this;unfold Jo;have e:((df l).map λp=>p.2*1)=(df l).map (·.2):=by
  apply W3;intro p _;lia
 rw[e] at this;rw[this];clear this e s p n
 induction l with
 |nil=>rfl
 |cons x l ih=>rw[WB,Xp,ih,WS];lia
theorem Nb {l:List Int}(h:∀x∈l,0<=x):∀x∈l,x<=l.sum:=by
 induction l with
 |nil=>intro x hx;cases hx
 |cons y l ih=>
  intro x hx;have hl:0<=l.sum:=by
   clear ih hx
   induction l with
   |nil=>exact Int.le_refl _
   |cons z l ih2=>
    rw[Xp];have:=ih2 λw hw=>h w (by rcases WZ.mp hw with e|e;exact e▸WM;exact WO _ (WO _ e));have:=h z (WO _ WM);lia
  rw[Xp];rcases WZ.mp hx with rfl|hx
  ·lia
  ·have:=ih (λw hw=>h w (WO _ hw)) x hx;have:=h y WM;lia
theorem Nc {d:Dc}(p:Ps d):∀q∈d,q.2<=Jo d:=λq hq=>Nb (λx hx=>by
 obtain⟨r,hr,rfl⟩:=WN.mp hx;have:=p r hr;lia) q.2 (XB hq)
end Hc.Cn
variable {d:Hc.Cn.Dc}
namespace Hc
open L2
theorem NS:(0:Nat)<=WC/\(1:Nat)<=WC/\(2:Nat)<=WC/\(3:Nat)<=WC/\(4:Nat)<=WC/\(5:Nat)<=WC/\(6:Nat)<=WC/\(10:Nat)<=WC/\(16:Nat)<=WC/\(18:Nat)<=WC/\(22:Nat)<=WC:=by decide
theorem Pzz:type_of% @aB∧type_of% @cV∧type_of% @NS:=⟨@aB,@cV,@NS⟩
theorem cy {α:Type}{f:U->R (Option U)}{c g:α->U}:∀{xs:List α},(∀x∈xs,f (c x)=.ok (some (g x)))->Dz f (xs.map c)=.ok (xs.map g)
 | [],_=>rfl
 |x::xs,h=>by
  rw[WB,WB];unfold Dz;rw[h x WM];show (Dz f (xs.map c)).bind _=_;rw[cy λy hy=>h y (WO _ hy)];rfl
theorem Gw {ws:List U}:gK (.lst us) [.lst ws]=if us.length+ws.length<=WC then .ok (.non,.lst (us++ws)) else .stk:=nr rfl
theorem sR (us:List U)(k:Nat):jH us none (some (k:Int))=us.take k:=by
 unfold jH;rw[HT.sIx_none,HT.sIx_nat,abe,Nat.sub_zero];rcases Nat.le_total k us.length with h|h
 ·rw[Yo h]
 ·rw[Nat.min_eq_right h,XR,Yi h]
theorem ng (us:List U)(k:Nat):jH us (some (k:Int)) none=us.drop k:=by
 unfold jH;rw[HT.sIx_none,HT.sIx_nat];rcases Nat.le_total k us.length with h|h
 ·rw[Yo h,Yi (by rw[XA];lia)]
 ·rw[Nat.min_eq_right h,aat,List.drop_of_length_le h,List.take_nil]
def nE (s:U):Prop:=∃v b,s=.lst [.int v,.bl b]/\0<=v/\(b=false->v<2147483647)
theorem fh {s:U}{m:Int}(h:nE s)(h0:0<m)(h1:m<18446744073709551616):∃r s',aw [s,.int m]=.ok (.int r,s')/\0<=r/\r<m/\nE s':=by
 obtain⟨v,b,rfl,hv,hb⟩:=h;cases b with
 |true=>
  refine⟨v % m,.lst [.int (v / m),.bl true],?_,Zf _ (by lia),YC _ h0,v / m,true,rfl,abP hv (by lia),λh=>nomatch h⟩;simp only[Pzz,cg,Nat.reduceAdd,Nat.reduceSub,aw,iU,hG h0,qv h0 h1,By]
 |false=>
  have g1:0<=(v*48271+29) % 2147483647:=Zf _ (by decide);have g2:(v*48271+29) % 2147483647<2147483647:=YC _ (by decide);have c1:i7 v 48271=true:=jL (by decide) (by decide);have d1:decide ((0:Int)<2147483647)=true:=by decide
  have d2:decide ((0:Int)<2147483629)=true:=by decide
  have d3:decide ((0:Int)<2147483587)=true:=by decide
  have e8:xD (((((v*48271+29) % 2147483647)*((v*48271+29) % 2147483647)+39373*((v*48271+29) % 2147483647)+7) % 2147483629*((((v*48271+29) % 2147483647)*((v*48271+29) % 2147483647)+39373*((v*48271+29) % 2147483647)+7) % 2147483629)+16807*((((v*48271+29) % 2147483647)*((v*48271+29) % 2147483647)+39373*((v*48271+29) % 2147483647)+7) % 2147483629)) % 2147483587) 8=true:=qv (by decide) (by decide);have c2:i7 ((v*48271+29) % 2147483647) ((v*48271+29) % 2147483647)=true:=rD g1 (by lia);have c3:i7 39373 ((v*48271+29) % 2147483647)=true:=rD (by decide) (by decide);generalize hs:(v*48271+29) % 2147483647=s1 at *;have g3:0<=(s1*s1+39373*s1+7) % 2147483629:=Zf _ (by decide);have g4:(s1*s1+39373*s1+7) % 2147483629<2147483629:=YC _ (by decide);have c4:i7 ((s1*s1+39373*s1+7) % 2147483629) ((s1*s1+39373*s1+7) % 2147483629)=true:=rD g3 (by lia);have c5:i7 16807 ((s1*s1+39373*s1+7) % 2147483629)=true:=rD (by decide) (by decide);refine⟨((s1*s1+39373*s1+7) % 2147483629*((s1*s1+39373*s1+7) % 2147483629)+16807*((s1*s1+39373*s1+7) % 2147483629)) % 2147483587 / 8 % m,.lst [.int s1,.bl false],?_,Zf _ (by lia),YC _ h0,s1,false,rfl,g1,λ_=>g2⟩
  ·simp only[Pzz,cg,Nat.reduceAdd,Nat.reduceSub,aw,iU,hG h0,c1,d1,d2,d3,hs,c2,c3,c4,c5,e8,By]
theorem Gx {us:List U}{k:Int}(hu:u=.scr (ns.map .int)\/u=.lst (ns.map .int))(h0:0<=k):∃s,fc [u,.int k]=.ok s/\nE s:=by
 obtain⟨k,rfl⟩:∃n:Nat,k=n:=⟨k.toNat,by lia⟩;have vg:∃c:Int,cL [u,.int k]=.ok (.int c):=by
  by_cases hk:k<ns.length
  ·refine⟨ns[k],?_⟩;have d:decide ((k:Int)<((ns.map U.int).length:Nat))=true:=by rw[Ww];exact hG (by lia)
   have e:my (ns.map U.int) (k:Int)=some (.int ns[k]):=by rw[j4,WQ,Wx hk];rfl
   rcases hu with rfl|rfl<;>simp only[Pzz,cg,Nat.reduceAdd,Nat.reduceSub,cL,e_,d,e]
  ·refine⟨0,?_⟩;have d:decide ((k:Int)<((ns.map U.int).length:Nat))=false:=by rw[Ww];exact hJ (by lia)
   rcases hu with rfl|rfl<;>simp only[Pzz,cg,Nat.reduceAdd,Nat.reduceSub,cL,e_,d]
 obtain⟨c,hc⟩:=vg;have UH:Iy 10 18=true:=by decide
 have UI:(10:Int) ^ (18:Int).toNat=1000000000000000000:=by decide
 have dm:decide ((0:Int)<2147483647)=true:=by decide
 by_cases h:1000000000000000000<=c
 ·refine⟨.lst [.int (c-1000000000000000000),.bl true],?_,_,true,rfl,by lia,λh=>nomatch h⟩;simp only[Pzz,cg,Nat.reduceAdd,Nat.reduceSub,fc,gP,hc,UH,UI,hG h,hZ]
 ·refine⟨.lst [.int (c % 2147483647),.bl false],?_,_,false,rfl,Zf _ (by decide),λ_=>YC _ (by decide)⟩;simp only[Pzz,cg,Nat.reduceAdd,Nat.reduceSub,fc,gP,hc,UH,UI,hJ h,dm,hZ]
theorem sS {α:Type}:∀(l:List α) (i:Nat) (h:i<l.length),(l[i]::l.eraseIdx i).Perm l
 |x::l,0,_=>Yd _
 |x::l,i+1,h=>by
  have h':i<l.length:=by simpa using h
  show (l[i]::x::l.eraseIdx i).Perm (x::l);exact (List.Perm.swap _ _ _).trans (List.Perm.cons x (sS l i h'))
theorem nh {α β:Type}(f:α->β):∀(l:List α) (i:Nat),(l.map f).eraseIdx i=(l.eraseIdx i).map f
 | [],_=>rfl
 |_::_,0=>rfl
 |x::l,i+1=>by
  show f x::(l.map f).eraseIdx i=f x::(l.eraseIdx i).map f;rw[nh f l i]
theorem Nf {k:Int}{y:U}(h1:acq k us.length=some j)(h2:us[j]? = some y)(h3:0<=k)(h4:k<1000000000):nV (.lst us) [.int k]=.ok (y,.lst (us.eraseIdx j)):=by
 unfold nV;dsimp only;rw[hZ (by lia),h1];dsimp only;rw[h2]
def sT (n:Nat)(os:List Int):Prop:=os.Perm (aU n)
theorem sU {s:U}(h:nE s)(h1:m<=1000):∃(os:List Int) (s':U),bN [s,.int m]=.ok (.tup (os.map .int),s')/\sT m os/\nE s':=by
 obtain⟨ys,⟨left,s'⟩,e,l,os,hr,hp,hs'⟩:=kC (G:=jV) (js:=[none,some 2,some 0]) (sg:=bw 0) (ge:=gM "list" 1 nV (ae (qj 2 2 aw (ae (i5 iN (ae (af 1) ak)) ak)) ak))
  (λx:List Int×U=>[some x.2,some (.int m),some (.lst (x.1.map .int))]) m (λys x=>∃os:List Int,ys=os.map .int/\(os++x.1).Perm (aU m)/\nE x.2)
  (λdone u x hd h00=>by
   obtain⟨os,hr,hp,hs⟩:=h00;obtain⟨left,s⟩:=x;have hl:0<left.length:=by
    have:=hp.length_eq;rw[WI,fE] at this;have h2:done.length=os.length:=by rw[hr,Ww]
    dsimp only at this;lia
   have Ho:left.length<=m:=by
    have:=hp.length_eq;rw[WI,fE] at this;dsimp only at this;lia
   obtain⟨r,s',b1,b2,b3,b4⟩:=fh (m:=left.length) hs (by lia) (by lia);obtain⟨k,rfl⟩:∃n:Nat,r=n:=⟨r.toNat,by lia⟩;have hk:k<left.length:=by lia
   refine⟨[some u,some (.lst (left.map .int)),some s],.int left[k],[some u,some (.lst ((left.eraseIdx k).map .int)),some s'],(left.eraseIdx k,s'),rfl,?_,rfl,os++[left[k]],by rw[hr,WR];rfl,?_,b4⟩
   ·have hx:acq (k:Int) (left.map U.int).length=some k:=by
     unfold acq;rw[Ww];simp;lia
    have hy:(left.map U.int)[k]? = some (.int left[k]):=by rw[WQ,Wx hk];rfl
    have pp:=Nf hx hy (by lia) (by lia);rw[nh] at pp;simp only[Pzz,cg,Nat.reduceAdd,Nat.reduceSub,Ww,b1,pp]
   ·rw[W9];refine List.Perm.trans (XY os ?_) hp;exact sS left k hk) (av 0 m) [] (aU m,s) (by rw[aI];simp) ⟨[],rfl,Yd _,h⟩
 rw[aI] at l;have ln:os.length=m:=by
  have:=congrArg List.length hr;rw[YX,Ww] at this;lia
 have le:left=[]:=by
  have:=hp.length_eq;rw[WI,fE] at this;dsimp only at this;exact Yr (by lia)
 subst le;rw[Xr] at hp;rw[YX] at hr;dsimp only at e;refine⟨os,s',?_,hp,hs'⟩;rw[hr] at e;simp only[Pzz,cg,Nat.reduceAdd,Nat.reduceSub,bN,jW,fD m (by lia),Bu m (by lia),eY] at e ⊢;simp only[Pzz,cg,Nat.reduceAdd,Nat.reduceSub,e]
noncomputable def tO (os:List Int):U:=.tup (os.map .int)
theorem nj (n:Nat):av 0 n=(WY n).map λi=>U.int (i:Nat):=by
 rw[eY];unfold aU;rw[WW];rfl
theorem yJ (n:Nat):aU (n+1)=aU n++[(n:Int)]:=by
 unfold aU;rw[abQ,WR];rfl
theorem yK {z:Nat}(h:z<=m):(aU m).take z=aU z:=by
 unfold aU;rw[←List.map_take,List.take_range,Yo h]
theorem Jp (us:List U)(a b:Nat)(h:a<=b)(h2:b<=us.length):jH us (some (a:Int)) (some (b:Int))=(us.drop a).take (b-a):=by
 unfold jH;rw[HT.sIx_nat,HT.sIx_nat,Yo h2,Yo (XG h h2)]
noncomputable def Rq:Nat->Nat
 |0=>1
 |n+1=>Rq n*(n+1)
theorem Gy {os:List Int}(h:os.Perm (aU k)):(os.take j++[(k:Int)]++os.drop j).Perm (aU (k+1)):=by
 rw[yJ,W9];refine (XZ).trans ?_;rw[W9];have:(os.drop j++os.take j).Perm (aU k):=(XZ).trans (by rw[Xs];exact h);exact ((XY [(k:Int)] this)).trans XZ
theorem Jq {a b c d e f g:Option U}{oss:List (List Int)}(hk:k<=8)(hl:oss.length<=1000)(hp:∀os∈oss,os.Perm (aU k))(v4:Option U) :
  ∃(ls:List (List Int)) (v4':Option U),eF (bw 4) (j3 (gM "list" 9 gK (ae (jk (eT (ae (aY cM (af 8) (gC (.int 1))) ak)) [none,some 4,some 8] (bw 0) cK (aY cM (aY cM (rf oG (af 1) dM (cW (af 0))) (cx (ae (af 2) ak))) (rf oG (af 1) (cW (af 0)) dM))) ak))) (oss.map tO)
   [a,b,c,d,v4,e,f,g,some (.int k),some (.lst [])]=.nx [a,b,c,d,v4',e,f,g,some (.int k),some (.lst (ls.map tO))]/\ls.length=oss.length*(k+1)/\∀os∈ls,os.Perm (aU (k+1)):=by
 obtain⟨ρ',e1,ls,v,e2,l2,p2⟩:=bx (us:=oss.map tO) (sg:=bw 4) (s:=j3 (gM "list" 9 gK (ae (jk (eT (ae (aY cM (af 8) (gC (.int 1))) ak)) [none,some 4,some 8] (bw 0) cK (aY cM (aY cM (rf oG (af 1) dM (cW (af 0))) (cx (ae (af 2) ak))) (rf oG (af 1) (cW (af 0)) dM))) ak)))
  (λi ρ=>∃(ls:List (List Int)) (v:Option U),ρ=[a,b,c,d,v,e,f,g,some (.int k),some (.lst (ls.map tO))]/\ls.length=i*(k+1)/\∀os∈ls,os.Perm (aU (k+1)))
  (λi u ρ hu h00=>by
   obtain⟨ls,v,hr,Ho,Dv⟩:=h00;subst hr;rw[WQ] at hu;cases ho:oss[i]? with
   |none=>rw[ho] at hu;cases hu
   |some os=>
    rw[ho] at hu;cases hu;have Hv:=hp os (Yg ho);have lo:os.length=k:=by have:=Hv.length_eq;rwa [fE] at this
    have hi:i<oss.length:=by
     rcases YM i oss.length with z|z
     ·exact z
     ·rw[Xw.mpr z] at ho;cases ho
    have sz:WC=16777216:=rfl;have e0:Dz (uF [none,some 4,some 8] (bw 0) cK (aY cM (aY cM (rf oG (af 1) dM (cW (af 0))) (cx (ae (af 2) ak))) (rf oG (af 1) (cW (af 0)) dM)) [a,b,c,d,some (tO os),e,f,g,some (.int k),some (.lst (ls.map tO))]) ((WY (k+1)).map λi=>U.int (i:Nat))=.ok ((WY (k+1)).map λj=>tO (os.take j++[(k:Int)]++os.drop j)):=
     cy λj hj=>by
      have q1:((os.map U.int).take j).length+1<=WC:=by rw[W_,Ww];lia
      have q2:((os.map U.int).take j++[U.int k]).length+((os.map U.int).drop j).length<=WC:=by rw[WI,W_,XA,Ww,Ya];lia
      simp only[Pzz,cg,Nat.reduceAdd,Nat.reduceSub,tO,sR,ng,q1,q2];simp only[WR,List.map_take,List.map_drop,WB,XX]
    have hm:i*(k+1)<=1000*9:=abf (by lia) (by lia);have q3:(ls.map tO).length+((WY (k+1)).map λj=>tO (os.take j++[(k:Int)]++os.drop j)).length<=WC:=by
     rw[Ww,Ww,Xf];lia
    have ek:(k:Int)+1=((k+1:Nat):Int):=rfl;refine⟨[a,b,c,d,some (tO os),e,f,g,some (.int k),some (.lst (ls.map tO))],[a,b,c,d,some (tO os),e,f,g,some (.int k),some (.lst ((ls++(WY (k+1)).map λj=>os.take j++[(k:Int)]++os.drop j).map tO))],rfl,.inl ?_,_,_,rfl,?_,?_⟩
    ·simp only[Pzz,cg,Nat.reduceAdd,Nat.reduceSub,ek,fD (k+1) (by lia),nj,e0,Gw,q3];simp only[WR,WW];rfl
    ·rw[WI,Ww,Xf,Ho,Nat.add_mul,Nat.one_mul]
    ·intro x hx;rcases Xa.mp hx with z|z
     ·exact Dv x z
     ·obtain⟨j,_,rfl⟩:=WN.mp z;exact Gy Hv) (ρ:=[a,b,c,d,v4,e,f,g,some (.int k),some (.lst [])]) ⟨[],v4,rfl,by simp,λx hx=>by cases hx⟩
 subst e2;rw[Ww] at l2;exact⟨ls,v,e1,l2,p2⟩
theorem Gz (l:List Int)(k:Nat):(l.drop k++l.take k).Perm l:=(XZ).trans (by rw[Xs])
theorem Dj (l:List Int)(h:Nat):(((l.drop h).take h++l.take h)++l.drop (h+h)).Perm l:=by
 have e:l=l.take h++((l.drop h).take h++l.drop (h+h)):=by
  rw[←aci,Xs,Xs]
 have p:((l.drop h).take h++l.take h).Perm (l.take h++(l.drop h).take h):=XZ;refine (X9 _ p).trans ?_;rw[W9,←e]
def lh (m:Nat)(r:R (U×U)):Prop:=∃(oss:List (List Int)) (s':U),r=.ok (.tup (oss.map tO),s')/\(∀os∈oss,sT m os)/\1<=oss.length/\oss.length<=24/\nE s'
theorem Jr {s:U}{w:Int}(h8:m<=8)(e1:aw [s,.int 6]=.ok (.int w,s1))(mj:nE s1)(hw:w=4\/w=5):lh m (aK [s,.int m]):=by
 have sz:WC=16777216:=rfl;obtain⟨t,s2,e2,t0,t1,b_⟩:=fh (m:=4) mj (by decide) (by decide);obtain⟨n,hn⟩:∃n:Nat,1+t=n:=⟨(1+t).toNat,by lia⟩;obtain⟨ys,s3,e3,ly,oss,hy,ho,hs3⟩:=kC (G:=ir) (js:=[none,some 0,some 1]) (sg:=bw 0) (ge:=qj 2 1 bN (ae (af 2) ak))
  (λx:U=>[some x,some (.int m),some (.tup (av 0 m)),some (.int w),none,none,none,none,none,none]) n (λys x=>∃oss:List (List Int),ys=oss.map tO/\(∀os∈oss,sT m os)/\nE x)
  (λdone u x hd h00=>by
   obtain⟨oss,hr,hp,hs⟩:=h00;obtain⟨os,x',b1,b2,b3⟩:=sU (m:=m) hs (by lia);refine⟨[some u,some x,some (.int m)],tO os,[some u,some x',some (.int m)],x',rfl,?_,rfl,oss++[os],by rw[hr,WR];rfl,?_,b3⟩
   ·simp only[Pzz,cg,Nat.reduceAdd,Nat.reduceSub,b1,tO]
   ·intro y hy;rcases Xa.mp hy with z|z
    ·exact hp y z
    ·rw[W0.mp z];exact b2) (av 0 n) [] s2 (by rw[aI];simp) ⟨[],rfl,(λx hx=>by cases hx),b_⟩
 rw[YX] at hy;rw[aI] at ly;have lo:oss.length=n:=by
  have:=congrArg List.length hy;rw[Ww] at this;lia
 refine⟨oss,s3,?_,ho,by lia,by lia,hs3⟩;rw[hy] at e3;rcases hw with rfl|rfl<;>simp only[Pzz,cg,Nat.reduceAdd,Nat.reduceSub,aK,bU,mV m (by lia),e1,gT,Int.reduceBEq,id,e2,hn,fD n (by lia),e3]
theorem Ng {s:U}(h1:1<=m)(h8:m<=8)(e1:aw [s,.int 6]=.ok (.int 0,s1))(mj:nE s1):lh m (aK [s,.int m]):=by
 have sz:WC=16777216:=rfl;have e0:Dz (uF [none,some 2] (bw 0) cK (aY cM (rf oG (af 1) (cW (af 0)) dM) (rf oG (af 1) dM (cW (af 0)))) [some s1,some (.int m),some (.tup (av 0 m)),some (.int 0),none,none,none,none,none,none]) (av 0 m)
   = .ok ((WY m).map λk=>.tup ((av 0 m).drop k++(av 0 m).take k)):=by
  have:=cy (f:=uF [none,some 2] (bw 0) cK (aY cM (rf oG (af 1) (cW (af 0)) dM) (rf oG (af 1) dM (cW (af 0)))) [some s1,some (.int m),some (.tup (av 0 m)),some (.int 0),none,none,none,none,none,none])
   (c:=λi:Nat=>U.int (i:Nat)) (g:=λk=>.tup ((av 0 m).drop k++(av 0 m).take k)) (xs:=WY m) λk hk=>by
    have q:((av 0 m).drop k).length+((av 0 m).take k).length<=WC:=by rw[XA,W_,aI];lia
    simp only[Pzz,cg,Nat.reduceAdd,Nat.reduceSub,sR,ng,q]
  rwa [←nj] at this
 refine⟨(WY m).map λk=>(aU m).drop k++(aU m).take k,s1,?_,?_,by rw[Ww,Xf];exact h1,by rw[Ww,Xf];lia,mj⟩
 ·simp only[Pzz,cg,Nat.reduceAdd,Nat.reduceSub,aK,bU,mV m (by lia),e1,gT,Int.reduceBEq,id,fD m (by lia),e0];rw[WW];congr 4;funext k;show U.tup _=tO _;unfold tO;rw[eY,WR,List.map_drop,List.map_take]
 ·intro os ho;obtain⟨k,_,rfl⟩:=WN.mp ho;exact Gz _ _
theorem Nh {s:U}(h8:m<=8)(e1:aw [s,.int 6]=.ok (.int 1,s1))(mj:nE s1):lh m (aK [s,.int m]):=by
 obtain⟨os,s2,b1,b2,b3⟩:=sU (m:=m) mj (by lia);refine⟨[aU m,os],s2,?_,?_,by simp,by simp,b3⟩
 ·simp only[Pzz,cg,Nat.reduceAdd,Nat.reduceSub,aK,bU,mV m (by lia),e1,gT,Int.reduceBEq,id,b1,tO,eY]
 ·intro x hx;simp only[WZ,Y1,or_false] at hx;rcases hx with rfl|rfl
  ·exact Yd _
  ·exact b2
theorem Js {s:U}(h1:1<=m)(h8:m<=8)(e1:aw [s,.int 6]=.ok (.int 2,s1))(mj:nE s1):lh m (aK [s,.int m]):=by
 have sz:WC=16777216:=rfl;have d1:xD (m:Int) 2=true:=qv (by decide) (by decide);have d2:i7 2 ((m / 2:Nat):Int)=true:=rD (by decide) (by decide);have e2:(m:Int) / 2=((m / 2:Nat):Int):=by lia
 have e3:(2:Int)*((m / 2:Nat):Int)=((m / 2+m / 2:Nat):Int):=by lia
 have c1:jH (av 0 m) (some ((m / 2:Nat):Int)) (some ((m / 2+m / 2:Nat):Int))=((av 0 m).drop (m / 2)).take (m / 2):=by
  rw[Jp _ _ _ (by lia) (by rw[aI];lia),Nat.add_sub_cancel]
 have q1:(((av 0 m).drop (m / 2)).take (m / 2)).length+((av 0 m).take (m / 2)).length<=WC:=by rw[W_,XA,W_,aI];lia
 have q2:(((av 0 m).drop (m / 2)).take (m / 2)++(av 0 m).take (m / 2)).length+((av 0 m).drop (m / 2+m / 2)).length<=WC:=by rw[WI,W_,XA,W_,XA,aI];lia
 refine⟨[aU m,((aU m).drop (m / 2)).take (m / 2)++(aU m).take (m / 2)++(aU m).drop (m / 2+m / 2)],s1,?_,?_,by simp,by simp,mj⟩
 ·simp only[Pzz,cg,Nat.reduceAdd,Nat.reduceSub,aK,bU,mV m (by lia),e1,gT,Int.reduceBEq,id,d1,e2,d2,e3,c1,sR,ng,q1,q2];simp only[tO,WR,List.map_take,List.map_drop,eY]
 ·intro x hx;simp only[WZ,Y1,or_false] at hx;rcases hx with rfl|rfl
  ·exact Yd _
  ·exact Dj _ _
theorem K1 (h:n<=4):1<=Rq n/\Rq n<=24:=by
 have:n=0\/n=1\/n=2\/n=3\/n=4:=by lia
 rcases this with rfl|rfl|rfl|rfl|rfl<;>decide
theorem Ni {s:U}(h1:1<=m)(h8:m<=8)(e1:aw [s,.int 6]=.ok (.int 3,s1))(mj:nE s1):lh m (aK [s,.int m]):=by
 have sz:WC=16777216:=rfl;obtain⟨t,s2,e2,t0,t1,b_⟩:=fh (m:=3) mj (by decide) (by decide);obtain⟨z,hz⟩:∃z:Nat,(if 2+t<(m:Int) then 2+t else (m:Int))=z:=⟨(if 2+t<(m:Int) then 2+t else (m:Int)).toNat,by split<;>lia⟩;have zb:1<=z/\z<=4/\z<=m:=by split at hz<;>lia
 obtain⟨ρ',e3,oss,v4,v8,rfl,l3,p3⟩:=bx (us:=av 0 z) (sg:=bw 8) (s:=(aP (ba 9 (gE ak))
 (aP (i6 (gm (af 6)) (bw 4)
 (j3 (gM "list" 9 gK (ae (jk (eT (ae (aY cM (af 8) (gC (.int 1))) ak)) [none,some 4,some 8] (bw 0) cK (aY cM (aY cM (rf oG (af 1) dM (cW (af 0))) (cx (ae (af 2) ak))) (rf oG (af 1) (cW (af 0)) dM))) ak))))
 (xx 6 9))))
  (λi ρ=>∃(oss:List (List Int)) (v4 v8:Option U),ρ=[some s2,some (.int m),some (.tup (av 0 m)),some (.int 3),v4,none,some (.lst (oss.map tO)),some (.int z),v8,none]/\oss.length=Rq i/\∀os∈oss,os.Perm (aU i))
  (λi u ρ hu h00=>by
   obtain⟨oss,v4,v8,hr,hl,hp⟩:=h00;subst hr;have hi:i<z:=by
    rcases YM i z with y|y
    ·exact y
    ·rw[Xw.mpr (by rw[aI];exact y)] at hu;cases hu
   obtain rfl:u=.int i:=by
    rw[nj,WQ,Yt hi] at hu;cases hu;rfl
   obtain⟨ls,v4',g1,g2,g3⟩:=Jq (a:=some s2) (b:=some (.int m)) (c:=some (.tup (av 0 m))) (d:=some (.int 3)) (e:=none) (f:=some (.lst (oss.map tO))) (g:=some (.int z)) (k:=i) (oss:=oss) (by lia) (by have:=K1 (n:=i) (by lia);lia) hp v4;refine⟨[some s2,some (.int m),some (.tup (av 0 m)),some (.int 3),v4,none,some (.lst (oss.map tO)),some (.int z),some (.int i),none],[some s2,some (.int m),some (.tup (av 0 m)),some (.int 3),v4',none,some (.lst (ls.map tO)),some (.int z),some (.int i),none],rfl,.inl ?_,ls,v4',some (.int i),rfl,by rw[g2,hl];rfl,g3⟩;simp only[Pzz,cg,Nat.reduceAdd,Nat.reduceSub,g1])
  (ρ:=[some s2,some (.int m),some (.tup (av 0 m)),some (.int 3),none,none,some (.lst [.tup []]),some (.int z),none,none]) ⟨[[]],none,none,rfl,rfl,λx hx=>by rw[W0.mp hx];exact Yd _⟩
 rw[aI] at l3 p3;have e4:Dz (uF [none,some 2,some 7] (bw 0) cK (aY cM (af 0) (rf oG (af 1) (cW (af 2)) dM)) [some s2,some (.int m),some (.tup (av 0 m)),some (.int 3),v4,none,some (.lst (oss.map tO)),some (.int z),v8,none]) (oss.map tO)=.ok (oss.map λos=>tO (os++(aU m).drop z)):=
  cy λos ho=>by
   have lo:os.length=z:=by have:=(p3 os ho).length_eq;rwa [fE] at this
   have q:(os.map U.int).length+((av 0 m).drop z).length<=WC:=by rw[Ww,XA,aI];lia
   simp only[Pzz,cg,Nat.reduceAdd,Nat.reduceSub,tO,ng,q];simp only[WR,List.map_drop,eY]
 have fb:=K1 (n:=z) zb.2.1;refine⟨oss.map λos=>os++(aU m).drop z,s2,?_,?_,by rw[Ww];lia,by rw[Ww];lia,b_⟩
 ·simp only[Pzz,cg,Nat.reduceAdd,Nat.reduceSub,aK,bU,mV m (by lia),e1,gT,Int.reduceBEq,id,e2,hz,fD z (by lia),e3,e4];rw[WW];rfl
 ·intro x hx;obtain⟨os,ho,rfl⟩:=WN.mp hx;have:(aU m)=aU z++(aU m).drop z:=by
   rw[←yK zb.2.2,Xs]
  show (os++_).Perm (aU m);refine (X9 _ (p3 os ho)).trans ?_;rw[←this]
theorem Am {s:U}(h:nE s)(h1:1<=m)(h8:m<=8):lh m (aK [s,.int m]):=by
 obtain⟨w,s1,e1,w0,w1,mj⟩:=fh (m:=6) h (by decide) (by decide);have hw:w=0\/w=1\/w=2\/w=3\/w=4\/w=5:=by lia
 rcases hw with rfl|rfl|rfl|rfl|hw
 ·exact Ng h1 h8 e1 mj
 ·exact Nh h8 e1 mj
 ·exact Js h1 h8 e1 mj
 ·exact Ni h1 h8 e1 mj
 ·exact Jr h8 e1 mj hw
open Hc.Cn Hc.Ts
noncomputable def DU (d:Dc):U:=.dct (d.map λp=>ao p.1) (d.map λp=>.int p.2)
noncomputable def wG (d:Dc):List U:=d.map λp=>ao p.1
noncomputable def GA (d:Dc):List U:=d.map λp=>U.int p.2
theorem BS:∀{a b:List Int},a.map U.int=b.map U.int->a=b
 | [],[],_=>rfl
 | [],_::_,h=>by cases h
 |_::_,[],h=>by cases h
 |x::a,y::b,h=>by
  rw[WB,WB] at h;injection h with h1 h2
  cases h1;rw[BS h2]
theorem fi {a b:List Int}:ao a=ao b↔a=b:=by
 constructor
 ·intro h;unfold ao at h;injection h with h
  exact BS h
 ·intro h;rw[h]
theorem wH {k:List Int}:ao k∈wG d↔k∈d.map (·.1):=by
 unfold wG;constructor
 ·intro h;obtain⟨p,hp,e⟩:=WN.mp h;rw[←fi.mp e];exact XB hp
 ·intro h;obtain⟨p,hp,rfl⟩:=WN.mp h;exact XB hp
theorem Nj (d:Dc)(k:List Int)(v:Int):gG (wG d) (ao k)=wG (ju d k v):=by
 unfold gG;have e:wG (ju d k v)=((ju d k v).map (·.1)).map ao:=by unfold wG;rw[WW];rfl
 rw[e,m_];by_cases c:k∈d.map (·.1)
 ·rw[hZ (wH.mpr c),hZ c];unfold wG;rw[WW];rfl
 ·rw[hV (λz=>c (wH.mp z)),hV c,WR];unfold wG;rw[WW];rfl
theorem GB (k:List Int)(v:Int):∀d:Dc,YL (λa u=>if a=ao k then U.int v else u) (wG d) (GA d)=GA (d.map λp=>if p.1=k then (p.1,v) else p)
 | []=>rfl
 |p::d=>by
  have ih:=GB k v d;unfold wG GA at ih ⊢;rw[WB,WB,WB,WB,YQ,ih];congr 1;by_cases c:p.1=k
  ·rw[hZ (fi.mpr c),hZ c]
  ·rw[hV (λz=>c (fi.mp z)),hV c]
theorem Nk (d:Dc)(k:List Int)(v:Int):eW (wG d) (GA d) (ao k) (.int v)=GA (ju d k v):=by
 unfold eW ju;by_cases c:k∈d.map (·.1)
 ·rw[hZ (wH.mpr c),hZ c,GB]
 ·rw[hV (λz=>c (wH.mp z)),hV c];unfold GA;rw[WR];rfl
theorem GC (k:List Int):∀d:Dc,gL (wG d) (GA d) (ao k)=if k∈d.map (·.1) then some (.int (iB d k)) else none
 | []=>rfl
 |p::d=>by
  have ih:=GC k d;unfold wG GA at ih ⊢;rw[WB,WB];unfold gL;rw[ih,g8];by_cases c:p.1=k
  ·rw[hZ (fi.mpr c),hZ (by rw[WB,c];exact WM),hZ c]
  ·rw[hV (λz=>c (fi.mp z)),hV c];by_cases c2:k∈d.map (·.1)
   ·rw[hZ c2,hZ (by rw[WB];exact WO _ c2)]
   ·rw[hV c2,hV (by rw[WB,WZ,not_or];exact⟨λz=>c z.symm,c2⟩)]
theorem yL:∀l:List Int,xK (l.map U.int)=true
 | []=>rfl
 |x::l=>by rw[WB];unfold xK;rw[yL l];rfl
theorem yM:∀l:List Int,tJ (l.map U.int)=0
 | []=>rfl
 |x::l=>by rw[WB];unfold tJ;rw[yM l];rfl
theorem sV (k:List Int):EN (ao k)=true:=by
 show (xK (k.map U.int)&&decide (tJ (k.map U.int)<=6))=true;rw[yL,yM];rfl
theorem Qb (d:Dc):(wG d).all EO=true:=YK.mpr λu hu=>by
 obtain⟨p,_,rfl⟩:=WN.mp hu;rfl
theorem Qc (d:Dc):(wG d).all MN=true:=YK.mpr λu hu=>by
 obtain⟨p,_,rfl⟩:=WN.mp hu;rfl
theorem BU (d:Dc)(k:List Int):j9 (wG d) (ao k)=true:=by
 unfold j9;rw[sV,Qb];exact Bool.or_true _
theorem GD (h:d≠[]):zU (wG d)=true:=by
 unfold zU;rw[Qc];cases d with
 |nil=>exact absurd rfl h
 |cons=>rfl
noncomputable def SK (i:Nat)(v k:U)(ρ:Ev)(o:Option (Option U)):SR:=match o with
 |some (some (.dct ks us))=>if j9 ks k=true/\us.length<WC then .nx (ρ.set i (some (.dct (gG ks k) (eW ks us k v)))) else .stk
 |_=>.stk
theorem An {gv gk:Ev->R (U×Ev)}:i9 i gv gk ρ=SR.of (gv ρ) λx=>if Bk x.2[i]? = true then SR.of (gk x.2) λy=>SK i x.1 y.1 y.2 y.2[i]? else .stk:=nr rfl
theorem wI (h:d.length<1000000){v:Int}{k:List Int}:SK i (.int v) (ao k) ρ (some (some (DU d)))=.nx (ρ.set i (some (DU (ju d k v)))):=by
 have sz:WC=16777216:=rfl;have:SK i (.int v) (ao k) ρ (some (some (DU d)))=.nx (ρ.set i (some (.dct (gG (wG d) (ao k)) (eW (wG d) (GA d) (ao k) (.int v))))):=hZ ⟨BU d k,by show (GA d).length<_;unfold GA;rw[Ww,sz];lia⟩;rw[this,Nj d k v,Nk];rfl
noncomputable def SM (k x:U)(ρ:Ev)(o:Option (Option U)):R (U×Ev):=match o with
 |some (some (.dct ks us))=>if j9 ks k=true then .ok ((gL ks us k).getD x,ρ) else .stk
 |_=>.stk
noncomputable def T8 (i:Nat)(g2 g3:Ev->R (U×Ev))(ρ:Ev)(o:Option (Option U)):R (U×Ev):=match o with
 |some (some (.dct _ _))=>(g2 ρ).bind λk=>(g3 k.2).bind λx=>SM k.1 x.1 x.2 x.2[i]?
 |_=>.stk
theorem wJ {g2 g3:Ev->R (U×Ev)}:i8 i g2 g3 ρ=T8 i g2 g3 ρ ρ[i]? := nr rfl
theorem wK {g2 g3:Ev->R (U×Ev)}:T8 i g2 g3 ρ (some (some (DU d)))=(g2 ρ).bind λk=>(g3 k.2).bind λx=>SM k.1 x.1 x.2 x.2[i]? := nr rfl
theorem wL {k:List Int}:SM (ao k) (.int 0) ρ (some (some (DU d)))=.ok (.int (iB d k),ρ):=by
 refine (hZ (BU d k)).trans ?_;rw[show gL (d.map λp=>ao p.1) (d.map λp=>.int p.2) (ao k)=_ from GC k d];split
 ·rfl
 ·rename_i c;rw[jv c];rfl
theorem j1 (ws:List (List Int×Int)):(a_ [] ws).length<=ws.length:=by
 have:∀(ws:List (List Int×Int)) (d:Dc),(a_ d ws).length<=d.length+ws.length:=by
  intro ws
  induction ws with
  |nil=>intro d;exact WK _
  |cons p ws ih=>
   intro d;have h1:=ih (j0 d p.1 p.2);have h2:(j0 d p.1 p.2).length<=d.length+1:=by
    unfold j0 ju;split
    ·rw[Ww];lia
    ·rw[WI,Ya];exact WK _
   rw[WS];show (a_ (j0 d p.1 p.2) ws).length<=_;lia
 have:=this ws [];simpa using this
theorem pB (d:Dc)(ws:List (List Int×Int))(p:List Int×Int):a_ d (ws++[p])=j0 (a_ d ws) p.1 p.2:=by
 unfold a_;rw[abb];rfl
noncomputable def SU (ss:List (List Int)):U:=.tup (ss.map ao)
theorem GF {s:Nat}{x:U}(ss:List (List Int))(hl:ss.length<100000)(mk:Dc->Option U->Ev)(step:∀(d:Dc) (o:Option U) (k:List Int),d.length<1000000->∃ρ1,bw j (ao k) (mk d o)=.ok ρ1/\i9 i (aY cM (i8 i (af j) (gC (.int 0))) (gC (.int 1))) (af j) ρ1=.nx (mk (ju d k (iB d k+1)) (some (ao k))))(o:Option U) :
  ∃o',eF (bw j) (i9 i (aY cM (i8 i (af j) (gC (.int 0))) (gC (.int 1))) (af j)) (ss.map ao) (mk [] o)=.nx (mk (df ss) o'):=by
 obtain⟨ρ',e1,o',e2⟩:=bx (us:=ss.map ao) (sg:=bw j) (s:=i9 i (aY cM (i8 i (af j) (gC (.int 0))) (gC (.int 1))) (af j))
  (λn ρ=>∃o,ρ=mk (a_ [] ((ss.take n).map λx=>(x,1))) o)
  (λn u ρ hu h00=>by
   obtain⟨o,hr⟩:=h00;subst hr;have hn:n<ss.length:=by have:=(WE.mp hu).1;rwa [Ww] at this
   rw[WQ,Wx hn] at hu;obtain rfl:ao ss[n]=u:=by injection hu
   obtain⟨ρ1,a,b⟩:=step (a_ [] ((ss.take n).map λx=>(x,1))) o ss[n] (ZW (j1 _) (by rw[Ww,W_];lia));refine⟨ρ1,_,a,.inl b,some (ao ss[n]),?_⟩;rw[Xd hn,WR];show _=mk (a_ [] (_++[(ss[n],1)])) _;rw[pB];rfl)
  (ρ:=mk [] o) ⟨o,rfl⟩
 refine⟨o',?_⟩;rw[e1,e2,Ww,XR];rfl
theorem Ao {x:U}(hx:pO x=λρ=>.ok (ss.map ao,ρ))(hl:ss.length<100000):jq [x]=.ok (DU (df ss)):=by
 obtain⟨o',e⟩:=GF (s:=0) (x:=x) (i:=1) (j:=2) ss hl (λd o=>[some x,some (DU d),o]) (λd o k hd=>⟨[some x,some (DU d),some (ao k)],rfl,by
  simp only[Pzz,cg,Nat.reduceAdd,Nat.reduceSub,An,wJ,wK,wL,wI hd]⟩) none
 have e0:DU []=.dct [] []:=rfl;rw[e0] at e;unfold jq n_;simp only[Pzz,cg,Nat.reduceAdd,Nat.reduceSub,hx,e]
theorem yN {a b:Int}(h0:0<=a)(h1:0<b):(Y7 b.toNat (a % b).toNat)=Y7 a.toNat b.toNat:=by
 obtain⟨n,rfl⟩:∃n:Nat,a=n:=⟨a.toNat,by lia⟩;obtain⟨m,rfl⟩:∃m:Nat,b=m:=⟨b.toNat,by lia⟩;have e:((n:Int) % (m:Int)).toNat=n % m:=by rw[←Int.natCast_emod];rfl
 rw[e,Xk,Xk,Nat.gcd_comm m (n % m),←Nat.gcd_rec,Nat.gcd_comm]
theorem BV {i:Int}(h:0<=i):xE [.int i]=.ok (.int i):=by
 have e:xE [.int i]=.ok (.int (if i<0 then -i else i)):=nr rfl;rw[e,hV (by lia)]
theorem BW:∀(n:Nat) (a b:Int) (o:Option U),0<=a->0<=b->b<n->∃o',gj (gB (aY (lX not) (af 1) (gC (.int 0)))) (aP (ba 2 (aY pM (af 0) (af 1))) (aP (ba 0 (af 1)) (ba 1 (af 2)))) n [some (.int a),some (.int b),o]=.nx [some (.int (Y7 a.toNat b.toNat)),some (.int 0),o']
 |0,a,b,o,h0,h1,h2=>by lia
 |n+1,a,b,o,h0,h1,h2=>by
  by_cases c:b=0
  ·subst c;refine⟨o,?_⟩;have:((Y7 a.toNat (0:Int).toNat:Nat):Int)=a:=by rw[show (0:Int).toNat=0 from rfl,Nat.gcd_zero_right];lia
   rw[this];simp only[Pzz,cg,Nat.reduceAdd,Nat.reduceSub,gT,Int.reduceBEq,qu]
  ·have hb:0<b:=by lia
   obtain⟨o',e⟩:=BW n b (a % b) (some (.int (a % b))) h1 (Zf _ c) (by have:=YC a hb;lia);refine⟨o',?_⟩;rw[yN h0 hb] at e;have cb:(b==0)=false:=beq_eq_false_iff_ne.mpr c;simp only[Pzz,cg,Nat.reduceAdd,Nat.reduceSub,gT,cb,qu,hG hb,e]
theorem K2 {a b:Int}(h0:0<=a)(h1:0<=b)(h2:b<1000000000000000):bf [.int a,.int b]=.ok (.int (Y7 a.toNat b.toNat)):=by
 obtain⟨o',e⟩:=BW 1000000000000000 a b none h0 h1 h2;unfold bf eA;simp only[Pzz,cg,Nat.reduceAdd,Nat.reduceSub,BV h0,BV h1,e]
theorem BX:∀(n:Nat) (a b:Int),0<=a->0<=b->b<n->gj (gB (aY Q_ (af 1) (gC (.int 0)))) (Io 0 1 (ae (af 1) (ae (aY pM (af 0) (af 1)) ak))) n [some (.int a),some (.int b)]=.nx [some (.int (Y7 a.toNat b.toNat)),some (.int 0)]
 |0,a,b,h0,h1,h2=>by lia
 |n+1,a,b,h0,h1,h2=>by
  by_cases c:b=0
  ·subst c;have:((Y7 a.toNat (0:Int).toNat:Nat):Int)=a:=by rw[show (0:Int).toNat=0 from rfl,Nat.gcd_zero_right];lia
   rw[this];simp only[Pzz,cg,Nat.reduceAdd,Nat.reduceSub,Int.reduceLT,decide_false,qu]
  ·have hb:0<b:=by lia
   have e:=BX n b (a % b) h1 (Zf _ c) (by have:=YC a hb;lia);rw[yN h0 hb] at e;simp only[Pzz,cg,Nat.reduceAdd,Nat.reduceSub,qu,hG hb,e]
theorem Qd {a b:Int}(h0:0<=a)(h1:0<=b)(h2:b<1000000000000000):dq [.int a,.int b]=.ok (.int (Y7 a.toNat b.toNat)):=by
 have e:=BX 1000000000000000 a b h0 h1 h2;unfold dq iq;simp only[Pzz,cg,Nat.reduceAdd,Nat.reduceSub,BV h0,BV h1,e]
noncomputable def V_ (u:U)(ρ:Ev):R (List U×Ev):=match u with
 | .dct ks us=>if zU ks=true then .ok (us,ρ) else .stk
 |_=>.stk
noncomputable def T9 (u:U)(ρ:Ev):R (List U×Ev):=match u with
 | .dct ks us=>if zU ks=true then .ok (YL (λk u=>.tup [k,u]) ks us,ρ) else .stk
 |_=>.stk
theorem Qe {g:Ev->R (U×Ev)}:Rl g ρ=(g ρ).bind λx=>T9 x.1 x.2:=nr rfl
noncomputable def N8 (p:List Int×Int):U:=.tup [ao p.1,.int p.2]
theorem BY (h:d≠[]):T9 (DU d) ρ=.ok (d.map N8,ρ):=by
 refine (hZ (GD h)).trans ?_;have e:∀d:Dc,YL (λk u=>U.tup [k,u]) (d.map λp=>ao p.1) (d.map λp=>U.int p.2)=d.map N8:=by
  intro d
  induction d with
  |nil=>rfl
  |cons p d ih=>rw[WB,WB,WB,YQ,ih];rfl
 rw[e]
noncomputable def Rr (i:Nat):SR->SR
 | .nx ρ'=>.nx (ρ'.set i none)
 | .bk ρ'=>.bk (ρ'.set i none)
 | .ct ρ'=>.ct (ρ'.set i none)
 | .rt u ρ'=>.rt u (ρ'.set i none)
 |r=>r
theorem sW {g:Ev->SR}:n0 i g ρ=Rr i (g ρ):=nr (by unfold n0 Rr;cases g ρ<;>rfl)
theorem ow:Rr i (.rt u ρ)=.rt u (ρ.set i none):=nr rfl
theorem DC {a b:U}:cf 2 (aD (bw i) (aD (bw j) cc)) (.tup [a,b]) ρ=.ok ((ρ.set i (some a)).set j (some b)):=nr rfl
noncomputable def bV (a b:List Int):List Int:=b.map λi=>a.getD i.toNat 0
theorem BZ {a b:List Int}(h:∀i∈b,0<=i/\i<a.length):Dz (uF [none,some 0] (bw 0) cK (aY je (af 1) (af 0)) [some (ao a),some (ao b)]) (b.map U.int)=.ok ((bV a b).map U.int):=by
 have e:=cy (f:=uF [none,some 0] (bw 0) cK (aY je (af 1) (af 0)) [some (ao a),some (ao b)]) (c:=U.int) (g:=λi:Int=>U.int (a.getD i.toNat 0)) (xs:=b) λi hi=>by
  obtain⟨h0,h1⟩:=h i hi;obtain⟨n,rfl⟩:∃n:Nat,i=n:=⟨i.toNat,by lia⟩;have hn:n<a.length:=by lia
  have e1:my (a.map U.int) (n:Int)=some (.int a[n]):=by rw[j4,WQ,Wx hn];rfl
  have e2:a.getD (n:Int).toNat 0=a[n]:=by rw[Xk,Yf,Wx hn];rfl
  simp only[Pzz,cg,Nat.reduceAdd,Nat.reduceSub,ao,e1,e2]
 rw[e];unfold bV;rw[WW];rfl
theorem GG {a b:List Int}(h:∀i∈b,0<=i/\i<a.length)(hl:b.length<=1000):ij [ao a,ao b]=.ok (ao (bV a b)):=by
 have e:=BZ h;have sz:((bV a b).map U.int).length<=WC:=by rw[Ww];unfold bV;rw[Ww];have:WC=16777216:=rfl;lia
 unfold ij lZ;simp only[ao] at e ⊢;simp only[Pzz,cg,Nat.reduceAdd,Nat.reduceSub,e,sz]
theorem qt {a b:List Int}(h:∀i∈b,0<=i/\i<a.length)(hl:b.length<=1000):cP [ao a,ao b]=.ok (ao (bV a b)):=by
 have e:=BZ h;have sz:((bV a b).map U.int).length<=WC:=by rw[Ww];unfold bV;rw[Ww];have:WC=16777216:=rfl;lia
 unfold cP kK;simp only[ao] at e ⊢;simp only[Pzz,cg,Nat.reduceAdd,Nat.reduceSub,e,sz]
theorem u_:∀ns:List Int,kz (ns.map U.int)=some ns
 | []=>rfl
 |n::ns=>by rw[WB];show (kz (ns.map U.int)).map _=_;rw[u_ ns];rfl
theorem sX:∀{md:List (List Int)},(∀ns∈md,ns≠[])->sC (md.map ao)=some md
 | [],_=>rfl
 |ns::md,h=>by
  rw[WB];unfold sC;have e1:Jj (ao ns)=some ns:=by
   show (match kz (ns.map U.int) with|some (n::ns)=>some (n::ns)|_=>none)=_;rw[u_];cases ns with
   |nil=>exact absurd rfl (h [] WM)
   |cons=>rfl
  rw[e1,sX λx hx=>h x (WO _ hx)]
theorem B0 (ss:List (List Int)):pO (SU ss)=λρ=>.ok (ss.map ao,ρ):=by funext ρ;exact zM
noncomputable def bC (t b:Int):Int×Int:=(t / (Y7 t.toNat b.toNat:Nat),b / (Y7 t.toNat b.toNat:Nat))
noncomputable def dW (p:Int×Int):U:=.tup [.int p.1,.int p.2]
theorem GH {p q:Nat}(hq:0<q)(hm:0<m)(hc:Y7 p q=1)(h:p*m=n*q):n / Y7 n m=p/\m / Y7 n m=q:=by
 have d:q ∣ m:=by
  have:q ∣ p*m:=⟨n,by rw[h,Yb]⟩;exact (Nat.Coprime.dvd_of_dvd_mul_left (k:=q) (n:=m) (m:=p) (by rw[Nat.coprime_iff_gcd_eq_one,Nat.gcd_comm];exact hc) this)
 obtain⟨k,rfl⟩:=d;have hk:0<k:=Nat.pos_of_ne_zero λe=>by subst e;simp at hm
 have hn:n=p*k:=by
  have:n*q=(p*k)*q:=by rw[←h,Yb q k,Ye]
  exact Nat.eq_of_mul_eq_mul_right hq this
 subst hn;have g:Y7 (p*k) (q*k)=k:=by rw[Nat.gcd_mul_right,hc,Nat.one_mul]
 rw[g];exact⟨Nat.mul_div_cancel _ hk,Nat.mul_div_cancel _ hk⟩
theorem yO {p q t b:Int}(hp:0<=p)(hq:0<q)(ht:0<=t)(hb:0<b)(hc:Y7 p.toNat q.toNat=1)(h:p*b=t*q):bC t b=(p,q):=by
 obtain⟨p,rfl⟩:∃n:Nat,p=n:=⟨p.toNat,by lia⟩;obtain⟨q,rfl⟩:∃n:Nat,q=n:=⟨q.toNat,by lia⟩;obtain⟨t,rfl⟩:∃n:Nat,t=n:=⟨t.toNat,by lia⟩;obtain⟨b,rfl⟩:∃n:Nat,b=n:=⟨b.toNat,by lia⟩;have h':p*b=t*q:=by exact_mod_cast h
 obtain⟨e1,e2⟩:=GH (by lia) (by lia) (by simpa using hc) h';unfold bC;simp only[Xk];rw[←aav,←aav,e1,e2]
theorem l7 {t b:Int}(ht:0<=t)(hb:0<b):0<=(bC t b).1/\0<(bC t b).2/\(bC t b).1*b=t*(bC t b).2/\Y7 (bC t b).1.toNat (bC t b).2.toNat=1/\(bC t b).2 ∣ b:=by
 obtain⟨t,rfl⟩:∃n:Nat,t=n:=⟨t.toNat,by lia⟩;obtain⟨b,rfl⟩:∃n:Nat,b=n:=⟨b.toNat,by lia⟩;have Du:0<b:=by lia
 have hg:0<Y7 t b:=acx _ Du;have d1:=Nat.gcd_dvd_left t b;have d2:=Nat.gcd_dvd_right t b;unfold bC;simp only[Xk];rw[←aav,←aav];refine⟨Int.natCast_nonneg _,?_,?_,?_,?_⟩
 ·have:=Nat.div_pos (Nat.le_of_dvd Du d2) hg;lia
 ·have:t / Y7 t b*b=t*(b / Y7 t b):=by
   generalize Y7 t b=g at d1 d2
   calc t / g*b=t / g*(b / g*g):=by rw[Nat.div_mul_cancel d2]
    _=(t / g*g)*(b / g):=by rw[Yb (b / g) g,Ye]
    _=t*(b / g):=by rw[Nat.div_mul_cancel d1]
  exact_mod_cast this
 ·simp only[Xk];exact Nat.coprime_div_gcd_div_gcd hg
 ·exact aaU.mpr (Nat.div_dvd_of_dvd d2)
theorem Ap {t b t' b':Int}(ht:0<=t)(hb:0<b)(VU:0<=t')(Du:0<b')(h:t*b'=t'*b):bC t b=bC t' b':=by
 obtain⟨r1,r2,r3,r4,_⟩:=l7 VU Du;refine yO r1 r2 ht hb r4 ?_;have:((bC t' b').1*b)*b'=(t*(bC t' b').2)*b':=by
  calc ((bC t' b').1*b)*b'=((bC t' b').1*b')*b:=by rw[Xo,Y_ b b',←Xo]
   _=(t'*(bC t' b').2)*b:=by rw[r3]
   _=(t'*b)*(bC t' b').2:=by rw[Xo,Y_ _ b,←Xo]
   _=(t*b')*(bC t' b').2:=by rw[h]
   _=(t*(bC t' b').2)*b':=by rw[Xo,Y_ b',←Xo]
 exact aai (by lia) this
theorem B1 {v:Int}(h:0<g)(h2:g<1000000000000000):jl (.int v) (.int g)=.ok (.int (v / g)):=by
 have d:decide ((0:Int)<(g:Int))=true:=hG (by lia);have c:xD v (g:Int)=true:=qv (by lia) (by lia);simp only[zN,d,c,if_true]
theorem va {t b:Int}(hb:0<b)(h2:b<1000000000000000):0<Y7 t.toNat b.toNat/\Y7 t.toNat b.toNat<1000000000000000:=by
 have h1:0<b.toNat:=by lia
 refine⟨acx _ h1,?_⟩;have:=Nat.gcd_le_right t.toNat h1;lia
theorem GI {t b:Int}(h0:0<=t)(h1:0<b)(h2:b<1000000000000000):k7 [.int t,.int b]=.ok (dW (bC t b)):=by
 have e:=K2 h0 (by lia) h2;obtain⟨g1,g2⟩:=va (t:=t) h1 h2;have d:decide (b<0)=false:=hJ (by lia);unfold k7 wa;simp only[Pzz,cg,Nat.reduceAdd,Nat.reduceSub,e,d,B1 g1 g2];rfl
theorem vb {t b:Int}(h0:0<=t)(h1:0<b)(h2:b<1000000000000000):bM [.int t,.int b]=.ok (dW (bC t b)):=by
 have e:=Qd h0 (by lia) h2;obtain⟨g1,g2⟩:=va (t:=t) h1 h2;unfold bM jS;simp only[Pzz,cg,Nat.reduceAdd,Nat.reduceSub,e,B1 g1 g2];rfl
noncomputable def wt (D:Int)(g:Int×Int):Int:=g.1*(D / g.2)
theorem K3 {D:Int}{g:Int×Int}(h:g.2 ∣ D):g.1*D=wt D g*g.2:=by
 unfold wt;rw[Xo,Int.ediv_mul_cancel h]
def p7 (D:Int)(g:Int×Int):Prop:=0<=g.1/\0<g.2/\g.2 ∣ D
theorem K4 {D:Int}(hD:0<D){g:Int×Int}(h:p7 D g):0<=wt D g:=ZT h.1 (abP (by lia) (by have:=h.2.1;lia))
theorem Jt {f1 f2 g1 g2 S w D:Int}(h1:f1*D=S*f2)(h2:g1*D=w*g2):(f1*g2+g1*f2)*D=(S+w)*(f2*g2):=by
 rw[Int.add_mul,Int.add_mul];have a:f1*g2*D=S*(f2*g2):=by rw[Xo,Y_ g2 D,←Xo,h1,Xo]
 have b:g1*f2*D=w*(f2*g2):=by rw[Xo,Y_ f2 D,←Xo,h2,Xo,Y_ g2 f2]
 rw[a,b]
theorem GJ {D:Int}(hD:0<D):∀{l:List (Int×Int)},(∀g∈l,p7 D g)->0<=(l.map (wt D)).sum
 | [],_=>by simp
 |g::l,h=>by
  rw[WB,Xp];have a:=K4 hD (h g WM);have b:=GJ hD (l:=l) λx hx=>h x (WO _ hx);lia
theorem GK {D S:Int}(hD:0<D)(hS:0<=S){g:Int×Int}(h:p7 D g):bC ((bC S D).1*g.2+g.1*(bC S D).2) ((bC S D).2*g.2)=bC (S+wt D g) D:=by
 obtain⟨r1,r2,r3,_,_⟩:=l7 hS hD;obtain⟨g0,g1,g2⟩:=h;have w0:=K4 hD ⟨g0,g1,g2⟩;refine Ap ?_ (Z7 r2 g1) (by lia) hD (Jt r3 (K3 g2));exact Int.add_nonneg (ZT r1 (by lia)) (ZT g0 (by lia))
theorem GL {D:Int}(hD:0<D):bC 0 D=(0,1):=yO (by decide) (by decide) (by decide) hD (by decide) (by simp)
theorem Qf:jT=aP (ba 1 (cx (ae (gC (.int 0)) (ae (gC (.int 1)) ak)))) (aP (i6 (gm (af 0)) (cf 2 (aD (bw 2) (aD (bw 3) cc))) fP) (cI (af 1))):=rfl
theorem GN {D:Int}(hD:0<D)(Hw:D<=10000000){l:List (Int×Int)}(h:∀g∈l,p7 D g):dF [.lst (l.map dW)]=.ok (dW (bC ((l.map (wt D)).sum) D)):=by
 obtain⟨ρ,e,o2,o3,rfl⟩:=bx (us:=l.map dW) (sg:=cf 2 (aD (bw 2) (aD (bw 3) cc))) (s:=fP)
  (λi ρ=>∃o2 o3,ρ=[some (.lst (l.map dW)),some (dW (bC (((l.take i).map (wt D)).sum) D)),o2,o3])
  (λi u ρ hu h00=>by
   obtain⟨o2,o3,hr⟩:=h00;subst hr;have hi:i<l.length:=by have:=(WE.mp hu).1;rwa [Ww] at this
   rw[WQ,Wx hi] at hu;obtain rfl:dW l[i]=u:=by injection hu
   have hg:=h _ (Xh hi);have hS:=GJ hD (l:=l.take i) λx hx=>h x (XU hx);obtain⟨r1,r2,r3,_,r5⟩:=l7 hS hD;have Ws:(bC (((l.take i).map (wt D)).sum) D).2<=D:=abD hD r5;have VX:l[i].2<=D:=abD hD hg.2.2;have g2:=hg.2.1;have c1:i7 (bC (((l.take i).map (wt D)).sum) D).1 l[i].2=true:=jL (by lia) (by lia);have c2:i7 l[i].1 (bC (((l.take i).map (wt D)).sum) D).2=true:=jL (by lia) (by lia);have c3:i7 (bC (((l.take i).map (wt D)).sum) D).2 l[i].2=true:=jL (by lia) (by lia);have m1:(bC (((l.take i).map (wt D)).sum) D).2*l[i].2<=10000000*10000000:=abg (by lia) (by lia) (by lia) (by lia);have q:=vb (t:=(bC (((l.take i).map (wt D)).sum) D).1*l[i].2+l[i].1*(bC (((l.take i).map (wt D)).sum) D).2) (b:=(bC (((l.take i).map (wt D)).sum) D).2*l[i].2)
    (Int.add_nonneg (ZT r1 (by lia)) (ZT hg.1 (by lia))) (Z7 r2 g2) (by lia)
   rw[GK hD hS hg] at q;have sm:(((l.take (i+1)).map (wt D)).sum)=((l.take i).map (wt D)).sum+wt D l[i]:=by
    rw[Xd hi,WR,abO,WB,XX,Xp,List.sum_nil,abo]
   rw[sm];refine⟨[some (.lst (l.map dW)),some (dW (bC (((l.take i).map (wt D)).sum) D)),some (.int l[i].1),some (.int l[i].2)],[some (.lst (l.map dW)),some (dW (bC (((l.take i).map (wt D)).sum+wt D l[i]) D)),some (.int l[i].1),some (.int l[i].2)],DC,.inl ?_,_,_,rfl⟩;unfold fP;unfold dW at q ⊢;simp only[Pzz,cg,Nat.reduceAdd,Nat.reduceSub,c1,c2,c3,q])
  (ρ:=[some (.lst (l.map dW)),some (dW (bC 0 D)),none,none]) ⟨_,_,rfl⟩
 rw[Ww,XR] at e;rw[GL hD] at e;unfold dF;rw[Qf];unfold dW at e ⊢;simp only[Pzz,cg,Nat.reduceAdd,Nat.reduceSub,e]
theorem Aq {vf:List Int->U}(k:List Int):∀ks:List (List Int),gL (ks.map ao) (ks.map vf) (ao k)=if k∈ks then some (vf k) else none
 | []=>rfl
 |x::ks=>by
  rw[WB,WB];unfold gL;by_cases c:x=k
  ·subst c;rw[hZ rfl,hZ WM]
  ·rw[hV (λz=>c (fi.mp z)),Aq k ks];by_cases d:k∈ks
   ·rw[hZ d,hZ (WO _ d)]
   ·rw[hV d,hV (λz=>(WZ.mp z).elim (λe=>c e.symm) d)]
theorem nq {k:List Int}{ks:List (List Int)}:ao k∈ks.map ao↔k∈ks:=by
 constructor
 ·intro h;obtain⟨x,hx,e⟩:=WN.mp h;rw[←fi.mp e];exact hx
 ·exact λh=>XB h
theorem Ju (ks:List (List Int))(k:List Int):gG (ks.map ao) (ao k)=(jn ks k).map ao:=by
 unfold gG jn;by_cases c:k∈ks
 ·rw[hZ (nq.mpr c),hZ c]
 ·rw[hV (λz=>c (nq.mp z)),hV c,WR];rfl
theorem K5 {vf:List Int->U}{w:U}(k:List Int):∀ks:List (List Int),YL (λk' u=>if k'=ao k then w else u) (ks.map ao) (ks.map vf)=ks.map λk'=>if k'=k then w else vf k'
 | []=>rfl
 |x::ks=>by
  rw[WB,WB,YQ,K5 k ks,WB];congr 1;by_cases c:x=k
  ·rw[hZ (fi.mpr c),hZ c]
  ·rw[hV (λz=>c (fi.mp z)),hV c]
theorem Jv {vf:List Int->U}{w:U}(ks:List (List Int))(k:List Int):eW (ks.map ao) (ks.map vf) (ao k) w=(jn ks k).map λk'=>if k'=k then w else vf k':=by
 unfold eW jn;by_cases c:k∈ks
 ·rw[hZ (nq.mpr c),hZ c,K5]
 ·rw[hV (λz=>c (nq.mp z)),hV c,WR];congr 1
  ·refine W3 λx hx=>?_;rw[hV (λ(e:x=k)=>c (e▸hx))]
  ·show [w]=[if k=k then w else _];rw[hZ rfl]
theorem jw:∀(l bq:List (List Int)) (x:List Int),x∈l.foldl jn bq↔x∈bq\/x∈l
 | [],bq,x=>by simp
 |y::l,bq,x=>by
  rw[YY,jw l (jn bq y) x,WZ];unfold jn;split
  ·rename_i c;constructor
   ·rintro (h|h)
    ·exact .inl h
    ·exact .inr (.inr h)
   ·rintro (h|h|h)
    ·exact .inl h
    ·rw[h];exact .inl c
    ·exact .inr h
  ·rw[Xa,W0];constructor
   ·rintro ((h|h)|h)
    ·exact .inl h
    ·exact .inr (.inl h)
    ·exact .inr (.inr h)
   ·rintro (h|h|h)
    ·exact .inl (.inl h)
    ·exact .inl (.inr h)
    ·exact .inr h
theorem l8:∀(l bq:List (List Int)),bq.Nodup->(l.foldl jn bq).Nodup
 | [],bq,h=>h
 |y::l,bq,h=>by
  rw[YY];refine l8 l _ ?_;unfold jn;split
  ·exact h
  ·rename_i c;refine aad.mpr ⟨h,ZN _ _,λa ha b hb e=>?_⟩;rw[W0] at hb;exact c (hb▸e▸ha)
theorem sY:∀(l bq:List (List Int)),(l.foldl jn bq).length<=bq.length+l.length
 | [],bq=>by simp
 |y::l,bq=>by
  rw[YY,WS];have:=sY l (jn bq y);have h2:(jn bq y).length<=bq.length+1:=by unfold jn;split<;>simp
  lia
noncomputable def Nl (us:List U)(ρ:Ev):R (List U×Ev):=match us with
 | [u,w]=>match C1 u,C1 w with
  |some us,some ws=>.ok (YL (λa b=>.tup [a,b]) us ws,ρ)
  |_,_=>.stk
 |_=>.stk
theorem Qg {ga:Ev->R (List U×Ev)}:IW ga ρ=(ga ρ).bind λx=>Nl x.1 x.2:=nr rfl
theorem Jw {ws:List U}:Nl [.tup us,.tup ws] ρ=.ok (YL (λa b=>.tup [a,b]) us ws,ρ):=nr rfl
theorem Nm {ks:List (List Int)}(h:ks≠[])(ln:ks.length<100000)(hr:∀k∈ks,k≠[]):u5 [.dct (ks.map ao) us]=.ok (.lst ((dO ks).map ao)):=by
 have w:zU (ks.map ao)=true:=by
  unfold zU;have:(ks.map ao).all MN=true:=YK.mpr λu hu=>by
   obtain⟨k,_,rfl⟩:=WN.mp hu;rfl
  rw[this];cases ks with
  |nil=>exact absurd rfl h
  |cons=>rfl
 unfold u5;show sD [.dct (ks.map ao) us]=_;unfold sD;dsimp only;rw[hZ w];unfold kI;rw[sX hr];exact hZ (by lia)
noncomputable abbrev Fs:=List (List Int×(Nat->Int))
noncomputable def bJ (F:Fs):List (List Int):=cY (F.map (·.1))
noncomputable def fZ (F:Fs)(k:List Int)(d:Nat):Int:=(F.map λx=>if x.1=k then x.2 d else 0).sum
noncomputable def wU (nd:Nat)(D:Int)(w:Nat->Int):U:=.tup ((WY nd).map λd=>dW (bC (w d) D))
noncomputable def pU (nd:Nat)(D:Int)(p:List Int×(Nat->Int)):U:=.tup [ao p.1,wU nd D p.2]
noncomputable def fR (nd:Nat)(D:Int)(m:Fs):U:=.tup (m.map (pU nd D))
noncomputable def KU (nd:Nat)(D:Int)(F:Fs):U:=.dct ((bJ F).map ao) ((bJ F).map λk=>wU nd D (fZ F k))
noncomputable def eN (F:Fs):Fs:=(dO (bJ F)).map λk=>(k,fZ F k)
theorem Ar (F:Fs)(x:List Int×(Nat->Int)):bJ (F++[x])=jn (bJ F) x.1:=by
 unfold bJ cY;rw[WR,abb];rfl
theorem Dk (F:Fs)(x:List Int×(Nat->Int))(k:List Int)(d:Nat):fZ (F++[x]) k d=fZ F k d+if x.1=k then x.2 d else 0:=by
 unfold fZ;rw[WR,abO,WB,XX,Xp,List.sum_nil,abo]
theorem de {F:Fs}{k:List Int}:k∈bJ F↔k∈F.map (·.1):=by
 unfold bJ cY;rw[jw];simp
theorem K6 {α:Type}{f:α->Int}:∀{l:List α},(∀x∈l,f x=0)->(l.map f).sum=0
 | [],_=>rfl
 |x::l,h=>by
  rw[WB,Xp,h x WM,K6 λy hy=>h y (WO _ hy)];rfl
theorem GO {F:Fs}{k:List Int}(h:k∉bJ F)(d:Nat):fZ F k d=0:=K6 λx hx=>hV λe=>h (de.mpr (WN.mpr ⟨x,hx,e⟩))
theorem B2 {α:Type}{f:α->Int}:∀{l:List α},(∀x∈l,0<=f x)->0<=(l.map f).sum
 | [],_=>by simp
 |x::l,h=>by
  rw[WB,Xp];have a:=h x WM;have b:=B2 (f:=f) (l:=l) λy hy=>h y (WO _ hy);lia
theorem qz {F:Fs}(h:∀x∈F,∀d,0<=x.2 d)(k:List Int)(d:Nat):0<=fZ F k d:=B2 λx hx=>by
 split
 ·exact h x hx d
 ·exact Int.le_refl _
theorem kN (F:Fs):(bJ F).Nodup:=l8 _ _ Y9
theorem jx (F:Fs):(bJ F).length<=F.length:=by
 have:=sY (F.map (·.1)) [];unfold bJ cY;simpa using this
theorem GP {a D:Int}(ha:0<=a)(hD:0<D):wt D (bC a D)=a:=by
 obtain⟨r1,r2,r3,_,r5⟩:=l7 ha hD;have:=K3 r5;rw[r3] at this;exact (aai (by lia) this).symm
theorem wM {a D:Int}(ha:0<=a)(hD:0<D):p7 D (bC a D):=by
 obtain⟨r1,r2,r3,_,r5⟩:=l7 ha hD;exact⟨r1,r2,r5⟩
theorem Jx (hn:nd<=1000){D:Int}(hD:0<D)(Hw:D<=10000000){a b:Nat->Int}(ha:∀d,0<=a d)(hb:∀d,0<=b d):eG [wU nd D a,wU nd D b]=.ok (wU nd D λd=>a d+b d):=by
 have zw:YL (λa b=>U.tup [a,b]) ((WY nd).map λd=>dW (bC (a d) D)) ((WY nd).map λd=>dW (bC (b d) D))=(WY nd).map λd=>U.tup [dW (bC (a d) D),dW (bC (b d) D)]:=by
  rw[List.zipWith_map];have:∀l:List Nat,YL (λx y=>U.tup [dW (bC (a x) D),dW (bC (b y) D)]) l l=l.map λd=>U.tup [dW (bC (a d) D),dW (bC (b d) D)]:=by
   intro l
   induction l with
   |nil=>rfl
   |cons x l ih=>rw[YQ,ih];rfl
  exact this _
 have el:=cy (f:=uF [none,none] (cf 2 (aD (bw 0) (aD (bw 1) cc))) cK (jh 1 dF (ae (gE (ae (af 0) (ae (af 1) ak))) ak)) [some (wU nd D a),some (wU nd D b)]) (c:=λd=>U.tup [dW (bC (a d) D),dW (bC (b d) D)]) (g:=λd=>dW (bC (a d+b d) D)) (xs:=WY nd) λd _=>by
  have t:=GN hD Hw (l:=[bC (a d) D,bC (b d) D]) λg hg=>by
   simp only[WZ,abt,or_false] at hg;rcases hg with rfl|rfl
   ·exact wM (ha d) hD
   ·exact wM (hb d) hD
  simp only[WB,XX,Xp,List.sum_nil,GP (ha d) hD,GP (hb d) hD,abo] at t;simp only[Pzz,cg,Nat.reduceAdd,Nat.reduceSub,DC,t]
 have sz:((WY nd).map λd=>dW (bC (a d+b d) D)).length<=WC:=by
  have:WC=16777216:=rfl;rw[Ww,Xf];lia
 have zz:Nl [wU nd D a,wU nd D b] [some (wU nd D a),some (wU nd D b)]=.ok ((WY nd).map λd=>U.tup [dW (bC (a d) D),dW (bC (b d) D)],[some (wU nd D a),some (wU nd D b)]):=by
  unfold wU;rw[Jw,zw]
 unfold eG kL;simp only[Pzz,cg,Nat.reduceAdd,Nat.reduceSub,Qg,zz,el,sz];rfl
theorem Jy {gv gk:Ev->R (U×Ev)}:i9 i gv gk ρ=SR.of (gv ρ) λx=>if live x.2 i=true then SR.of (gk x.2) λy=>match y.2[i]? with
 |some (some (.dct ks us))=>if j9 ks y.1=true/\us.length<WC then .nx (y.2.set i (some (.dct (gG ks y.1) (eW ks us y.1 x.1)))) else .stk
 |_=>.stk
 else .stk:=rfl
theorem Nn (ks:List (List Int))(k:List Int):j9 (ks.map ao) (ao k)=true:=by
 unfold j9;rw[sV,Bool.true_and];have:(ks.map ao).all EO=true:=YK.mpr λu hu=>by
  obtain⟨k,_,rfl⟩:=WN.mp hu;rfl
 rw[this,Bool.or_true]
theorem Qh {D:Int}{F:Fs}{k:List Int}:CO id (ao k) (KU nd D F)=.ok (.bl (decide (k∈bJ F))):=by
 unfold KU CO;dsimp only;rw[hZ (Nn _ _),Aq];by_cases c:k∈bJ F
 ·rw[hZ c,hG c];rfl
 ·rw[hV c,hJ c];rfl
theorem Qi {D:Int}{F:Fs}{k:List Int}(h:k∈bJ F):vL (KU nd D F) (ao k)=.ok (wU nd D (fZ F k)):=by
 unfold KU vL;dsimp only;rw[hZ (Nn _ _),Aq,hZ h]
theorem SN {D:Int}{F:Fs}{x:List Int×(Nat->Int)}:U.dct (gG ((bJ F).map ao) (ao x.1)) (eW ((bJ F).map ao) ((bJ F).map λk=>wU nd D (fZ F k)) (ao x.1) (wU nd D λd=>fZ F x.1 d+x.2 d))=KU nd D (F++[x]):=by
 rw[Ju,Jv];unfold KU;rw[Ar];congr 1;refine W3 λk _=>?_;have e:fZ (F++[x]) k=λd=>fZ F k d+if x.1=k then x.2 d else 0:=funext λd=>Dk F x k d
 rw[e];by_cases c:k=x.1
 ·subst c;simp only[if_true]
 ·rw[hV c];congr 1;funext d;rw[hV (λz=>c z.symm),abo]
theorem GQ (hn:nd<=1000){D:Int}(hD:0<D)(Hw:D<=10000000){F:Fs}(hF:F.length<1000000)(nn:∀x∈F,∀d,0<=x.2 d){x:List Int×(Nat->Int)}(hx:∀d,0<=x.2 d) :
  iV [x0,some (KU nd D F),some (ao x.1),some (wU nd D x.2)]=.nx [x0,some (KU nd D (F++[x])),some (ao x.1),some (wU nd D x.2)]:=by
 have sz:WC=16777216:=rfl;have kl:=jx F;have pl:=Jx hn hD Hw (qz nn x.1) hx;have v:Q5 (gB (aY (CO id) (af 2) (af 1))) (jh 2 eG (ae (aY vL (af 1) (af 2)) (ae (af 3) ak))) (af 3) [x0,some (KU nd D F),some (ao x.1),some (wU nd D x.2)]=.ok (wU nd D (λd=>fZ F x.1 d+x.2 d),[x0,some (KU nd D F),some (ao x.1),some (wU nd D x.2)]):=by
  by_cases c:x.1∈bJ F
  ·simp only[Pzz,cg,Nat.reduceAdd,Nat.reduceSub,Qh,hG c,Qi c,pl]
  ·have e:(λd=>fZ F x.1 d+x.2 d)=x.2:=funext λd=>by rw[GO c,ab_]
   rw[e];simp only[Pzz,cg,Nat.reduceAdd,Nat.reduceSub,Qh,hJ c]
 unfold iV;rw[Jy,v];have g2:af 2 [x0,some (KU nd D F),some (ao x.1),some (wU nd D x.2)]=.ok (ao x.1,[x0,some (KU nd D F),some (ao x.1),some (wU nd D x.2)]):=rfl;dsimp only[L2.SR.of];rw[hZ (show live [x0,some (KU nd D F),some (ao x.1),some (wU nd D x.2)] 1=true from rfl),g2];dsimp only[L2.SR.of];show (if j9 ((bJ F).map ao) (ao x.1)=true/\((bJ F).map λk=>wU nd D (fZ F k)).length<WC then _ else _)=_;rw[hZ ⟨Nn _ _,by rw[Ww,sz];lia⟩,SN];rfl
theorem As (hn:nd<=1000){D:Int}(hD:0<D)(Hw:D<=10000000){F:Fs}(ne:F≠[])(hF:F.length<50000)(nn:∀x∈F,∀d,0<=x.2 d)(hr:∀x∈F,x.1≠[]):cU [.lst (F.map (pU nd D))]=.ok (fR nd D (eN F)):=by
 obtain⟨ρ,e,o2,o3,rfl⟩:=bx (us:=F.map (pU nd D)) (sg:=cf 2 (aD (bw 2) (aD (bw 3) cc))) (s:=iV)
  (λi ρ=>∃o2 o3,ρ=[some (.lst (F.map (pU nd D))),some (KU nd D (F.take i)),o2,o3])
  (λi u ρ hu h00=>by
   obtain⟨o2,o3,hr'⟩:=h00;subst hr';have hi:i<F.length:=by have:=(WE.mp hu).1;rwa [Ww] at this
   rw[WQ,Wx hi] at hu;obtain rfl:pU nd D F[i]=u:=by injection hu
   have q:=GQ hn hD Hw (F:=F.take i) (by rw[W_];lia) (λx hx=>nn x (XU hx)) (x:=F[i]) (nn _ (Xh hi)) (x0:=some (.lst (F.map (pU nd D))));rw[Xd hi];exact⟨_,_,DC,.inl q,_,_,rfl⟩)
  (ρ:=[some (.lst (F.map (pU nd D))),some (.dct [] []),none,none]) ⟨_,_,rfl⟩
 rw[Ww,XR] at e;have kl:=jx F;have VY:bJ F≠[]:=λz=>by
  cases hq:F with
  |nil=>exact ne hq
  |cons x F'=>
   have:x.1∈bJ F:=de.mpr (by rw[hq];exact WM);rw[z] at this;cases this
 have so:u5 [KU nd D F]=.ok (.lst ((dO (bJ F)).map ao)):=Nm VY (by lia) λk hk=>by
  obtain⟨x,hx,rfl⟩:=WN.mp (de.mp hk);exact hr x hx
 have el:=cy (f:=uF [none,some 1] (bw 0) cK (cx (ae (af 0) (ae (aY vL (af 1) (af 0)) ak))) [some (.lst (F.map (pU nd D))),some (KU nd D F),o2,o3]) (c:=ao) (g:=λk=>pU nd D (k,fZ F k)) (xs:=dO (bJ F)) λk hk=>by
  have RB:=(aZ _).mem_iff.mp hk;simp only[Pzz,cg,Nat.reduceAdd,Nat.reduceSub,Qi RB];rfl
 have sz:((dO (bJ F)).map λk=>pU nd D (k,fZ F k)).length<=WC:=by
  have:WC=16777216:=rfl;rw[Ww,(aZ _).length_eq];lia
 unfold cU l4;simp only[Pzz,cg,Nat.reduceAdd,Nat.reduceSub,e,sW,so,el,sz,ow];unfold fR eN;rw[WW];rfl
variable {F:Hc.Fs}
structure Sf (n:Nat)(ss:List (List Int)):Prop where
 n1:1<=n
 n8:n<=8
 o:∀o∈ss,sT n o
 l1:1<=ss.length
 l2:ss.length<=24
structure pE (n nd:Nat)(D:Int)(m:Fs):Prop where
 ne:m≠[]
 nn:(m.map (·.1)).Nodup
 el:∀p∈m,p.1.length=n/\∀d,0<=p.2 d
 ln:m.length<=1000
 d0:0<D
 d1:D<=400000
 n1:1<=nd
 n2:nd<=4
theorem wN {o:List Int}(h:sT n o):∀i∈o,0<=i/\i<n:=λi hi=>zP.mp (h.mem_iff.mp hi)
theorem nu {o:List Int}(h:sT n o):o.length=n:=by have:=h.length_eq;rwa [fE] at this
noncomputable def bj (m:Fs)(ss:List (List Int)):Fs:=m.flatMap λp=>ss.map λo=>(bV p.1 o,p.2)
theorem jy (m:Fs)(ss:List (List Int)):(bj m ss).length=m.length*ss.length:=by
 unfold bj
 induction m with
 |nil=>simp
 |cons p m ih=>rw[Yy,WI,ih,Ww,WS,Nat.add_mul,Nat.one_mul,Nat.add_comm]
theorem iY {D:Int}{m:Fs}(hm:pE n nd D m)(hs:Sf n ss):∀x∈bj m ss,x.1.length=n/\∀d,0<=x.2 d:=λx hx=>by
 unfold bj at hx;obtain⟨p,hp,hx⟩:=YO.mp hx;obtain⟨o,ho,rfl⟩:=WN.mp hx;refine⟨?_,(hm.el p hp).2⟩;show (bV p.1 o).length=n;unfold bV;rw[Ww];exact nu (hs.o o ho)
theorem qA {D:Int}{m:Fs}(hm:pE n nd D m)(hs:Sf n ss):bj m ss≠[]:=λe=>by
 have:=jy m ss;rw[e,ZY] at this;have h1:0<m.length:=List.length_pos_iff.mpr hm.ne;have:=Nat.mul_pos h1 hs.l1;lia
theorem GR (hn:nd<=1000){D:Int}(d0:0<D)(d1:D<=400000){c:Nat}(c1:1<=c)(c2:c<=24){w:Nat->Int}(hw:∀d,0<=w d)(d:Nat):bM [.int (bC (w d) D).1,.int ((bC (w d) D).2*(c:Nat))]=.ok (dW (bC (w d) (D*(c:Nat))))/\i7 (bC (w d) D).2 (c:Nat)=true:=by
 obtain⟨r1,r2,r3,_,r5⟩:=l7 (hw d) d0;have le:(bC (w d) D).2<=D:=abD d0 r5;have b0:0<(bC (w d) D).2*(c:Nat):=Z7 r2 (by lia);have b1:(bC (w d) D).2*(c:Nat)<=400000*24:=abg (by lia) (by lia) (by lia) (by decide);refine⟨?_,jL (by lia) (by lia)⟩;rw[vb r1 b0 (by lia)];congr 2;refine Ap r1 b0 (hw d) (Z7 d0 (by lia)) ?_;rw[←Xo,r3,Xo]
theorem Dm {D:Int}{m:Fs}(hm:pE n nd D m)(hs:Sf n ss){p:List Int×(Nat->Int)}(hp:p∈m)(hF:F.length<100000) :
  ∃o5',fQ [x0,some (SU ss),some (.lst (F.map (pU nd (D*(ss.length:Nat))))),some (ao p.1),some (wU nd D p.2),o5]=.nx [x0,some (SU ss),some (.lst ((F++ss.map λo=>(bV p.1 o,p.2)).map (pU nd (D*(ss.length:Nat))))),some (ao p.1),some (wU nd D p.2),o5']:=by
 have sz:WC=16777216:=rfl;have n2:=hm.n2;have l2:=hs.l2;have lS:iN [SU ss]=.ok (.int (ss.length:Nat)):=by unfold SU;rw[nZ,Ww]
 obtain⟨e1,e2⟩:=hm.el p hp;have sh:=λd=>GR (nd:=nd) (by lia) hm.d0 hm.d1 hs.l1 hs.l2 e2 d;have el:=cy (f:=uF [none,none,some 1] (cf 2 (aD (bw 0) (aD (bw 1) cc))) cK (jh 2 bM (ae (af 0) (ae (aY fz (af 1) (i5 iN (ae (af 2) ak))) ak))) [x0,some (SU ss),some (.lst (F.map (pU nd (D*(ss.length:Nat))))),some (ao p.1),some (wU nd D p.2),o5]) (c:=λd=>dW (bC (p.2 d) D)) (g:=λd=>dW (bC (p.2 d) (D*(ss.length:Nat)))) (xs:=WY nd) λd _=>by
  obtain⟨h1,h2⟩:=sh d;unfold dW at h1 ⊢;simp only[Pzz,cg,Nat.reduceAdd,Nat.reduceSub,DC,lS,h1,h2]
 have z1:((WY nd).map λd=>dW (bC (p.2 d) (D*(ss.length:Nat)))).length<=WC:=by rw[Ww,Xf];lia
 have VZ:=cy (f:=uF [none,some 5,some 3] (bw 0) cK (cx (ae (jh 2 cP (ae (af 2) (ae (af 0) ak))) (ae (af 1) ak))) [x0,some (SU ss),some (.lst (F.map (pU nd (D*(ss.length:Nat))))),some (ao p.1),some (wU nd D p.2),some (wU nd (D*(ss.length:Nat)) p.2)]) (c:=ao) (g:=λo=>pU nd (D*(ss.length:Nat)) (bV p.1 o,p.2)) (xs:=ss) λo ho=>by
  have lo:=qt (a:=p.1) (b:=o) (λi hi=>by rw[e1];exact wN (hs.o o ho) i hi) (by rw[nu (hs.o o ho)];have:=hs.n8;lia);simp only[Pzz,cg,Nat.reduceAdd,Nat.reduceSub,lo];rfl
 have z2:(ss.map λo=>pU nd (D*(ss.length:Nat)) (bV p.1 o,p.2)).length<=WC:=by rw[Ww];lia
 have z3:(F.map (pU nd (D*(ss.length:Nat)))).length+(ss.map λo=>pU nd (D*(ss.length:Nat)) (bV p.1 o,p.2)).length<=WC:=by rw[Ww,Ww];lia
 have w1:U.tup ((WY nd).map λd=>dW (bC (p.2 d) (D*(ss.length:Nat))))=wU nd (D*(ss.length:Nat)) p.2:=rfl;have sb:∀ρ,pO (wU nd D p.2) ρ=.ok ((WY nd).map λd=>dW (bC (p.2 d) D),ρ):=λρ=>rfl;refine⟨some (wU nd (D*(ss.length:Nat)) p.2),?_⟩;unfold fQ;simp only[Pzz,cg,Nat.reduceAdd,Nat.reduceSub,sb,el,z1,w1,B0,VZ,z2,Gw,z3];simp only[WR,WW];rfl
theorem Dn {D:Int}{m:Fs}(hm:pE n nd D m)(hs:Sf n ss)(hl:m.length*ss.length<=2000):gQ [fR nd D m,SU ss]=.ok (fR nd (D*(ss.length:Nat)) (eN (bj m ss))):=by
 have n2:=hm.n2;have D1:0<D*(ss.length:Nat):=Z7 hm.d0 (by have:=hs.l1;lia);have D2:D*(ss.length:Nat)<=400000*24:=abg hm.d1 (by have:=hs.l2;lia) (by lia) (by decide);have po:=As (nd:=nd) (by lia) D1 (by lia) (qA hm hs) (by rw[jy];lia) (λx hx=>(iY hm hs x hx).2) (λx hx e=>by
  have:=(iY hm hs x hx).1;rw[e] at this;have:=hs.n1;simp at *;lia)
 obtain⟨ρ,e,o3,o4,o5,rfl⟩:=bx (us:=m.map (pU nd D)) (sg:=cf 2 (aD (bw 3) (aD (bw 4) cc))) (s:=fQ)
  (λi ρ=>∃o3 o4 o5,ρ=[some (fR nd D m),some (SU ss),some (.lst ((bj (m.take i) ss).map (pU nd (D*(ss.length:Nat))))),o3,o4,o5])
  (λi u ρ hu h00=>by
   obtain⟨o3,o4,o5,hr⟩:=h00;subst hr;have hi:i<m.length:=by have:=(WE.mp hu).1;rwa [Ww] at this
   rw[WQ,Wx hi] at hu;obtain rfl:pU nd D m[i]=u:=by injection hu
   have fl:(bj (m.take i) ss).length<100000:=by
    rw[jy,W_];have:min i m.length*ss.length<=m.length*ss.length:=abf (by lia) (WK _);lia
   obtain⟨o5',q⟩:=Dm hm hs (Xh hi) fl (x0:=some (fR nd D m)) (o5:=o5);have ef:bj (m.take (i+1)) ss=bj (m.take i) ss++ss.map λo=>(bV m[i].1 o,m[i].2):=by
    unfold bj;rw[Xd hi,abR,Yy,List.flatMap_nil,Xr]
   rw[ef];exact⟨_,_,DC,.inl q,_,_,_,rfl⟩)
  (ρ:=[some (fR nd D m),some (SU ss),some (.lst []),none,none,none]) ⟨_,_,_,rfl⟩
 rw[Ww,XR] at e;have sb:∀ρ,pO (fR nd D m) ρ=.ok (m.map (pU nd D),ρ):=λρ=>rfl;unfold gQ jY;simp only[Pzz,cg,Nat.reduceAdd,Nat.reduceSub,sb,e,sW,po,ow]
theorem Jz {D:Int}{m:Fs}{o:List Int}(hm:pE n nd D m)(hs:Sf n [o]):cU [.lst ((bj m [o]).map (pU nd D))]=.ok (fR nd D (eN (bj m [o]))):=by
 have n2:=hm.n2;have d1:=hm.d1;have ln:=hm.ln;exact As (nd:=nd) (by lia) hm.d0 (by lia) (qA hm hs) (by rw[jy];simp;lia) (λx hx=>(iY hm hs x hx).2) (λx hx e=>by
  have:=(iY hm hs x hx).1;rw[e] at this;have:=hs.n1;simp at *;lia)
noncomputable def jz (l:List (Int×Int)):Nat:=(l.map λg=>g.2.toNat).foldl Nat.lcm 1
theorem yP:∀(l:List Nat) (x D:Nat),(∀y∈l,y ∣ D)->x ∣ D->l.foldl Nat.lcm x ∣ D
 | [],x,D,_,h=>h
 |y::l,x,D,hl,h=>by
  rw[YY];exact yP l _ D (λz hz=>hl z (WO _ hz)) (Nat.lcm_dvd h (hl y WM))
theorem yQ:∀(l:List Nat) (x:Nat),x ∣ l.foldl Nat.lcm x/\∀y∈l,y ∣ l.foldl Nat.lcm x
 | [],x=>⟨Nat.dvd_refl _,λy hy=>by cases hy⟩
 |z::l,x=>by
  rw[YY];obtain⟨h1,h2⟩:=yQ l (Nat.lcm x z);refine⟨Nat.dvd_trans (Nat.dvd_lcm_left x z) h1,λy hy=>?_⟩;rcases WZ.mp hy with rfl|hy
  ·exact Nat.dvd_trans (Nat.dvd_lcm_right x y) h1
  ·exact h2 y hy
theorem B3 {D:Int}(hD:0<D){l:List (Int×Int)}(h:∀g∈l,p7 D g):jz l ∣ D.toNat:=by
 refine yP _ 1 _ (λy hy=>?_) (Nat.one_dvd _);obtain⟨g,hg,rfl⟩:=WN.mp hy;obtain⟨_,g1,g2⟩:=h g hg;have:((g.2.toNat:Nat):Int) ∣ (D.toNat:Nat):=by
  rw[abS (by lia),abS (by lia)];exact g2
 exact aaU.mp this
theorem B4 {D:Int}(hD:0<D){l:List (Int×Int)}(h:∀g∈l,p7 D g):0<jz l:=Nat.pos_of_dvd_of_pos (B3 hD h) (by lia)
theorem GU {D:Int}(hD:0<D){l:List (Int×Int)}(h:∀g∈l,p7 D g):(jz l:Int)<=D:=by
 have:=Nat.le_of_dvd (by lia) (B3 hD h);lia
theorem Np {D:Int}{l:List (Int×Int)}(h:∀g∈l,p7 D g):∀g∈l,g.2 ∣ (jz l:Int):=λg hg=>by
 have g1:=(h g hg).2.1;have:=(yQ (l.map λg=>g.2.toNat) 1).2 g.2.toNat (XB hg);have:=aaU.mpr this
 rwa [abS (by lia)] at this
theorem Qj {D:Int}(hD:0<D)(Hw:D<=400000){l:List (Int×Int)}(h:∀g∈l,p7 D g):cv [.lst (l.map dW)]=.ok (.int (jz l)):=by
 obtain⟨ρ,e,o2,rfl⟩:=bx (us:=l.map dW) (sg:=bw 2) (s:=fF)
  (λi ρ=>∃o2,ρ=[some (.lst (l.map dW)),some (.int (jz (l.take i))),o2])
  (λi u ρ hu h00=>by
   obtain⟨o2,hr⟩:=h00;subst hr;have hi:i<l.length:=by have:=(WE.mp hu).1;rwa [Ww] at this
   rw[WQ,Wx hi] at hu;obtain rfl:dW l[i]=u:=by injection hu
   have hg:=h _ (Xh hi);have ht:∀g∈l.take i,p7 D g:=λg hg=>h g (XU hg);have b0:=B4 hD ht;have b1:=GU hD ht;have g1:=hg.2.1;have g2:l[i].2<=D:=abD hD hg.2.2;obtain⟨y,hy⟩:∃y:Nat,l[i].2=y:=⟨l[i].2.toNat,by lia⟩;have gd:=K2 (a:=(jz (l.take i):Int)) (b:=(y:Int)) (by lia) (by lia) (by lia);simp only[Xk] at gd;have gp:0<Y7 (jz (l.take i)) y:=Nat.gcd_pos_of_pos_left _ b0;have gl:Y7 (jz (l.take i)) y<=jz (l.take i):=Nat.gcd_le_left _ b0;have c1:i7 (jz (l.take i):Int) (y:Int)=true:=jL (by lia) (by lia);have st:jz (l.take (i+1))=Nat.lcm (jz (l.take i)) y:=by
    unfold jz;rw[Xd hi,WR,abb,WB,XX,YY,List.foldl_nil,hy,Xk]
   have lc:((jz (l.take i):Int)*(y:Int)) / ((Y7 (jz (l.take i)) y:Nat):Int)=((Nat.lcm (jz (l.take i)) y:Nat):Int):=by
    unfold Nat.lcm;rw[aav,Int.natCast_mul]
   rw[st];refine⟨[some (.lst (l.map dW)),some (.int (jz (l.take i))),some (dW l[i])],[some (.lst (l.map dW)),some (.int (Nat.lcm (jz (l.take i)) y:Nat)),some (dW l[i])],rfl,.inl ?_,_,rfl⟩;unfold fF;unfold dW;rw[hy];simp only[Pzz,cg,Nat.reduceAdd,Nat.reduceSub,c1,gd,B1 gp (by lia),lc])
  (ρ:=[some (.lst (l.map dW)),some (.int 1),none]) ⟨_,rfl⟩
 rw[Ww,XR] at e;unfold cv gw;simp only[Pzz,cg,Nat.reduceAdd,Nat.reduceSub,e]
theorem JA {k:List Int}(v:Int)(h:k∉d.map (·.1)):ju d k v=d++[(k,v)]:=hV h
theorem Qk {v b:Int}(h:0<b)(h2:b<1000000000000000):jl (.int v) (.int b)=.ok (.int (v / b)):=by
 obtain⟨g,rfl⟩:∃g:Nat,b=g:=⟨b.toNat,by lia⟩;exact B1 (by lia) (by lia)
noncomputable abbrev Mx:=List (List Int×Int×Int)
noncomputable def ox (B:Int)(m:Mx):Dc:=m.map λp=>(p.1,p.2.1*(B / p.2.2))
noncomputable def mD (D:Int)(d:Nat)(m:Fs):Mx:=m.map λp=>(p.1,bC (p.2 d) D)
noncomputable def d6 (D:Int)(d:Nat)(m:Fs):Nat:=jz ((mD D d m).map (·.2))
noncomputable def ug (D:Int)(d:Nat)(m:Fs):Dc:=ox (d6 D d m) (mD D d m)
theorem B5 {D:Int}{m:Fs}(hm:pE n nd D m)(d:Nat):∀g∈(mD D d m).map (·.2),p7 D g:=λg hg=>by
 unfold mD at hg;rw[WW] at hg;obtain⟨p,hp,rfl⟩:=WN.mp hg;exact wM ((hm.el p hp).2 d) hm.d0
theorem sZ {D:Int}{m:Fs}(hm:pE n nd D m)(d:Nat):0<d6 D d m/\(d6 D d m:Int)<=D:=⟨B4 hm.d0 (B5 hm d),GU hm.d0 (B5 hm d)⟩
theorem Ql {d:Nat}(h:d<nd){D:Int}{w:Nat->Int}:je (wU nd D w) (.int (d:Nat))=.ok (dW (bC (w d) D)):=by
 unfold wU;rw[rC,j4,WQ,Yt h];rfl
theorem JB {D:Int}{m:Fs}(hm:pE n nd D m){d:Nat}(hd:d<nd){B:Nat}(hB:(B:Int)<=400000){o4 o6:Option U} :
  ∃o4' o5' o6',eF (cf 2 (aD (bw 4) (aD (bw 5) cc))) dE (m.map (pU nd D)) [x0,some (.int (d:Nat)),some (.int B),some (.dct [] []),o4,o5,o6]=.nx [x0,some (.int (d:Nat)),some (.int B),some (DU (ox B (mD D d m))),o4',o5',o6']:=by
 have ln:=hm.ln;have d1:=hm.d1;obtain⟨ρ,e,o4',o5',o6',rfl⟩:=bx (us:=m.map (pU nd D)) (sg:=cf 2 (aD (bw 4) (aD (bw 5) cc))) (s:=dE)
  (λi ρ=>∃o4 o5 o6,ρ=[x0,some (.int (d:Nat)),some (.int B),some (DU (ox B (mD D d (m.take i)))),o4,o5,o6])
  (λi u ρ hu h00=>by
   obtain⟨o4,o5,o6,hr⟩:=h00;subst hr;have hi:i<m.length:=by have:=(WE.mp hu).1;rwa [Ww] at this
   rw[WQ,Wx hi] at hu;obtain rfl:pU nd D m[i]=u:=by injection hu
   obtain⟨e2,e3,e4⟩:=wM ((hm.el _ (Xh hi)).2 d) hm.d0;have VX:=abD hm.d0 e4;have ql:(ox B (mD D d (m.take i))).length<1000000:=by unfold ox mD;rw[Ww,Ww,W_];lia
   have q0:0<=(B:Int) / (bC (m[i].2 d) D).2:=abP (by lia) (by lia);have q1:(B:Int) / (bC (m[i].2 d) D).2<=B:=Int.ediv_le_self _ (by lia);have c:i7 (bC (m[i].2 d) D).1 ((B:Int) / (bC (m[i].2 d) D).2)=true:=jL q0 (by lia);have nk:m[i].1∉(ox B (mD D d (m.take i))).map (·.1):=λz=>by
    unfold ox mD at z;rw[WW,WW] at z;obtain⟨p,hp,e⟩:=WN.mp z;have nd:=hm.nn;rw[←Xs i m,WR,aad] at nd;refine nd.2.2 p.1 (XB hp) m[i].1 (XB ?_) e;rw[X6 hi];exact WM
   have sn:ox B (mD D d (m.take (i+1)))=ju (ox B (mD D d (m.take i))) m[i].1 ((bC (m[i].2 d) D).1*((B:Int) / (bC (m[i].2 d) D).2)):=by
    rw[JA _ nk];unfold ox mD;rw[Xd hi,WR,WR];rfl
   rw[sn];have iw:=Ql hd (D:=D) (w:=m[i].2);refine⟨[x0,some (.int (d:Nat)),some (.int B),some (DU (ox B (mD D d (m.take i)))),some (ao m[i].1),some (wU nd D m[i].2),o6],[x0,some (.int (d:Nat)),some (.int B),some (DU (ju (ox B (mD D d (m.take i))) m[i].1 ((bC (m[i].2 d) D).1*((B:Int) / (bC (m[i].2 d) D).2)))),some (ao m[i].1),some (wU nd D m[i].2),some (dW (bC (m[i].2 d) D))],DC,.inl ?_,_,_,_,rfl⟩;unfold dE;unfold dW at iw ⊢;simp only[Pzz,cg,Nat.reduceAdd,Nat.reduceSub,iw,An,wI ql,Qk e3 (by lia),c])
  (ρ:=[x0,some (.int (d:Nat)),some (.int B),some (DU []),o4,o5,o6]) ⟨_,_,_,rfl⟩
 rw[Ww,XR] at e;exact⟨o4',o5',o6',e⟩
theorem Qm {D:Int}{m:Fs}(hm:pE n nd D m){d:Nat}(hd:d<nd):cZ [fR nd D m,.int (d:Nat)]=.ok (.tup [DU (ug D d m),.int (d6 D d m)]):=by
 have ln:=hm.ln;have d1:=hm.d1;obtain⟨bp,bl⟩:=sZ hm d;have cb:=Qj hm.d0 hm.d1 (B5 hm d);have V0:cv [.lst (m.map λp=>dW (bC (p.2 d) D))]=.ok (.int (d6 D d m)):=by
  have e:((mD D d m).map (·.2)).map dW=m.map λp=>dW (bC (p.2 d) D):=by unfold mD;rw[WW,WW];rfl
  rw[e] at cb;exact cb
 have el:=cy (f:=uF [none,none,some 1] (cf 2 (aD (bw 0) (aD (bw 1) cc))) cK (aY je (af 1) (af 2)) [some (fR nd D m),some (.int (d:Nat)),none,none,none,none,none]) (c:=pU nd D) (g:=λp=>dW (bC (p.2 d) D)) (xs:=m) λp _=>by
  have iw:=Ql hd (D:=D) (w:=p.2);unfold pU;simp only[Pzz,cg,Nat.reduceAdd,Nat.reduceSub,DC,iw]
 have sz:(m.map λp=>dW (bC (p.2 d) D)).length<=WC:=by
  have:WC=16777216:=rfl;rw[Ww];lia
 obtain⟨o4,o5,o6,wo⟩:=JB hm hd (B:=d6 D d m) (by lia) (x0:=some (fR nd D m)) (o4:=none) (o5:=none) (o6:=none);have sb:∀ρ,pO (fR nd D m) ρ=.ok (m.map (pU nd D),ρ):=λρ=>rfl;unfold cZ gx;simp only[Pzz,cg,Nat.reduceAdd,Nat.reduceSub,sb,el,sz,V0,wo,sW,ow];rfl
noncomputable def f6 (W C:Dc):List (List Int×Int):=C.flatMap λo=>W.map λr=>(bV r.1 o.1,r.2*o.2)
theorem vc (W C:Dc):(f6 W C).length=C.length*W.length:=by
 unfold f6
 induction C with
 |nil=>simp
 |cons o C ih=>rw[Yy,WI,ih,Ww,WS,Nat.add_mul,Nat.one_mul,Nat.add_comm]
theorem Qn {W:Dc}(hW:W≠[])(wl:W.length<=1000)(hr:∀r∈W,r.1.length=n){o:List Int×Int}(ho:sT n o.1)(n8:n<=8)(V1:0<=o.2)(Wt:o.2<1000){ws:List (List Int×Int)}(wb:ws.length<10000){o6:Option U} :
  ∃o5' o6' o7',k8 [some (DU W),x1,some (DU (a_ [] ws)),some (ao o.1),some (.int o.2),o5,o6,o7]=.nx [some (DU W),x1,some (DU (a_ [] (ws++W.map λr=>(bV r.1 o.1,r.2*o.2)))),some (ao o.1),some (.int o.2),o5',o6',o7']:=by
 obtain⟨ρ,e,o5',o6',o7',rfl⟩:=bx (us:=W.map N8) (sg:=cf 2 (aD (bw 5) (aD (bw 6) cc))) (s:=og)
  (λi ρ=>∃o5 o6 o7,ρ=[some (DU W),x1,some (DU (a_ [] (ws++(W.take i).map λr=>(bV r.1 o.1,r.2*o.2)))),some (ao o.1),some (.int o.2),o5,o6,o7])
  (λi u ρ hu h00=>by
   obtain⟨o5,o6,o7,hr'⟩:=h00;subst hr';have hi:i<W.length:=by have:=(WE.mp hu).1;rwa [Ww] at this
   rw[WQ,Wx hi] at hu;obtain rfl:N8 W[i]=u:=by injection hu
   have el:=hr _ (Xh hi);have lo:=GG (a:=W[i].1) (b:=o.1) (λj hj=>by rw[el];exact wN ho j hj) (by rw[nu ho];lia);have ql:(a_ [] (ws++(W.take i).map λr=>(bV r.1 o.1,r.2*o.2))).length<1000000:=by
    have:=j1 (ws++(W.take i).map λr=>(bV r.1 o.1,r.2*o.2));rw[WI,Ww,W_] at this;lia
   have c:i7 W[i].2 o.2=true:=jL V1 (by lia);have sn:a_ [] (ws++(W.take (i+1)).map λr=>(bV r.1 o.1,r.2*o.2))=j0 (a_ [] (ws++(W.take i).map λr=>(bV r.1 o.1,r.2*o.2))) (bV W[i].1 o.1) (W[i].2*o.2):=by
    rw[Xd hi,WR,←W9,WB,XX,pB]
   rw[sn];refine⟨[some (DU W),x1,some (DU (a_ [] (ws++(W.take i).map λr=>(bV r.1 o.1,r.2*o.2)))),some (ao o.1),some (.int o.2),some (ao W[i].1),some (.int W[i].2),o7],_,DC,.inl ?_,some (ao W[i].1),some (.int W[i].2),some (ao (bV W[i].1 o.1)),rfl⟩;unfold og;simp only[Pzz,cg,Nat.reduceAdd,Nat.reduceSub,lo,An,wJ,wK,wL,c,wI ql];rfl)
  (ρ:=[some (DU W),x1,some (DU (a_ [] ws)),some (ao o.1),some (.int o.2),o5,o6,o7]) ⟨o5,o6,o7,by simp⟩
 rw[Ww,XR] at e;refine⟨o5',o6',o7',?_⟩;unfold k8;simp only[Pzz,cg,Nat.reduceAdd,Nat.reduceSub,Qe,BY hW,e]
theorem wO {l:List (List Int)}{p:List Int×Int}(h:p∈df l):p.1∈l:=by
 have key:∀(ws:List (List Int×Int)) (d:Dc) (p:List Int×Int),p∈a_ d ws->p.1∈d.map (·.1)\/p.1∈ws.map (·.1):=by
  intro ws
  induction ws with
  |nil=>exact λd p hp=>.inl (XB hp)
  |cons w ws ih=>
   intro d p hp;rcases ih (j0 d w.1 w.2) p hp with z|z
   ·unfold j0 at z;rw[m_] at z;split at z
    ·exact .inl z
    ·rcases Xa.mp z with z|z
     ·exact .inl z
     ·rw[W0] at z;exact .inr (by rw[z];exact WM)
   ·exact .inr (WO _ z)
 rcases key _ _ p h with z|z
 ·cases z
 ·rw[WW] at z;obtain⟨x,hx,e⟩:=WN.mp z;rw[←e];exact hx
theorem B6 (l:List (List Int)):(df l).length<=l.length:=by
 have:=j1 (l.map λx=>(x,1));rw[Ww] at this;exact this
theorem GV (l:List (List Int)):∀p∈df l,p.2<=l.length:=λp hp=>by
 have:=Nc (sP l).2.1 p hp
 rwa [BR] at this
theorem Nq {l:List (List Int)}(h:1<=l.length):df l≠[]:=λe=>by
 have:=BR l;rw[e] at this;unfold Jo at this;simp at this;lia
theorem Dq {W:Dc}(hW:W≠[])(wl:W.length<=1000)(hr:∀r∈W,r.1.length=n)(hs:Sf n ss)(Wu:ss.length*W.length<=2000):kJ [DU W,SU ss]=.ok (DU (a_ [] (f6 W (df ss)))):=by
 have Ho:=hs.l2;have cl:=B6 ss;obtain⟨cn,cp,_⟩:=sP ss;have co:=Ao (x:=SU ss) (ss:=ss) (B0 ss) (by lia);obtain⟨ρ,e,o3,o4,o5,o6,o7,rfl⟩:=bx (us:=(df ss).map N8) (sg:=cf 2 (aD (bw 3) (aD (bw 4) cc))) (s:=k8)
  (λi ρ=>∃o3 o4 o5 o6 o7,ρ=[some (DU W),some (SU ss),some (DU (a_ [] (f6 W ((df ss).take i)))),o3,o4,o5,o6,o7])
  (λi u ρ hu h00=>by
   obtain⟨o3,o4,o5,o6,o7,hr'⟩:=h00;subst hr';have hi:i<(df ss).length:=by have:=(WE.mp hu).1;rwa [Ww] at this
   rw[WQ,Wx hi] at hu;obtain rfl:N8 (df ss)[i]=u:=by injection hu
   have hm:=Xh hi;have p1:=cp _ hm;have p2:=GV ss _ hm;have pl:(f6 W ((df ss).take i)).length<10000:=by
    rw[vc,W_];have:min i (df ss).length*W.length<=ss.length*W.length:=abf (by lia) (WK _);lia
   obtain⟨o5',o6',o7',q⟩:=Qn hW wl hr (o:=(df ss)[i]) (hs.o _ (wO hm)) hs.n8 (by lia) (by lia) pl (x1:=some (SU ss)) (o5:=o5) (o6:=o6) (o7:=o7);have ef:f6 W ((df ss).take (i+1))=f6 W ((df ss).take i)++W.map λr=>(bV r.1 (df ss)[i].1,r.2*(df ss)[i].2):=by
    unfold f6;rw[Xd hi,abR,Yy,List.flatMap_nil,Xr]
   rw[ef];exact⟨_,_,DC,.inl q,_,_,_,_,_,rfl⟩)
  (ρ:=[some (DU W),some (SU ss),some (DU []),none,none,none,none,none]) ⟨_,_,_,_,_,rfl⟩
 rw[Ww,XR] at e;have e0:DU []=.dct [] []:=rfl;rw[e0] at e;unfold kJ sG;simp only[Pzz,cg,Nat.reduceAdd,Nat.reduceSub,co,Qe,BY (Nq hs.l1),e]
theorem s9:∀(ws:List (List Int×Int)) (d:Dc),(a_ d ws).map (·.1)=(ws.map (·.1)).foldl jn (d.map (·.1))
 | [],d=>rfl
 |w::ws,d=>by
  show (a_ (j0 d w.1 w.2) ws).map (·.1)=_;rw[s9 ws,WB,YY];congr 1;unfold j0;rw[m_];rfl
def Pn (d:Dc):Prop:=∀p∈d,0<=p.2
theorem wQ (h:Pn d)(k:Rw):0<=iB d k:=by
 by_cases c:k∈d.map (·.1)
 ·exact h _ (u7 c)
 ·rw[jv c];exact Int.le_refl _
theorem Nr {k:Rw}{v:Int}(h:Pn d)(hv:0<=v):Pn (ju d k v):=by
 unfold ju;intro p hp;split at hp
 ·obtain⟨q,hq,rfl⟩:=WN.mp hp;split
  ·exact hv
  ·exact h q hq
 ·rcases Xa.mp hp with hp|hp
  ·exact h p hp
  ·rw[W0] at hp;subst hp;exact hv
theorem vd:∀(ws:List (Rw×Int)) {d:Dc},Nd d->Pn d->(∀p∈ws,0<=p.2)->Nd (a_ d ws)/\Pn (a_ d ws)/\∀f,jd (a_ d ws) f=jd d f+(ws.map λp=>p.2*f p.1).sum
 | [],d,n,p,_=>⟨n,p,λf=>by show jd d f=_;simp⟩
 |q::ws,d,n,p,h=>by
  have n1:Nd (j0 d q.1 q.2):=Gu _ _ n;have p1:Pn (j0 d q.1 q.2):=Nr p (by have:=wQ p q.1;have:=h q WM;lia);obtain⟨a,b,c⟩:=vd ws n1 p1 λx hx=>h x (WO _ hx);refine⟨a,b,λf=>?_⟩;show jd (a_ (j0 d q.1 q.2) ws) f=_;rw[c f,yI _ _ _ n,WB,Xp];lia
theorem B7:jI (.lst us) [u]=if us.length<WC then .ok (.non,.lst (us++[u])) else .stk:=nr rfl
noncomputable abbrev Dl:=List (Dc×Int)
noncomputable def p8 (x:Dc×Int):U:=.tup [DU x.1,.int x.2]
noncomputable def gy (L:Dl):List (List Int):=L.flatMap λx=>x.1.map (·.1)
noncomputable def nv (L:Dl)(k:List Int):U:=.tup [ao k,.tup (L.map λx=>dW (bC (iB x.1 k) x.2))]
structure Qo (L:Dl):Prop where
 el:∀x∈L,x.1≠[]/\x.1.length<=2000/\Pn x.1/\0<x.2/\x.2<=10000000/\∀p∈x.1,p.1≠[]
 ln:L.length<=4
 kl:(cY (gy L)).length<2046
theorem JC {W:Dc}(h:W≠[]):sE [DU W]=.ok (.lst (W.map λp=>ao p.1)):=by
 unfold sE DU;dsimp only;exact hZ (GD h)
theorem GW {L:Dl}(h:∀x∈L,x.1.length<=2000):(gy L).length<=2000*L.length:=by
 unfold gy
 induction L with
 |nil=>simp
 |cons x L ih=>
  have a:=h x WM;have b:=ih λy hy=>h y (WO _ hy);rw[Yy,WI,Ww,WS];lia
theorem Nt {L:Dl}(hL:Qo L){o2 o3 o4:Option U} :
  ∃o2' o3',eF (cf 2 (aD (bw 2) (aD (bw 3) cc))) iS (L.map p8) [x0,some (.lst []),o2,o3,o4,o5]=.nx [x0,some (.lst ((gy L).map ao)),o2',o3',o4,o5]:=by
 have sz:WC=16777216:=rfl;have ln:=hL.ln;obtain⟨ρ,e,o2',o3',rfl⟩:=bx (us:=L.map p8) (sg:=cf 2 (aD (bw 2) (aD (bw 3) cc))) (s:=iS)
  (λi ρ=>∃o2 o3,ρ=[x0,some (.lst ((gy (L.take i)).map ao)),o2,o3,o4,o5])
  (λi u ρ hu h00=>by
   obtain⟨o2,o3,hr⟩:=h00;subst hr;have hi:i<L.length:=by have:=(WE.mp hu).1;rwa [Ww] at this
   rw[WQ,Wx hi] at hu;obtain rfl:p8 L[i]=u:=by injection hu
   obtain⟨w1,w2,_⟩:=hL.el _ (Xh hi);have al:=GW (L:=L.take i) λx hx=>(hL.el x (XU hx)).2.1;rw[W_] at al;have q:((gy (L.take i)).map ao).length+(L[i].1.map λp=>ao p.1).length<=WC:=by rw[Ww,Ww];lia
   have ef:gy (L.take (i+1))=gy (L.take i)++L[i].1.map (·.1):=by
    unfold gy;rw[Xd hi,abR,Yy,List.flatMap_nil,Xr]
   rw[ef];refine⟨[x0,some (.lst ((gy (L.take i)).map ao)),some (DU L[i].1),some (.int L[i].2),o4,o5],[x0,some (.lst ((gy (L.take i)++L[i].1.map (·.1)).map ao)),some (DU L[i].1),some (.int L[i].2),o4,o5],DC,.inl ?_,_,_,rfl⟩;unfold iS;simp only[Pzz,cg,Nat.reduceAdd,Nat.reduceSub,JC w1,Gw,q];simp only[WR,WW];rfl)
  (ρ:=[x0,some (.lst []),o2,o3,o4,o5]) ⟨_,_,rfl⟩
 rw[Ww,XR] at e;exact⟨o2',o3',e⟩
theorem Nu {L:Dl}(hL:Qo L)(ks:List (List Int))(kl:ks.length<2046){o1 o2 o3:Option U} :
  ∃o5',eF (bw 5) iT (ks.map ao) [some (.lst (L.map p8)),o1,o2,o3,some (.lst []),o5]=.nx [some (.lst (L.map p8)),o1,o2,o3,some (.lst (ks.map (nv L))),o5']:=by
 have sz:WC=16777216:=rfl;have ln:=hL.ln;obtain⟨ρ,e,o5',rfl⟩:=bx (us:=ks.map ao) (sg:=bw 5) (s:=iT)
  (λi ρ=>∃o5,ρ=[some (.lst (L.map p8)),o1,o2,o3,some (.lst ((ks.take i).map (nv L))),o5])
  (λi u ρ hu h00=>by
   obtain⟨o5,hr⟩:=h00;subst hr;have hi:i<ks.length:=by have:=(WE.mp hu).1;rwa [Ww] at this
   rw[WQ,Wx hi] at hu;obtain rfl:ao ks[i]=u:=by injection hu
   have el:=cy (f:=uF [none,none,some 5] (cf 2 (aD (bw 0) (aD (bw 1) cc))) cK (jh 2 k7 (ae (i8 0 (af 2) (gC (.int 0))) (ae (af 1) ak))) [some (.lst (L.map p8)),o1,o2,o3,some (.lst ((ks.take i).map (nv L))),some (ao ks[i])]) (c:=p8) (g:=λx=>dW (bC (iB x.1 ks[i]) x.2)) (xs:=L) λx hx=>by
    obtain⟨_,_,w3,w4,w5,_⟩:=hL.el x hx;have ra:=GI (t:=iB x.1 ks[i]) (wQ w3 _) w4 (by lia);unfold p8;simp only[Pzz,cg,Nat.reduceAdd,Nat.reduceSub,DC,wJ,wK,wL,ra]
   have z1:(L.map λx=>dW (bC (iB x.1 ks[i]) x.2)).length<=WC:=by rw[Ww];lia
   have z2:((ks.take i).map (nv L)).length<WC:=by rw[Ww,W_];lia
   have sb:∀ρ,pO (.lst (L.map p8)) ρ=.ok (L.map p8,ρ):=λρ=>rfl;rw[Xd hi];refine⟨[some (.lst (L.map p8)),o1,o2,o3,some (.lst ((ks.take i).map (nv L))),some (ao ks[i])],[some (.lst (L.map p8)),o1,o2,o3,some (.lst ((ks.take i++[ks[i]]).map (nv L))),some (ao ks[i])],rfl,.inl ?_,_,rfl⟩;unfold iT;simp only[Pzz,cg,Nat.reduceAdd,Nat.reduceSub,el,z1,B7,z2];simp only[WR];rfl)
  (ρ:=[some (.lst (L.map p8)),o1,o2,o3,some (.lst []),o5]) ⟨_,rfl⟩
 rw[Ww,XR] at e;exact⟨o5',e⟩
theorem B8 {L:Dl}(hL:Qo L):eB [.lst (L.map p8)]=.ok (.tup ((dO (cY (gy L))).map (nv L))):=by
 have ss:jo [.lst ((gy L).map ao)]=.ok (.lst ((dO (cY (gy L))).map ao)):=by
  unfold jo;dsimp only;rw[sX λk hk=>by
   unfold gy at hk;obtain⟨x,hx,hk⟩:=YO.mp hk;obtain⟨p,hp,rfl⟩:=WN.mp hk;exact (hL.el x hx).2.2.2.2.2 p hp]
  dsimp only;rw[hZ hL.kl]
 have kl:(dO (cY (gy L))).length<2046:=by rw[(aZ _).length_eq];exact hL.kl
 obtain⟨o2,o3,e1⟩:=Nt hL (x0:=some (.lst (L.map p8))) (o2:=none) (o3:=none) (o4:=none) (o5:=none);obtain⟨o5,e2⟩:=Nu hL (dO (cY (gy L))) kl (o1:=some (.lst ((gy L).map ao))) (o2:=o2) (o3:=o3) (o5:=none);have sz:((dO (cY (gy L))).map (nv L)).length<=WC:=by
  have:WC=16777216:=rfl;rw[Ww];lia
 unfold eB l0;simp only[Pzz,cg,Nat.reduceAdd,Nat.reduceSub,e1,sW,ss,e2,sz,ow]
theorem Qp {D:Int}{m:Fs}(hm:pE n nd D m):dk [fR nd D m]=.ok (.lst (av 0 nd)):=by
 have n2:=hm.n2;obtain⟨p,m',em⟩:∃p m',m=p::m':=by
  cases hq:m with
  |nil=>exact absurd hq hm.ne
  |cons p m'=>exact⟨p,m',rfl⟩
 have h1:je (fR nd D m) (.int 0)=.ok (pU nd D p):=by
  rw[em];unfold fR;rw[rC,show (0:Int)=((0:Nat):Int) from rfl,j4];rfl
 have h2:je (pU nd D p) (.int 1)=.ok (wU nd D p.2):=by unfold pU;rw[rC,show (1:Int)=((1:Nat):Int) from rfl,j4];rfl
 have h3:iN [wU nd D p.2]=.ok (.int (nd:Nat)):=by unfold wU;rw[nZ,Ww,Xf]
 unfold dk ik;simp only[Pzz,cg,Nat.reduceAdd,Nat.reduceSub,h1,h2,h3,Bu nd (by lia)]
variable {L:Hc.Dl}
noncomputable def DF (k x:List Int):Int:=if x=k then 1 else 0
theorem yR {α β:Type}(f:α->β->Int):∀(l:List α) (m:List β),(l.map λa=>(m.map λb=>f a b).sum).sum=(m.map λb=>(l.map λa=>f a b).sum).sum
 | [],m=>by
  induction m with
  |nil=>rfl
  |cons b m ih=>rw[WB,Xp,←ih];rfl
 |a::l,m=>by
  rw[WB,Xp,yR f l m]
  induction m with
  |nil=>rfl
  |cons b m ih=>
   rw[WB,WB,WB,Xp,Xp,Xp,WB,Xp];rw[←ih];lia
theorem kO {α:Type}(f:α->Int)(c:Int):∀l:List α,(l.map f).sum*c=(l.map λx=>f x*c).sum
 | []=>by simp
 |x::l=>by rw[WB,Xp,WB,Xp,←kO f c l,Int.add_mul]
noncomputable def G1 (D:Int)(m:Fs)(ss:List (List Int))(d:Nat):Dc:=a_ [] (f6 (ug D d m) (df ss))
noncomputable def Rt (D:Int)(m:Fs)(ss:List (List Int))(d:Nat):Dc×Int:=(G1 D m ss d,(d6 D d m:Int)*(ss.length:Nat))
noncomputable def yS (nd:Nat)(D:Int)(m:Fs)(ss:List (List Int)):Dl:=(WY nd).map (Rt D m ss)
noncomputable def Vp (D:Int)(B:Int)(d:Nat)(p:List Int×(Nat->Int)):Int:=(bC (p.2 d) D).1*(B / (bC (p.2 d) D).2)
section
variable {D:Int}{m:Fs}
theorem pF (d:Nat):ug D d m=m.map λp=>(p.1,Vp D (d6 D d m) d p):=by
 unfold ug ox mD;rw[WW];rfl
theorem K7 (hm:pE n nd D m)(d:Nat){p:List Int×(Nat->Int)}(hp:p∈m):0<=Vp D (d6 D d m) d p/\Vp D (d6 D d m) d p*D=p.2 d*(d6 D d m:Int):=by
 have w0:=(hm.el p hp).2 d;obtain⟨r1,r2,r3,_,_⟩:=l7 w0 hm.d0;obtain⟨bp,_⟩:=sZ hm d;have dv:(bC (p.2 d) D).2 ∣ (d6 D d m:Int):=Np (B5 hm d) (bC (p.2 d) D) (by unfold mD;rw[WW];exact WN.mpr ⟨p,hp,rfl⟩);refine⟨ZT r1 (abP (by lia) (by lia)),?_⟩;unfold Vp;refine aai (a:=(bC (p.2 d) D).2) (by lia) ?_;have h1:(d6 D d m:Int) / (bC (p.2 d) D).2*(bC (p.2 d) D).2=d6 D d m:=Int.ediv_mul_cancel dv;generalize (d6 D d m:Int) / (bC (p.2 d) D).2=q at h1;generalize (bC (p.2 d) D).2=b at *;generalize (bC (p.2 d) D).1=a at *
 calc a*q*D*b=(a*D)*(q*b):=by rw[Xo a q D,Y_ q D,←Xo a D q,Xo]
  _=(p.2 d*b)*(d6 D d m:Int):=by rw[r3,h1]
  _=p.2 d*(d6 D d m:Int)*b:=by rw[Xo,Y_ b,←Xo]
theorem JD (hm:pE n nd D m)(hs:Sf n ss)(d:Nat):∀p∈f6 (ug D d m) (df ss),0<=p.2/\p.1.length=n:=λp hp=>by
 unfold f6 at hp;obtain⟨o,ho,hp⟩:=YO.mp hp;obtain⟨r,hr,rfl⟩:=WN.mp hp;rw[pF] at hr;obtain⟨q,hq,rfl⟩:=WN.mp hr;have o1:=(sP ss).2.1 o ho;refine⟨ZT (K7 hm d hq).1 (by lia),?_⟩;show (bV q.1 o.1).length=n;unfold bV;rw[Ww];exact nu (hs.o _ (wO ho))
theorem GX (hm:pE n nd D m)(hs:Sf n ss)(d:Nat):Nd (G1 D m ss d)/\Pn (G1 D m ss d)/\∀f,jd (G1 D m ss d) f=((f6 (ug D d m) (df ss)).map λp=>p.2*f p.1).sum:=by
 obtain⟨a,b,c⟩:=vd (f6 (ug D d m) (df ss)) (d:=[]) Al.1 (λp hp=>by cases hp) λp hp=>(JD hm hs d p hp).1;refine⟨a,b,λf=>?_⟩;show jd (a_ [] _) f=_;rw[c f];show (0:Int)+_=_;rw[ab_]
theorem Nv (hm:pE n nd D m)(hs:Sf n ss)(d:Nat)(k:List Int):iB (G1 D m ss d) k=(m.map λp=>(ss.map λo=>Vp D (d6 D d m) d p*DF k (bV p.1 o)).sum).sum:=by
 obtain⟨gn,gp,gs⟩:=GX hm hs d;rw[←Gv gn k,gs];unfold f6;rw[sQ];have e1:((df ss).map λo=>(((ug D d m).map λr=>(bV r.1 o.1,r.2*o.2)).map λp=>p.2*(if p.1=k then 1 else 0)).sum)=(df ss).map λo=>o.2*((ug D d m).map λr=>r.2*DF k (bV r.1 o.1)).sum:=by
  apply W3;intro o _;rw[WW,←BQ,WW];congr 1;apply W3;intro r _;show r.2*o.2*(if bV r.1 o.1=k then 1 else 0)=o.2*(r.2*DF k (bV r.1 o.1));unfold DF;rw[Y_ r.2 o.2,Xo]
 have e2:((df ss).map λo=>o.2*((ug D d m).map λr=>r.2*DF k (bV r.1 o.1)).sum).sum=(ss.map λo=>((ug D d m).map λr=>r.2*DF k (bV r.1 o)).sum).sum:=(sP ss).2.2 λ(o:List Int)=>((ug D d m).map λ(r:List Int×Int)=>r.2*DF k (bV r.1 o)).sum;rw[e1,e2,yR (λ(o:List Int) (r:List Int×Int)=>r.2*DF k (bV r.1 o)) ss (ug D d m),pF,WW];rfl
theorem Dr (d:Nat)(k:List Int):fZ (bj m ss) k d=(m.map λp=>(ss.map λo=>p.2 d*DF k (bV p.1 o)).sum).sum:=by
 unfold fZ bj;rw[sQ];congr 1;apply W3;intro p _;rw[WW];congr 1;apply W3;intro o _;show (if bV p.1 o=k then p.2 d else 0)=p.2 d*DF k (bV p.1 o);unfold DF;split
 ·rw[Int.mul_one]
 ·rw[Int.mul_zero]
theorem Qq (hm:pE n nd D m)(hs:Sf n ss)(d:Nat)(k:List Int):iB (G1 D m ss d) k*D=fZ (bj m ss) k d*(d6 D d m:Int):=by
 rw[Nv hm hs,Dr,kO,kO];congr 1;apply W3;intro p hp;rw[kO,kO];congr 1;apply W3;intro o _;have:=(K7 hm d hp).2;rw[Xo,Y_ (DF _ _) D,←Xo,this,Xo,Y_ (d6 D d m:Int),←Xo]
theorem Qr (hm:pE n nd D m)(hs:Sf n ss)(d:Nat)(k:List Int):bC (iB (G1 D m ss d) k) ((d6 D d m:Int)*(ss.length:Nat))=bC (fZ (bj m ss) k d) (D*(ss.length:Nat)):=by
 obtain⟨_,gp,_⟩:=GX hm hs d;obtain⟨bp,_⟩:=sZ hm d;have l1:=hs.l1;refine Ap (wQ gp k) (Z7 (by lia) (by lia)) (qz (λx hx=>(iY hm hs x hx).2) k d) (Z7 hm.d0 (by lia)) ?_;rw[←Xo,Qq hm hs,Xo]
theorem wR (d:Nat)(k:List Int):k∈(G1 D m ss d).map (·.1)↔k∈bJ (bj m ss):=by
 have ck:∀o,o∈ss->∃p∈df ss,p.1=o:=λo ho=>by
  have:o∈(df ss).map (·.1):=by
   unfold df;rw[s9];refine (jw _ _ _).mpr (.inr ?_);rw[WW];exact WN.mpr ⟨o,ho,rfl⟩
  obtain⟨p,hp,e⟩:=WN.mp this;exact⟨p,hp,e⟩
 unfold G1;rw[s9,jw,de];constructor
 ·rintro (z|z)
  ·cases z
  ·obtain⟨x,hx,rfl⟩:=WN.mp z;unfold f6 at hx;obtain⟨o,ho,hx⟩:=YO.mp hx;obtain⟨r,hr,rfl⟩:=WN.mp hx;rw[pF] at hr;obtain⟨p,hp,rfl⟩:=WN.mp hr;exact WN.mpr ⟨(bV p.1 o.1,p.2),YO.mpr ⟨p,hp,WN.mpr ⟨o.1,wO ho,rfl⟩⟩,rfl⟩
 ·intro z;obtain⟨x,hx,rfl⟩:=WN.mp z;unfold bj at hx;obtain⟨p,hp,hx⟩:=YO.mp hx;obtain⟨o,ho,rfl⟩:=WN.mp hx;obtain⟨q,hq,rfl⟩:=ck o ho;refine .inr (WN.mpr ⟨(bV p.1 q.1,Vp D (d6 D d m) d p*q.2),?_,rfl⟩);unfold f6;refine YO.mpr ⟨q,hq,WN.mpr ⟨(p.1,Vp D (d6 D d m) d p),?_,rfl⟩⟩;rw[pF];exact WN.mpr ⟨p,hp,rfl⟩
theorem GY (hm:pE n nd D m):(cY (gy (yS nd D m ss))).Perm (bJ (bj m ss)):=by
 refine (abW (l8 _ _ Y9) (kN _)).mpr λk=>?_;rw[jw];unfold gy yS;constructor
 ·rintro (z|z)
  ·cases z
  ·obtain⟨x,hx,hk⟩:=YO.mp z;obtain⟨d,_,rfl⟩:=WN.mp hx;exact (wR d k).mp hk
 ·intro z;exact .inr (YO.mpr ⟨Rt D m ss 0,WN.mpr ⟨0,Xv.mpr hm.n1,rfl⟩,(wR 0 k).mpr z⟩)
theorem SO (hm:pE n nd D m)(hs:Sf n ss)(hl:ss.length*m.length<=1000):Qo (yS nd D m ss):=by
 have l1:=hs.l1;have l2:=hs.l2;have d1:=hm.d1;have n2:=hm.n2;refine⟨λx hx=>?_,by unfold yS;rw[Ww,Xf];exact n2,?_⟩
 ·obtain⟨d,_,rfl⟩:=WN.mp hx;obtain⟨_,gp,_⟩:=GX hm hs d;obtain⟨bp,bl⟩:=sZ hm d;have D1:0<(d6 D d m:Int)*(ss.length:Nat):=Z7 (by lia) (by lia);have D2:(d6 D d m:Int)*(ss.length:Nat)<=400000*24:=abg (by lia) (by lia) (by lia) (by decide);have kk:=λk=>wR (D:=D) (m:=m) (ss:=ss) d k;refine⟨λe=>?_,?_,gp,D1,(by show (d6 D d m:Int)*(ss.length:Nat)<=_;lia),λp hp e=>?_⟩
  ·obtain⟨x,F',ef⟩:∃x F',bj m ss=x::F':=by
    cases hq:bj m ss with
    |nil=>exact absurd hq (qA hm hs)
    |cons x F'=>exact⟨x,F',rfl⟩
   have:=(kk x.1).mpr (de.mpr (by rw[ef];exact WM));have e':G1 D m ss d=[]:=e;rw[e'] at this;cases this
  ·show (G1 D m ss d).length<=2000;have h1:=j1 (f6 (ug D d m) (df ss));rw[vc] at h1;have h2:(df ss).length*(ug D d m).length<=ss.length*m.length:=abf (B6 ss) (by rw[pF,Ww];exact WK _);unfold G1;lia
  ·have:=(kk p.1).mp (XB hp);obtain⟨x,hx,ex⟩:=WN.mp (de.mp this);have:=(iY hm hs x hx).1;rw[ex,e] at this;have:=hs.n1;simp at *;lia
 ·rw[(GY hm).length_eq];have:=jx (bj m ss);rw[jy,Yb] at this;lia
theorem GZ (hm:pE n nd D m)(hs:Sf n ss)(hl:ss.length*m.length<=1000):∃o3 o4,eF (bw 3) eZ (av 0 nd) [some (fR nd D m),some (SU ss),some (.lst []),none,none]=.nx [some (fR nd D m),some (SU ss),some (.lst ((yS nd D m ss).map p8)),o3,o4]:=by
 have sz:WC=16777216:=rfl;have n2:=hm.n2;have d1:=hm.d1;have l2:=hs.l2;have lS:iN [SU ss]=.ok (.int (ss.length:Nat)):=by unfold SU;rw[nZ,Ww]
 obtain⟨ρ,e,o3,o4,rfl⟩:=bx (us:=av 0 nd) (sg:=bw 3) (s:=eZ)
  (λi ρ=>∃o3 o4,ρ=[some (fR nd D m),some (SU ss),some (.lst ((yS i D m ss).map p8)),o3,o4])
  (λi u ρ hu h00=>by
   obtain⟨o3,o4,hr⟩:=h00;subst hr;have hi:i<nd:=by
    rcases YM i nd with y|y
    ·exact y
    ·rw[Xw.mpr (by rw[aI];exact y)] at hu;cases hu
   obtain rfl:u=.int (i:Nat):=by
    rw[eY] at hu;unfold aU at hu;rw[WW,WQ,Yt hi] at hu;cases hu;rfl
   obtain⟨bp,bl⟩:=sZ hm i;have ww:=Qm hm hi;have wl:(ug D i m).length=m.length:=by rw[pF,Ww]
   have sp:=Dq (W:=ug D i m) (λe=>hm.ne (by rw[pF] at e;exact List.map_eq_nil_iff.mp e)) (by rw[wl];exact hm.ln) (n:=n) (λr hr=>by
    rw[pF] at hr;obtain⟨p,hp,rfl⟩:=WN.mp hr;exact (hm.el p hp).1) hs (by rw[wl];lia)
   have cm:i7 (d6 D i m:Int) ((ss.length:Nat):Int)=true:=jL (by lia) (by lia);have z:((yS i D m ss).map p8).length<WC:=by unfold yS;rw[Ww,Ww,Xf];lia
   have ef:yS (i+1) D m ss=yS i D m ss++[Rt D m ss i]:=by unfold yS;rw[abQ,WR];rfl
   rw[ef];have h0:je (.tup [DU (ug D i m),.int (d6 D i m)]) (.int 0)=.ok (DU (ug D i m)):=by rw[rC,show (0:Int)=((0:Nat):Int) from rfl,j4];rfl
   have h1:je (.tup [DU (ug D i m),.int (d6 D i m)]) (.int 1)=.ok (.int (d6 D i m)):=by rw[rC,show (1:Int)=((1:Nat):Int) from rfl,j4];rfl
   refine⟨[some (fR nd D m),some (SU ss),some (.lst ((yS i D m ss).map p8)),some (.int (i:Nat)),o4],[some (fR nd D m),some (SU ss),some (.lst ((yS i D m ss++[Rt D m ss i]).map p8)),some (.int (i:Nat)),some (.tup [DU (ug D i m),.int (d6 D i m)])],rfl,.inl ?_,_,_,rfl⟩;unfold eZ;simp only[Pzz,cg,Nat.reduceAdd,Nat.reduceSub,ww,h0,h1,sp,lS,cm,B7,z];simp only[WR];rfl)
  (ρ:=[some (fR nd D m),some (SU ss),some (.lst []),none,none]) ⟨_,_,rfl⟩
 rw[aI] at e;exact⟨o3,o4,e⟩
theorem yT (hm:pE n nd D m)(hs:Sf n ss)(hl:ss.length*m.length<=1000):cA [fR nd D m,SU ss]=.ok (fR nd (D*(ss.length:Nat)) (eN (bj m ss))):=by
 obtain⟨o3,o4,e⟩:=GZ hm hs hl;have so:=B8 (SO hm hs hl);have dn:=Qp hm;have fin:U.tup ((dO (cY (gy (yS nd D m ss)))).map (nv (yS nd D m ss)))=fR nd (D*(ss.length:Nat)) (eN (bj m ss)):=by
  unfold fR eN;rw[uf (GY hm),WW];congr 1;apply W3;intro k _;show nv (yS nd D m ss) k=pU nd (D*(ss.length:Nat)) (k,fZ (bj m ss) k);unfold nv pU wU yS;rw[WW];congr 4;apply W3;intro d _;show dW (bC (iB (G1 D m ss d) k) ((d6 D d m:Int)*(ss.length:Nat)))=_;rw[Qr hm hs]
 rw[fin] at so;unfold cA jb;simp only[Pzz,cg,Nat.reduceAdd,Nat.reduceSub,dn,e,sW,so,ow]
theorem G0 (hm:pE n nd D m)(hs:Sf n ss)(hl:ss.length*m.length<=1000)(hD:D*(ss.length:Nat)<=400000):pE n nd (D*(ss.length:Nat)) (eN (bj m ss)):=by
 have ks:(eN (bj m ss)).map (·.1)=dO (bJ (bj m ss)):=by unfold eN;rw[WW];exact List.map_id' _
 have kl:=jx (bj m ss);rw[jy,Yb] at kl;refine⟨λe=>?_,by rw[ks];exact (aZ _).symm.nodup (kN _),λp hp=>?_,?_,Z7 hm.d0 (by have:=hs.l1;lia),hD,hm.n1,hm.n2⟩
 ·rw[e] at ks;have h1:=(aZ (bJ (bj m ss)));rw[←ks] at h1;have h2:=List.nil_perm.mp h1;obtain⟨x,F',ef⟩:∃x F',bj m ss=x::F':=by
   cases hq:bj m ss with
   |nil=>exact absurd hq (qA hm hs)
   |cons x F'=>exact⟨x,F',rfl⟩
  have:x.1∈bJ (bj m ss):=de.mpr (by rw[ef];exact WM);rw[h2] at this;cases this
 ·unfold eN at hp;obtain⟨k,hk,rfl⟩:=WN.mp hp;obtain⟨x,hx,rfl⟩:=WN.mp (de.mp ((aZ _).mem_iff.mp hk));exact⟨(iY hm hs x hx).1,qz (λx hx=>(iY hm hs x hx).2) _⟩
 ·unfold eN;rw[Ww,(aZ _).length_eq];lia
end
theorem Nw {k:Bool}:EG [.bl k]=.ok (.int (if k then 1 else 0)):=nr rfl
noncomputable def un (k j:Nat):Int:=if j=k then 1 else 0
noncomputable def F0 (rows:List (List Int)):Fs:=(WY rows.length).map λk=>(rows.getD k [],un k)
theorem yU {α β:Type}(f:α->β)(z:α)(l:List α):l.map f=(WY l.length).map λd=>f (l.getD d z):=by
 apply List.ext_getElem
 ·rw[Ww,Ww,Xf]
 ·intro i h1 h2;rw[Ww] at h1;rw[List.getElem_map,List.getElem_map,List.getElem_range,Yf,Wx h1];rfl
theorem Au (rows:List (List Int)):(F0 rows).map (·.1)=rows:=by
 unfold F0;rw[WW];have:=yU (λx:List Int=>x) [] rows;rw[List.map_id'] at this;exact this.symm
theorem G2 (rows:List (List Int)):(F0 rows).length=rows.length:=by unfold F0;rw[Ww,Xf]
theorem K8 (rows:List (List Int)):∀x∈F0 rows,∀d,0<=x.2 d:=λx hx d=>by
 unfold F0 at hx;obtain⟨k,_,rfl⟩:=WN.mp hx;show 0<=un k d;unfold un;split<;>decide
theorem G3 {x:List Int×(Nat->Int)}(hx:x∈F0 rows):x.1∈rows:=by
 have:=XB (f:=λy:List Int×(Nat->Int)=>y.1) hx
 rwa [Au] at this
theorem B9 (g:Nat->Int)(d:Nat):∀N:Nat,((WY N).map λi=>if d=i then g i else 0).sum=if d<N then g d else 0
 |0=>by rw[hV (by lia)];rfl
 |N+1=>by
  rw[abQ,WR,abO,B9 g d N,WB,XX,Xp,List.sum_nil,abo];by_cases c:d=N
  ·subst c;rw[hV (by lia),hZ rfl,hZ (by lia),ab_]
  ·rw[hV c,abo];by_cases c2:d<N
   ·rw[hZ c2,hZ (by lia)]
   ·rw[hV c2,hV (by lia)]
theorem JE {k:List Int}{d:Nat}(hd:d<rows.length):fZ (F0 rows) k d=if rows.getD d []=k then 1 else 0:=by
 unfold fZ F0;rw[WW];have e:(WY rows.length).map ((λx:List Int×(Nat->Int)=>if x.1=k then x.2 d else 0)∘λi=>(rows.getD i [],un i))=(WY rows.length).map λi=>if d=i then (if rows.getD i []=k then (1:Int) else 0) else 0:=by
  apply W3;intro i _;show (if rows.getD i []=k then un i d else 0)=_;unfold un;by_cases c:d=i
  ·rw[hZ c,hZ c]
  ·rw[hV c,hV c];split<;>rfl
 rw[e,B9 _ d,hZ hd]
theorem Qs (k j:Nat):bC (un k j) 1=(un k j,1):=by
 unfold un;split
 ·decide
 ·decide
structure JF (n:Nat)(rows:List (List Int)):Prop where
 n1:1<=n
 n8:n<=8
 l:∀r∈rows,r.length=n
 l1:1<=rows.length
 l2:rows.length<=4
theorem Qt (h:JF n rows):∀r∈rows,r≠[]:=λr hr e=>by
 have:=h.l r hr;rw[e] at this;have:=h.n1;simp at *;lia
theorem Ds (h:JF n rows)(hk:k<rows.length)(hF:F.length<1000) :
  dZ [some (.lst (rows.map ao)),some (.lst (F.map (pU rows.length 1))),some (.int (k:Nat))]=.nx [some (.lst (rows.map ao)),some (.lst ((F++[(rows.getD k [],un k)]).map (pU rows.length 1))),some (.int (k:Nat))]:=by
 have sz:WC=16777216:=rfl;have l2:=h.l2;have ix:je (.lst (rows.map ao)) (.int (k:Nat))=.ok (ao (rows.getD k [])):=by
  rw[Bx,j4,WQ,Yf,Wx hk];rfl
 have ln:iN [.lst (rows.map ao)]=.ok (.int (rows.length:Nat)):=by rw[vN,Ww]
 have el:=cy (f:=uF [none,some 2] (bw 0) cK (cx (ae (i5 EG (ae (aY (lX id) (af 0) (af 1)) ak)) (ae (gC (.int 1)) ak))) [some (.lst (rows.map ao)),some (.lst (F.map (pU rows.length 1))),some (.int (k:Nat))]) (c:=λj:Nat=>U.int (j:Nat)) (g:=λj=>dW (bC (un k j) 1)) (xs:=WY rows.length) λj _=>by
  have e:(if id ((j:Int)==(k:Int))=true then (1:Int) else 0)=un k j:=by
   unfold un;by_cases c:j=k
   ·subst c;rw[hZ rfl,hZ (by simp)]
   ·rw[hV c,hV (by simp;lia)]
  rw[Qs];unfold dW;simp only[Pzz,cg,Nat.reduceAdd,Nat.reduceSub,Nw,e]
 have z1:((WY rows.length).map λj=>dW (bC (un k j) 1)).length<=WC:=by rw[Ww,Xf];lia
 have z2:(F.map (pU rows.length 1)).length<WC:=by rw[Ww];lia
 unfold dZ;simp only[Pzz,cg,Nat.reduceAdd,Nat.reduceSub,ix,ln,fD rows.length (by lia),nj,el,z1,B7,z2];simp only[WR];rfl
theorem B_ (h:JF n rows):dG [.lst (rows.map ao)]=.ok (fR rows.length 1 (eN (F0 rows))):=by
 have l1:=h.l1;have l2:=h.l2;have fl:=G2 rows;have po:=As (nd:=rows.length) (D:=1) (by lia) (by decide) (by decide) (F:=F0 rows) (λe=>by rw[e] at fl;simp at fl;lia) (by lia) (K8 rows) (λx hx=>Qt h _ (G3 hx));have ln:iN [.lst (rows.map ao)]=.ok (.int (rows.length:Nat)):=by rw[vN,Ww]
 obtain⟨ρ,e,o2,rfl⟩:=bx (us:=av 0 rows.length) (sg:=bw 2) (s:=dZ)
  (λi ρ=>∃o2,ρ=[some (.lst (rows.map ao)),some (.lst (((WY i).map λk=>(rows.getD k [],un k)).map (pU rows.length 1))),o2])
  (λi u ρ hu h00=>by
   obtain⟨o2,hr⟩:=h00;subst hr;have hi:i<rows.length:=by
    rcases YM i rows.length with y|y
    ·exact y
    ·rw[Xw.mpr (by rw[aI];exact y)] at hu;cases hu
   obtain rfl:u=.int (i:Nat):=by
    rw[eY] at hu;unfold aU at hu;rw[WW,WQ,Yt hi] at hu;cases hu;rfl
   have q:=Ds h hi (F:=(WY i).map λk=>(rows.getD k [],un k)) (by rw[Ww,Xf];lia);rw[abQ,WR];exact⟨_,_,rfl,.inl q,_,rfl⟩)
  (ρ:=[some (.lst (rows.map ao)),some (.lst []),none]) ⟨_,rfl⟩
 rw[aI] at e;have e':eF (bw 2) dZ (av 0 rows.length) [some (.lst (rows.map ao)),some (.lst []),none]=.nx [some (.lst (rows.map ao)),some (.lst ((F0 rows).map (pU rows.length 1))),o2]:=e;unfold dG jX;simp only[Pzz,cg,Nat.reduceAdd,Nat.reduceSub,ln,fD rows.length (by lia),e',sW,po,ow]
noncomputable def L0 (rows:List (List Int)):Dl:=rows.map λr=>([(r,1)],1)
theorem wV:∀rows:List (List Int),gy (L0 rows)=rows
 | []=>rfl
 |r::rows=>by
  have:=wV rows;unfold gy L0 at this ⊢;rw[WB,Yy,this];rfl
theorem G4 (r k:List Int):iB [(r,1)] k=if r=k then 1 else 0:=by
 rw[g8];by_cases c:r=k
 ·rw[hZ c,hZ c]
 ·rw[hV c,hV c];rfl
theorem SQ {i:Int}{ks:List Int}(h:ρ[j]? = some (some (ao ks))):N7 j i ρ=.ok (.dct [ao ks] [.int i],ρ):=by
 unfold N7;rw[h];unfold ao;dsimp only;exact hZ (sV ks)
theorem Qu (h:JF n rows):Qo (L0 rows):=by
 have l2:=h.l2;refine⟨λx hx=>?_,by unfold L0;rw[Ww];exact l2,?_⟩
 ·obtain⟨r,hr,rfl⟩:=WN.mp hx;refine⟨List.cons_ne_nil _ _,by simp,λp hp=>?_,(show (0:Int)<1 by decide),(show (1:Int)<=10000000 by decide),λp hp=>?_⟩
  ·rw[W0.mp hp];exact (show (0:Int)<=1 by decide)
  ·rw[W0.mp hp];exact Qt h r hr
 ·rw[wV];have:=sY rows [];unfold cY;simp at this ⊢;lia
theorem G5 (h:JF n rows)(hu:∀ρ,pO u ρ=.ok (rows.map ao,ρ)):k9 [u]=.ok (fR rows.length 1 (eN (F0 rows))):=by
 have l2:=h.l2;have so:=B8 (Qu h);have el:=cy (f:=uF [none] (bw 0) cK (cx (ae (N7 0 1) (ae (gC (.int 1)) ak))) [some u]) (c:=ao) (g:=λr=>p8 ([(r,1)],1)) (xs:=rows) λr _=>by
  have d:=SQ (j:=0) (i:=1) (ks:=r) (ρ:=[some (ao r)]) rfl;simp only[Pzz,cg,Nat.reduceAdd,Nat.reduceSub,d];rfl
 have sz:(rows.map λr=>p8 ([(r,1)],1)).length<=WC:=by
  have:WC=16777216:=rfl;rw[Ww];lia
 have e0:(L0 rows).map p8=rows.map λr=>p8 ([(r,1)],1):=by unfold L0;rw[WW];rfl
 rw[e0] at so;have fin:U.tup ((dO (cY (gy (L0 rows)))).map (nv (L0 rows)))=fR rows.length 1 (eN (F0 rows)):=by
  unfold fR eN bJ;rw[wV,Au,WW];congr 1;apply W3;intro k _;show nv (L0 rows) k=pU rows.length 1 (k,fZ (F0 rows) k);unfold nv pU wU L0;rw[WW,yU _ [] rows];congr 4;apply W3;intro d hd;show dW (bC (iB [(rows.getD d [],1)] k) 1)=dW (bC (fZ (F0 rows) k d) 1);rw[JE (Xv.mp hd),G4]
 rw[fin] at so;unfold k9 wc;simp only[Pzz,cg,Nat.reduceAdd,Nat.reduceSub,hu,el,sz,so]
theorem JG (h:JF n rows):pE n rows.length 1 (eN (F0 rows)):=by
 have l1:=h.l1;have l2:=h.l2;have ks:(eN (F0 rows)).map (·.1)=dO (bJ (F0 rows)):=by unfold eN;rw[WW];exact List.map_id' _
 have kl:=jx (F0 rows);rw[G2] at kl;refine⟨λe=>?_,by rw[ks];exact (aZ _).symm.nodup (kN _),λp hp=>?_,?_,by decide,by decide,l1,l2⟩
 ·rw[e] at ks;have h1:=(aZ (bJ (F0 rows)));rw[←ks] at h1;have h2:=List.nil_perm.mp h1;have:rows[0]∈bJ (F0 rows):=de.mpr (by rw[Au];exact Xh _);rw[h2] at this;cases this
 ·unfold eN at hp;obtain⟨k,hk,rfl⟩:=WN.mp hp;obtain⟨x,hx,rfl⟩:=WN.mp (de.mp ((aZ _).mem_iff.mp hk));exact⟨h.l x.1 (G3 hx),qz (K8 rows) _⟩
 ·unfold eN;rw[Ww,(aZ _).length_eq];lia
theorem oy {α:Type}{f:α->U}{g:α->D}(h:∀x,nR (f x)=some (g x)):∀l:List α,j8 (l.map f)=some (l.map g)
 | []=>by unfold j8;rfl
 |x::l=>by rw[WB];unfold j8;rw[h x,oy h l];rfl
theorem l9 {α:Type}{g:α->D}{c:Nat}(h:∀x,dg (g x)<=c):∀l:List α,g9 (l.map g)<=c
 | []=>by rw[XX];unfold g9;exact Ys _
 |x::l=>by
  rw[WB];unfold g9;have:=h x;have:=l9 h l;lia
noncomputable def N9 (p:Int×Int):D:=.tup [.int p.1,.int p.2]
noncomputable def wD (nd:Nat)(D0:Int)(w:Nat->Int):D:=.tup ((WY nd).map λd=>N9 (bC (w d) D0))
noncomputable def pD (nd:Nat)(D0:Int)(p:List Int×(Nat->Int)):D:=.tup [.tup (p.1.map .int),wD nd D0 p.2]
theorem Qv (p:Int×Int):nR (dW p)=some (N9 p)/\dg (N9 p)<=1:=by
 unfold dW N9;constructor
 ·simp only[nR,j8,Option.map_some,Option.bind_some]
 ·simp only[dg,g9];lia
theorem U1 (nd:Nat)(D0:Int)(w:Nat->Int):nR (wU nd D0 w)=some (wD nd D0 w)/\dg (wD nd D0 w)<=2:=by
 unfold wU wD;constructor
 ·unfold nR;rw[oy (g:=λd=>N9 (bC (w d) D0)) λd=>(Qv _).1];rfl
 ·unfold dg;have:=l9 (g:=λd=>N9 (bC (w d) D0)) (λd=>(Qv _).2) (WY nd);lia
theorem T_ (nd:Nat)(D0:Int)(p:List Int×(Nat->Int)):nR (pU nd D0 p)=some (pD nd D0 p)/\dg (pD nd D0 p)<=3:=by
 obtain⟨h1,h2⟩:=U1 nd D0 p.2;have h3:=zO p.1;unfold pU pD ao;constructor
 ·simp only[nR,j8,C3,h1,Option.map_some,Option.bind_some]
 ·simp only[dg,g9,h3];lia
theorem K9 (nd:Nat)(D0:Int)(m:Fs):ED (fR nd D0 m) (fR nd D0 m)=.ok true:=by
 have h2:nR (fR nd D0 m)=some (.tup (m.map (pD nd D0))):=by
  unfold fR nR;rw[oy λp=>(T_ nd D0 p).1];rfl
 unfold ED;rw[h2];dsimp only;rw[hZ (by unfold dg;have:=l9 (λp=>(T_ nd D0 p).2) m;lia),qQ]
theorem Ny {s:U}(h:nE s)(h1:m<=1000):∃(row:List Int) (s':U),eC [s,.int m]=.ok (.tup (row.map .int),s')/\row.length=m/\(∀c∈row,0<=c/\c<10)/\nE s':=by
 obtain⟨way,s1,e1,w0,w1,Lh⟩:=fh (m:=4) h (by decide) (by decide);have key:∀(js:List (Option Nat)) (ge:Ev->R (U×Ev)) (s1:U),nE s1->(∀u s,nE s->∃ρi r ρi' s',bw 0 u (jj js [some s,some (.int m),some (.int way)])=.ok ρi/\ge ρi=.ok (.int r,ρi')/\wb fG js ρi' [some s,some (.int m),some (.int way)]=[some s',some (.int m),some (.int way)]/\0<=r/\r<10/\nE s')->
   ∃(row:List Int) (s':U),nQ fG js (bw 0) cK ge (av 0 m) [some s1,some (.int m),some (.int way)]=.ok (row.map .int,[some s',some (.int m),some (.int way)])/\row.length=m/\(∀c∈row,0<=c/\c<10)/\nE s':=by
  intro js ge s1 mj QY;obtain⟨ys,s',e,l,row,hr,hc,hs'⟩:=kC (G:=fG) (js:=js) (sg:=bw 0) (ge:=ge) (λs:U=>[some s,some (.int m),some (.int way)]) m (λys s=>∃row:List Int,ys=row.map .int/\(∀c∈row,0<=c/\c<10)/\nE s)
   (λdone u s _ h00=>by
    obtain⟨row,hr,hc,hs⟩:=h00;obtain⟨ρi,r,ρi',s',a1,a2,a3,a4,a5,a6⟩:=QY u s hs;refine⟨ρi,.int r,ρi',s',a1,a2,a3,row++[r],by rw[hr,WR];rfl,λc Rv=>?_,a6⟩;rcases Xa.mp Rv with z|z
    ·exact hc c z
    ·rw[W0.mp z];exact⟨a4,a5⟩) (av 0 m) [] s1 (by rw[aI];simp) ⟨[],rfl,(λc hc=>by cases hc),mj⟩
  rw[aI] at l;refine⟨row,s',by rw[e,←hr];rfl,?_,hc,hs'⟩;have:=congrArg List.length hr;simp at this;lia
 by_cases c:way<2
 ·obtain⟨row,s',a1,a2,a3,a4⟩:=key [none,some 0] (qj 2 1 aw (ae (gC (.int 2)) ak)) s1 Lh λu s hs=>by
   obtain⟨r,s',b1,b2,b3,b4⟩:=fh (m:=2) hs (by decide) (by decide);refine⟨[some u,some s],r,[some u,some s'],s',rfl,?_,rfl,b2,by lia,b4⟩;simp only[Pzz,cg,Nat.reduceAdd,Nat.reduceSub,b1]
  refine⟨row,s',?_,a2,a3,a4⟩;simp only[Pzz,cg,Nat.reduceAdd,Nat.reduceSub,eC,jU,e1,hG c,fD m (by lia),a1]
 ·have V2:∃z:Int,my [U.int 3,U.int 10] (way-2)=some (.int z)/\0<z/\z<=10:=by
   by_cases e:way=2
   ·subst e;exact⟨3,rfl,by decide,by decide⟩
   ·have e:way=3:=by lia
    subst e;exact⟨10,rfl,by decide,by decide⟩
  obtain⟨z,hz,z0,z1⟩:=V2;obtain⟨row,s',a1,a2,a3,a4⟩:=key [none,some 0,some 2] (qj 2 1 aw (ae (aY je (gE (ae (gC (.int 3)) (ae (gC (.int 10)) ak))) (aY CD (af 2) (gC (.int 2)))) ak)) s1 Lh λu s hs=>by
   obtain⟨r,s',b1,b2,b3,b4⟩:=fh (m:=z) hs z0 (by lia);refine⟨[some u,some s,some (.int way)],r,[some u,some s',some (.int way)],s',rfl,?_,rfl,b2,by lia,b4⟩;simp only[Pzz,cg,Nat.reduceAdd,Nat.reduceSub,hz,b1]
  refine⟨row,s',?_,a2,a3,a4⟩;simp only[Pzz,cg,Nat.reduceAdd,Nat.reduceSub,eC,jU,e1,hJ c,fD m (by lia),a1]
open Hc.Cn Hc.Ts
theorem Nz:Rr i (.nx ρ)=.nx (ρ.set i none):=nr rfl
theorem Qw (m:Fs)(o:List Int):bj m [o]=m.map λp=>(bV p.1 o,p.2):=by
 unfold bj
 induction m with
 |nil=>rfl
 |cons p m ih=>rw[Yy,ih];rfl
theorem Qx (n1:1<=n)(n8:n<=8){s:U}(h:nE s):∃(ss:List (List Int)) (s':U),aK [s,.int n]=.ok (SU ss,s')/\Sf n ss/\nE s':=by
 obtain⟨oss,s',e,ho,l1,l2,hs⟩:=Am h n1 n8;exact⟨oss,s',e,⟨n1,n8,ho,l1,l2⟩,hs⟩
theorem NA (h:i<=4):(24:Int) ^ i<=400000:=by
 match i,h with
 |0,_=>decide
 |1,_=>decide
 |2,_=>decide
 |3,_=>decide
 |4,_=>decide
theorem Qy (hR:JF n rows){s:U}(hs:nE s){D:Int}{m:Fs}(hm:pE n rows.length D m)(hD:D<=24 ^ i){o8 o9:Option U} :
  ∃(s':U) (D':Int) (m':Fs) (o8' o9':Option U),kM [x0,x1,some s,some (.int n),some (.lst (rows.map ao)),some (fR rows.length D m),some (fR rows.length D m),o7,o8,o9]=.nx [x0,x1,some s',some (.int n),some (.lst (rows.map ao)),some (fR rows.length D' m'),some (fR rows.length D' m'),o7,o8',o9']/\nE s'/\(i<4->pE n rows.length D' m'/\D'<=24 ^ (i+1)):=by
 have n1:=hR.n1;have n8:=hR.n8;have ln:=hm.ln;have d0:=hm.d0;have bt:=G5 hR (u:=.tup (rows.map ao)) λρ=>rfl;have lb:=B_ hR;have Tq:=K9 rows.length D m;have Tr:=K9 rows.length 1 (eN (F0 rows));have ins:∀ρ,iR "tuple" (fR rows.length D m) ρ=.ok (.bl true,ρ):=λρ=>jM;have sb:∀ρ,pO (fR rows.length D m) ρ=.ok (m.map (pU rows.length D),ρ):=λρ=>rfl;have lS:iN [fR rows.length D m]=.ok (.int (m.length:Nat)):=by unfold fR;rw[nZ,Ww]
 obtain⟨t,s1,e1,t0,t1,h1⟩:=fh (m:=3) hs (by decide) (by decide);by_cases c:t=0
 ·subst c;obtain⟨os,s2,e2,ho,h2⟩:=sU (m:=n) h1 (by lia);have G9:bN [s1,.int n]=.ok (ao os,s2):=e2;have sf:Sf n [os]:=⟨n1,n8,(λo h=>by rw[W0.mp h];exact ho),by simp,by simp⟩;have hl:[os].length*m.length<=1000:=by simp;lia
  have ll:=Jz hm sf;have mx:=yT hm sf hl;have one:D*(([os].length:Nat):Int)=D:=by simp
  have ro:=G0 hm sf hl (by rw[one];exact hm.d1);rw[one] at mx ro;have el:=cy (f:=uF [none,none,some 8] (cf 2 (aD (bw 0) (aD (bw 1) cc))) cK (cx (ae (jh 2 cP (ae (af 0) (ae (af 2) ak))) (ae (af 1) ak))) [x0,x1,some s2,some (.int n),some (.lst (rows.map ao)),some (fR rows.length D m),some (fR rows.length D m),o7,some (ao os),o9]) (c:=pU rows.length D) (g:=λp=>pU rows.length D (bV p.1 os,p.2)) (xs:=m) λp hp=>by
   have lo:=qt (a:=p.1) (b:=os) (λi hi=>by rw[(hm.el p hp).1];exact wN ho i hi) (by rw[nu ho];lia);unfold pU;simp only[Pzz,cg,Nat.reduceAdd,Nat.reduceSub,DC,lo]
  have e0:(bj m [os]).map (pU rows.length D)=m.map λp=>pU rows.length D (bV p.1 os,p.2):=by rw[Qw,WW];rfl
  rw[e0] at ll;have sz:(m.map λp=>pU rows.length D (bV p.1 os,p.2)).length<=WC:=by
   have:WC=16777216:=rfl;rw[Ww];lia
  have V3:cA [fR rows.length D m,.tup [ao os]]=.ok (fR rows.length D (eN (bj m [os]))):=mx;have ld:gO [fR rows.length D m,ao os]=.ok (fR rows.length D (eN (bj m [os]))):=by
   unfold gO jR;simp only[Pzz,cg,Nat.reduceAdd,Nat.reduceSub,V3]
  have b0:((0:Int)==0)=true:=rfl;refine⟨s2,D,eN (bj m [os]),some (ao os),o9,?_,h2,λ_=>⟨ro,?_⟩⟩
  ·unfold kM;simp only[Pzz,cg,Nat.reduceAdd,Nat.reduceSub,ins,Tq,bt,lb,Tr,e1,b0,id_eq,G9,sb,el,sz,ll,ld]
  ·rw[Int.pow_succ];lia
 ·have b0:(t==(0:Int))=false:=beq_eq_false_iff_ne.mpr c;by_cases c2:m.length<40
  ·obtain⟨ss,s2,e2,sf,h2⟩:=Qx n1 n8 h1;have l1:=sf.l1;have l2:=sf.l2;have hl:ss.length*m.length<=1000:=by
    have:ss.length*m.length<=24*39:=abf l2 (by lia);lia
   have lm:=Dn hm sf (by rw[Yb];lia);have mx:=yT hm sf hl;have d2:decide (((m.length:Nat):Int)<40)=true:=hG (by lia);have Hw:D*(ss.length:Nat)<=24 ^ (i+1):=by
    rw[Int.pow_succ];exact abg hD (by lia) (by lia) (by lia)
   refine⟨s2,D*(ss.length:Nat),eN (bj m ss),o8,some (SU ss),?_,h2,λh4=>⟨G0 hm sf hl (Int.le_trans Hw (NA (by lia))),Hw⟩⟩;unfold kM;simp only[Pzz,cg,Nat.reduceAdd,Nat.reduceSub,ins,Tq,bt,lb,Tr,e1,b0,id_eq,lS,d2,e2,lm,mx]
  ·have d2:decide (((m.length:Nat):Int)<40)=false:=hJ (by lia);refine⟨s1,D,m,o8,o9,?_,h1,λh4=>⟨hm,?_⟩⟩
   ·unfold kM;simp only[Pzz,cg,Nat.reduceAdd,Nat.reduceSub,ins,Tq,bt,lb,Tr,e1,b0,id_eq,lS,d2]
   ·rw[Int.pow_succ];lia
theorem JH (hR:JF n rows){s:U}(hs:nE s){o8 o9:Option U} :
  ∃a2 a5 a6 a7 a8 a9:Option U,eF (bw 7) kM (av 0 5) [x0,x1,some s,some (.int n),some (.lst (rows.map ao)),some (fR rows.length 1 (eN (F0 rows))),some (fR rows.length 1 (eN (F0 rows))),o7,o8,o9]=.nx [x0,x1,a2,some (.int n),some (.lst (rows.map ao)),a5,a6,a7,a8,a9]:=by
 obtain⟨ρ,e,s',D,m,o7',o8',o9',rfl,_⟩:=bx (us:=av 0 5) (sg:=bw 7) (s:=kM)
  (λi ρ=>∃(s:U) (D:Int) (m:Fs) (o7 o8 o9:Option U),ρ=[x0,x1,some s,some (.int n),some (.lst (rows.map ao)),some (fR rows.length D m),some (fR rows.length D m),o7,o8,o9]/\nE s/\(i<5->pE n rows.length D m/\D<=24 ^ i))
  (λi u ρ hu h00=>by
   obtain⟨s,D,m,o7,o8,o9,hr,hs,hm⟩:=h00;subst hr;have hi:i<5:=by
    rcases YM i 5 with y|y
    ·exact y
    ·rw[Xw.mpr (by rw[aI];exact y)] at hu;cases hu
   obtain⟨m1,m2⟩:=hm hi;obtain⟨s',D',m',o8',o9',q,hs',hm'⟩:=Qy hR (i:=i) hs m1 m2 (x0:=x0) (x1:=x1) (o7:=some u) (o8:=o8) (o9:=o9);exact⟨_,_,rfl,.inl q,s',D',m',_,_,_,rfl,hs',λh=>hm' (by lia)⟩)
  (ρ:=[x0,x1,some s,some (.int n),some (.lst (rows.map ao)),some (fR rows.length 1 (eN (F0 rows))),some (fR rows.length 1 (eN (F0 rows))),o7,o8,o9]) ⟨_,_,_,_,_,_,rfl,hs,λ_=>⟨JG hR,by decide⟩⟩
 exact⟨_,_,_,_,_,_,e⟩
theorem Qz {x2 x3 x4 x5 x6 x7 x8 x9:Option U}:∃a2 a3 a4 a5 a6 a7 a8 a9:Option U,sL [some (.scr (ns.map .int)),some (.int i),x2,x3,x4,x5,x6,x7,x8,x9]=.nx [some (.scr (ns.map .int)),some (.int i),a2,a3,a4,a5,a6,a7,a8,a9]:=by
 have sz:WC=16777216:=rfl;obtain⟨s0,e0,h0⟩:=Gx (us:=[]) (u:=.scr (ns.map .int)) (ns:=ns) (k:=i) (.inl rfl) (by lia);obtain⟨t,s1,e1,t0,t1,h1⟩:=fh (m:=6) h0 (by decide) (by decide);obtain⟨n,hn⟩:∃n:Nat,1+t=n:=⟨(1+t).toNat,by lia⟩;obtain⟨t2,s2,e2,t20,t21,h2⟩:=fh (m:=3) h1 (by decide) (by decide);obtain⟨c,hc⟩:∃c:Nat,1+t2=c:=⟨(1+t2).toNat,by lia⟩;obtain⟨ys,s3,e3,ly,base,hy,hb,hs3⟩:=kC (G:=Gh) (js:=[none,some 2,some 3]) (sg:=bw 0) (ge:=qj 2 1 eC (ae (af 2) ak))
  (λx:U=>[some (.scr (ns.map .int)),some (.int i),some x,some (.int n),x4,x5,x6,x7,x8,x9]) c (λys x=>∃base:List (List Int),ys=base.map ao/\(∀b∈base,b.length=n)/\nE x)
  (λdone u x hd h00=>by
   obtain⟨base,hr,hb,hx⟩:=h00;obtain⟨row,x',f1,f2,_,qB⟩:=Ny (m:=n) hx (by lia);refine⟨[some u,some x,some (.int n)],ao row,[some u,some x',some (.int n)],x',rfl,?_,(by cases x4<;>rfl),base++[row],by rw[hr,WR];rfl,?_,qB⟩
   ·have V4:eC [x,.int n]=.ok (ao row,x'):=f1;simp only[Pzz,cg,Nat.reduceAdd,Nat.reduceSub,V4]
   ·intro b V5;rcases Xa.mp V5 with y|y
    ·exact hb b y
    ·rw[W0.mp y];exact f2) (av 0 c) [] s2 (by rw[aI];simp) ⟨[],rfl,(λb h=>by cases h),h2⟩
 rw[YX] at hy;subst hy;rw[aI,Ww] at ly;have zb:(base.map ao).length<=WC:=by rw[Ww];lia
 obtain⟨t4,s4,e4,t40,t41,h4⟩:=fh (m:=2) hs3 (by decide) (by decide);have fin:∀rows:List (List Int),JF n rows->∃a2 a3 a4 a5 a6 a7 a8 a9:Option U,n0 4 (aP (ba 5 (jh 1 dG (ae (af 4) ak))) (aP (ba 6 (jh 1 k9 (ae (af 4) ak))) (i6 (eT (ae (gC (.int 5)) ak)) (bw 7) kM))) [some (.scr (ns.map .int)),some (.int i),some s4,some (.int n),some (.lst (rows.map ao)),x5,x6,x7,x8,x9]=.nx [some (.scr (ns.map .int)),some (.int i),a2,a3,a4,a5,a6,a7,a8,a9]:=λrows hR=>by
  obtain⟨a2,a5,a6,a7,a8,a9,q⟩:=JH hR h4 (x0:=some (.scr (ns.map .int))) (x1:=some (.int i)) (o7:=x7) (o8:=x8) (o9:=x9);have bt:=G5 hR (u:=.lst (rows.map ao)) λρ=>rfl;have lb:=B_ hR;have r5:∀ρ,IX [.int 5] ρ=.ok (av 0 5,ρ):=λρ=>fD 5 (by lia);refine⟨a2,some (.int n),none,a5,a6,a7,a8,a9,?_⟩;rw[sW];simp only[Pzz,cg,Nat.reduceAdd,Nat.reduceSub,lb,bt,r5,q,Nz]
 have l1:1<=base.length:=by lia
 have r0:je (.lst (base.map ao)) (.int 0)=.ok (ao base[0]):=by
  rw[Bx,show (0:Int)=((0:Nat):Int) from rfl,j4,WQ,Wx (by lia)];rfl
 have za:(base.map ao).length<WC:=by rw[Ww];lia
 by_cases c4:t4=1
 ·subst c4;obtain⟨a2,a3,a4,a5,a6,a7,a8,a9,q⟩:=fin (base++[base[0]]) ⟨by lia,by lia,λr hr=>by
   rcases Xa.mp hr with y|y
   ·exact hb r y
   ·rw[W0.mp y];exact hb _ (Xh _),by rw[WI];lia,by rw[WI,Ya];lia⟩
  have b1:((1:Int)==1)=true:=rfl;have ma:base.map ao++[ao base[0]]=(base++[base[0]]).map ao:=by rw[WR];rfl
  refine⟨a2,a3,a4,a5,a6,a7,a8,a9,?_⟩;unfold sL;simp only[Pzz,cg,Nat.reduceAdd,Nat.reduceSub,e0,e1,hn,e2,hc,fD c (by lia),e3,zb,e4,b1,id_eq,r0,B7,za,ma,q]
 ·obtain⟨a2,a3,a4,a5,a6,a7,a8,a9,q⟩:=fin base ⟨by lia,by lia,hb,l1,by lia⟩;have b1:(t4==(1:Int))=false:=beq_eq_false_iff_ne.mpr c4;refine⟨a2,a3,a4,a5,a6,a7,a8,a9,?_⟩;unfold sL;simp only[Pzz,cg,Nat.reduceAdd,Nat.reduceSub,e0,e1,hn,e2,hc,fD c (by lia),e3,zb,e4,b1,id_eq,q]
theorem pure_law (ns:List Int)(hl:ns.length<=63):yw [.scr (ns.map .int)]=.ok (.bl true):=by
 obtain⟨z,hz⟩:∃z:Nat,(if (if (6:Int)<(((ns.map U.int).length:Nat):Int) then 6 else (((ns.map U.int).length:Nat):Int))>1 then (if (6:Int)<(((ns.map U.int).length:Nat):Int) then 6 else (((ns.map U.int).length:Nat):Int)) else 1)=z:=⟨(if (if (6:Int)<(((ns.map U.int).length:Nat):Int) then 6 else (((ns.map U.int).length:Nat):Int))>1 then (if (6:Int)<(((ns.map U.int).length:Nat):Int) then 6 else (((ns.map U.int).length:Nat):Int)) else 1).toNat,by split<;>(try split)<;>lia⟩;have zb:z<=1000:=by split at hz<;>(try split at hz)<;>lia
 obtain⟨ρ',e,a1,a2,a3,a4,a5,a6,a7,a8,a9,rfl⟩:=bx (us:=av 0 z) (sg:=bw 1) (s:=sL) (λ_ ρ=>∃a1 a2 a3 a4 a5 a6 a7 a8 a9:Option U,ρ=[some (.scr (ns.map .int)),a1,a2,a3,a4,a5,a6,a7,a8,a9])
  (λi u ρ hu h00=>by
   obtain⟨a1,a2,a3,a4,a5,a6,a7,a8,a9,hr⟩:=h00;subst hr;have hi:i<z:=by
    rcases YM i z with y|y
    ·exact y
    ·rw[Xw.mpr (by rw[aI];exact y)] at hu;cases hu
   obtain rfl:u=.int i:=by
    rw[eY] at hu;unfold aU at hu;rw[WW,WQ,Yt hi] at hu;cases hu;rfl
   obtain⟨b2,b3,b4,b5,b6,b7,b8,b9,q⟩:=Qz (ns:=ns) (i:=i) (x2:=a2) (x3:=a3) (x4:=a4) (x5:=a5) (x6:=a6) (x7:=a7) (x8:=a8) (x9:=a9);exact⟨_,_,rfl,.inl q,_,_,_,_,_,_,_,_,_,rfl⟩)
  (ρ:=[some (.scr (ns.map .int)),none,none,none,none,none,none,none,none,none]) ⟨_,_,_,_,_,_,_,_,_,rfl⟩
 unfold yw Gi;simp only[Pzz,cg,Nat.reduceAdd,Nat.reduceSub,hz,fD z (by lia),e]
theorem walk {q:Zx}{d:DefRec}{K:Params->WD}(QE:d.params.defaults=[])(hY:∀(w:ZU) (h:Zv),YP w h->(K w.params).In h)(F:∀(w:ZU) (mg:Str->Option WG) (fa:W8) (h:Zv),(K w.params).In h->h.Ns XH mg->mg d.name=some (.ref fa)->
   ∃fd:aby,(∀(s:WT) (u:WG),BindsTo s fd ⟨[u],[]⟩ [("script",u)])/\∀base:Zv,(K w.params).In base->base.Ns XH mg->lq PySem.Challenge.rw_hushcards_k61_states_laid_and_mixed.prog w (K w.params) mg base xk 7 fa fd ["script"] (xB (K w.params))) :
  PySem.W.WalkO q loose XP YP PySem.Challenge.rw_hushcards_k61_states_laid_and_mixed.row.toRowW d [] (λf vs=>PySem.call f vs):=
 L2.walk_of (l:=PySem.Challenge.rw_hushcards_k61_states_laid_and_mixed) (n:=63) (k:=7) (x:="script") (CX:=λ_=>xk) (sp:=λw=>xB (K w.params)) rfl (by decide) QE ⟨rfl,by decide,by decide⟩ hY F (λ_ _ a ns hl hO hS=>⟨a,ns,rfl,Mo hO hS,hl,λ_=>rfl⟩) λ_ _ _ _ _ z=>z
end Hc
open PySem PySem.W PyProof.Rows
set_option maxRecDepth 100000 in
set_option maxHeartbeats 0 in
theorem PySem.Challenge.cw_hushcards_k61_states_laid_and_mixed_holds : PySem.Challenge.rw_hushcards_k61_states_laid_and_mixed.Holds := by
 w_on
 refine PySem.W.holds_law (by decide+kernel) λTt=>?_;refine' PySem.W.holds_open Hc.left (PySem.W.Hook.of _) (PySem.W.Hook.keeps _) (XP:=PySem.W.XL Hc.vw [])
  (λs e=>PySem.W.xl_of s (Bool.and_eq_true_iff.mp e).1) PySem.W.XL.keeps ?d ?t ?k
  (λs e=>PySem.W.recFacts_of (Bool.and_eq_true_iff.mp e).2) ?w Tt ?g ⟨rfl,rfl,rfl,rfl,rfl,by decide+kernel⟩ ?hw ?hc
 case d=>rfl
 case t=>rfl
 case k=>rfl
 case w=>rfl
 case g=>decide+kernel
 case hw=>w_witness2
 show PySem.W.WalkO Hc.vw [] (PySem.W.XL Hc.vw []) (PySem.W.InK Hc.Kf) _ _ _ _
 k_fill
 refine Hc.walk rfl (λw h Y=>Y) ?F
 case F=>
  intro w mg fa h KX G QF;refine' Hc.all_mk KX G QF ?_ ?_ ?_ ?_ ?_ ?_ ?_ ?_ ?_ ?_ ?_ ?_ ?_ ?_ ?_ ?_ ?_ ?_ ?_ ?_ ?_ ?_ ?_ ?_ ?_ ?_ ?_ ?_ ?_ ?_ ?_ ?_ ?_ ?_ ?_ ?_ ?_ ?_ ?_ Hc.pure_law
  all_goals first|k_is|exact .mk (by k_is) (by k_is) (by k_is) (by k_is)|skip