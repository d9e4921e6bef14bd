import PyProof.Rows.All
import Wide.All
import OpenK.AllK
import Wide.FinOn
import Lean
import PyProof.EqAt
import PyProof.EqKinds
import PyProof.TupleCall
import PyProof.NeKinds
import PyProof.TupleKey
import PyProof.DictRoadsH
import PySem.SetTable
import PyProof.SetRoads
import PyProof.DictKeyH
import PyProof.IsRules
import PyProof.Rows.SetFrom
import PyProof.WalksMore
import PyProof.ListMulRoad
import PyProof.FactsAll.subtypes_4
import PyProof.Rows.ListMulArg
import PyProof.ZipIter
import PyProof.DictItems
import PyProof.DictValues
import PyProof.DictWalks
import PyProof.FactsAll.dict_itemiterator
import PyProof.Rows.SortRuns
import PyProof.Rows.SortKey
import PyProof.Rows.SortShell
import PyProof.Rows.SortWalk
import KE.KSortTup
import KE.KDictList
import PyProof.AutoListH
import PyProof.SumWalk
import PyProof.WalkInts
import PySem.Challenge.RW_hushcards_k12_mixes_shuffled
abbrev hG:=@decide_eq_true
abbrev hJ:=@decide_eq_false
abbrev hV.{u}:=@if_neg.{u}
abbrev hZ.{u}:=@if_pos.{u}
set_option Elab.async false
set_option linter.all false
set_option maxRecDepth 100000
set_option maxHeartbeats 4000000
open PySem renaming wpAny_bind->Wy,wpAny_pure->WB,sizeLine->WJ,Value->WM,Shared->WY,wpAny->W4,starEach->W5,Addr->W7,model->Xg,wpAny_newObj_type->Xk,wpAny_call_entry->Xr,wpAny_callSpecial?_slot->Xy,bootBuiltins->XB,Around->XD,mainGlobals->XI,wpAny_setField_rec->X6,mem_of_lookup->X9,wpAny_mono->Yc,wpAny_setState_of->Yf,wpAny_field->Yj,wpAny_holding->Yl,sysModules->Ys,sizeLine_eq->YI,Expr->YO,cLine->YV,wpAny_typeNameOfWhole_itemiter->Y0,wpAny_askSetting->Y2,wpAny_typeNameOfWhole_keyiter->Y3,wpAny_seqItems->Y8,wpAny_rule->Y_,foldedSetIterable->Za,wpAny_dictEntries->Zd,codeAny_builtin->Zf,backTo->Zl,wpAny_attempt->Zw,wpAny_setField->ZC,firstArgMember->ZD,wpAny_typeNameOf_itemiter->ZE,Heap->ZG,Program->ZI,wpAny_truthy_bool->ZJ,wpAny_passesOwn->ZK,wpAny_typeNameOf_keyiter->ZN,attributeBase->ZR,wpAny_isInstance->ZV,assignEach->ZX,IsItemIter->Z0,World->Z1,eval->Z4,compareOp->Z7,wpAny_specialOf->Z9,wpAny_notOrdered_dict->aad,wpAny_dictEpoch->aae,behindInMarks->aag,wpAny_pyIter_slot->aam,IsPair->aao,wpAny_fieldsOf->aat,SetTable->aaw,binaryOp->aax,unsupported->aaC,wpAny_of_eq->aaD,pyNext->aaI,start->aaN,HeapKind->aaU,wpAny_isOneOf_itemiter->aa8,wpAny_pyIter_list->aa_,sliceBounds->abd,swapsWith->abq,rawInt->abr,codeAny_mono->abt,wpAny_typeOf->abv,Keyword->abA,wpAny_updateSeq_pair->abH,FuncData->abI,Stmt->abM,wpAny_execs_nil->abO,letOwnedTupleGo->abP,getItem->abQ,keywordEach->abR,wpAny_setEntries_of->abW,atKey->ab1,Paired->ab6,wpAny_Call_Name_kw->ab9,tupleKind_room_in1->aca,isSubtype_stop->acn,tupleKind->acr,seqIndex?->acw,call_meets->acx,wpAny_collect_seq->acB,wpAny_Call_method->acC,NameKind->acG,DictEntry->acH,PassesOwn->acI,pickOrder->acK
open List renaming getElem?_eq_getElem->Wz,length_map->WA,map_cons->WD,mem_cons_self->WG,mem_cons_of_mem->WI,size_toArray->WK,getElem?_eq_some_iff->WL,length_append->WN,mem_map->WS,length_cons->WT,mem_singleton->WU,mem_cons->WV,map_append->WW,mem_append_right->WZ,mem_append->W0,getElem?_map->W3,append_assoc->W8,map_map->Xb,length_take->Xc,mem_map_of_mem->Xh,take_succ_eq_append_getElem->Xi,map_congr_left->Xl,mem_append_left->Xn,range->Xo,getElem_mem->Xp,getElem?_set_ne->Xs,append_nil->Xt,take_append_drop->Xu,length_drop->XA,mem_range->XF,sum_cons->XH,length_range->XJ,zipWith_cons_cons->XN,drop_eq_getElem_cons->XO,all_eq_true->XR,getElem?_append_right->XT,flatten_cons->XW,pairwise_singleton->XX,getElem?_eq_none_iff->XY,map_nil->X0,zipWith->X1,take_length->X2,nodup_cons->X3,length_set->X4,perm_append_comm->X8,getElem?_cons_succ->X_,find?_cons->Ya,getElem?_append_left->Yd,nodup_append->Ye,mem_of_getElem?->Yh,mem_of_mem_take->Yi,take_of_length_le->Yt,eq_nil_of_length_eq_zero->YA,length_singleton->YF,nil_append->YJ,pairwise_cons->YK,lookup_cons->YS,foldl_cons->YX,mem_nil_iff->Y1,mem_of_mem_drop->Y5,nodup_nil->Y9,pairwise_map->Zb,length_zipWith->Zg,flatten_append->Zi,getElem?_set_self->Zj,getD_eq_getElem?_getD->Zn,drop_length->Zo,mem_flatMap->Zq,all_cons->Zr,pairwise_iff_getElem->ZA,extract_eq_take_drop->ZF,flatMap_cons->ZO,getElem?_range->ZT,drop_zero->ZZ,drop_eq_nil_of_le->Z3,ext_getElem?->aak,mem_iff_getElem->aap,cons_append->aaz,reverse_append->aaG,of_mem_zip->aaP,length_nil->aaR,forIn_cons->aaT,getElem?_drop->aaW,find?_eq_none->aaX,getElem?_take->aa0,set_cons_zero->aa1,eraseIdxIfInBounds_toArray->abe,getElem_take->abl,foldl_append->abm,length_replicate->abu,getD->abw,getElem?_eq_none->abz,nodup_range->abB,not_mem_nil->abC,filterMap_cons->abN,perm_ext_iff_of_nodup->ab3,mem_filterMap->ab8,drop_drop->acq,getElem?_take_of_lt->acv,filterMap_cons_some->acD
open PySem.Heap renaming get?_push_of_some->WC,get?_push_size->WQ,lt_size->WX,SameBut->Yg,get?_update_self->YE,size_push->YW
open Bool renaming false_ne_true->WE,and_eq_true->W6,false_eq_true->Xq,eq_iff_iff->Yu,not_true->Zt,or_eq_true->aaa,eq_false_iff->abf,and_false->abo,or_eq_false_iff->abG,not_false->acm
open PySem.W renaming Frag->WH,mg_none_of->XM,nsIn->Yr,kia_one->Yv,fnOf->YR,kia_tup->YY,keepIn->ZY,kitx_list->aba,kitx_dict->abb,findIn->abn,codeIn->acj,kitAny->aco,methodObj->acs
open Array renaming length_toList->WO,getElem?_toList->W9,getElem?_eq_getElem->Xf,toList_append->XS,getElem?_eq_some_iff->XU,toList_push->Ze,toList_extract->ZH,getElem?_eq_none->Z2,toList_reverse->aaq,getD->abh,toList_setIfInBounds->ab4,perm_iff_toList_perm->ab5,forIn_toList->acf
open Nat renaming le_refl->WR,ne_of_lt->Xj,lt_of_lt_of_le->Xx,le_trans->XC,zero_le->X5,mul_assoc->Yp,min_eq_left->Yx,le_add_right->Yz,lt_irrefl->YH,add_sub_cancel_left->YN,mul_comm->YT,gcd->Y7,le_of_lt_succ->Zc,zero_add->Zs,pow_succ->Zu,lt_or_ge->Zv,ne_of_gt->ZP,add_assoc->ZS,lt_of_le_of_lt->Z6,succ_pos->aab,lt_succ_of_lt->aaj,mod_lt->aal,mul_le_mul->aau,mul_left_comm->abg,lt_trichotomy->abi,min_self->acd,sub_self->acg,add_zero->ach,gcd_pos_of_pos_right->acF
open PyProof.Rows renaming wpS_bind->W2,wpS_pure->W_,Keyed->Xd,SortSt->Xe,pendingOf->Xv,arrOf->Xz,kindOf->Ym,wpS_forRange->Yn,slot_tuple_getitem->YU,wpS_mono->Zx,callWith_type1->Z8,failedOf->aaA,wpS_modify->aaL,SortKind->aaZ,IntsAre->abc,reverseSlice'->abK,assignInOrder_cons->ab7,envOfC->ab_,seqObj->ace,gallopOf->aci,elem'->acp,KeyOrd->acJ
open Option.some renaming inj->Xa
open Int renaming toNat_natCast->Xm,mul_assoc->Yq,emod_lt_of_pos->YL,emod_nonneg->Zh,mul_le_mul->aav,natCast_ediv->aaB,mul_pos->aaH,mul_comm->aaM,natCast_dvd_natCast->aa2,le_of_dvd->aa3,mul_nonneg->abp,toNat_of_nonneg->abY
open PyProof.Rows.KeyOrd renaming kle_trans->Xw,kle_of_klt->XQ,kle_refl->Yy
open PySem.Builtin.SmallTypes renaming nextOf->XG,ownedTupleIsFree->YB,ownedTupleHandOut->aas
open PySem.Heap.SameBut renaming update->XZ
open List.Perm renaming append_left->X7,append_right->Yk,refl->Yo
open PySem.PassesOwn renaming never->Yb
open PySem.Builtin.Tuple renaming tupleHashOf->Yw,tupleExact->YD,tupleItemsOf->aan,tupleIsExact->ab2
open PySem.Str renaming ofString->YC
open PySem.Builtin.Dict_items renaming ownsTuple->YG,ownedTupleFields->aaE,ownedTupleIsFree->aaF,pairFromOwner->aa5
open PySem.Obj renaming data_mapFields->YM,isFreed_of_fields->aac,mapSeq->aai,cls_mapFields->abj,putSet->acE
open PySem.Around renaming under_plainId->YQ
open PySem.Builtin.Dict renaming showsAll->YZ
open PySem.F renaming slot_dict_itemiterator_next->Y4,slot_dict_keyiterator_next->Y6,slot_tuple_iterator_next->Zm,plainAttrs_list->ZU,slot_dict_get->Z_,args_tuple_add_2->aaJ,entry_tuple_add->aaQ,args_dict_get_3->aaS,plainAttrs_dict->aaV,slot_tuple_add->aa6,entry_dict_get->aa7,args_dict_itemiterator_next_1->abk,args_dict_keyiterator_next_1->abx,entry_dict_itemiterator_next->aby,entry_dict_keyiterator_next->abD,slot_dict_itemiterator_iter->abE,args_tuple_iterator_next_1->abJ,slot_dict_setdefault->abL,entry_tuple_iterator_next->abU,slot_zip_next->abV
open PySem.Calls renaming callWith_builtin->Zk,spliced_cons->Z5,evalArgs_plain->abF,Name_function_global->abZ,call_function_entry->ack,spliced_nil->acu
open PySem.Builtin.Slice renaming slicePlaces->Zy,sliceAdjust->aar,sliceApplied->ab0
open Classical renaming byContradiction->Zz
open PySem.Builtin.List renaming listTooLong->ZL,listExtendWith->abT,listLengthHint->abX
open List.Pairwise renaming imp_of_mem->ZM
open List.Nodup renaming length_le_of_subset->ZQ
open Option renaming getD_some->ZW,getD_none->aay,map_eq_none_iff->aa9,isSome_map->acy
open PySem.Paired renaming length->aaf
open False renaming elim->aah
open PySem.SeqAt renaming EqAt->aaK
open PySem.Builtin.Range renaming rangeSize->aaO
open PyProof.Rows.F renaming plain_set_update_loop->aaY
open Nat.Coprime renaming dvd_of_dvd_mul_right->aa4
open PySem.SeqAt.EqAt renaming same->abS,of_refs->acb
open PySem.SeqAt.RcAt renaming tuples->acz,lists_lengths->acA
open PySem PySem.Spec PyProof.Rows
variable {a b it f p z i1 i2 a1 a2:W7}{o l ra rb S:List Xd}{P prog:ZI}{w:Z1}{h h':ZG}{t' i j k n g base m mask kt ep bc:Nat}{ch fp L L':List W7}{x qual:Str}{N ps loose:List Str}{M:Model}{A:W7->Prop}{E Q:WM->WY->Prop}{t:aaw}{s:WY}{pins:List (W7×Obj)}{pos p2 tp:Pos}{op:CmpOp}{K:WH}{st:abM}{tg iter:YO}{body:List abM}{hi:Option Int}{C:Nat->Option (Int×WM)}{ao:List WM}{mg:Str->Option WM}{fd:abI}{scope:Scope}{ns:List Int}{ys:Array WM}{T:String}{q:WM}{XP:(Str->Option WM)->ZG->Prop}{YP:Z1->ZG->Prop}{env:Env}{js:List (Option Nat)}{yw elts:List YO}{l1 l2:Bool}{ds:Array acH}{arr:Array Xd}{ss:List (List Int)}
namespace L2
noncomputable abbrev Key:=Sum Int Str
noncomputable def sQ:Key->WM->Bool
 | .inl k,v=>Value.isInt k v
 | .inr x,v=>Value.isStrOf x v
noncomputable def Ri (w:Z1):Key->Int
 | .inl k=>hashInt k
 | .inr x=>hashStr w x
theorem cu:∀{k:Key} {v:WM},sQ k v=true->(∃i t,k=Sum.inl i/\v=Value.int i t)\/(∃x t,k=Sum.inr x/\v=Value.str x t)
 | .inl i,v,h=>by
  obtain⟨t,e⟩:=Value.isInt_shape (k:=i) (v:=v) h;exact .inl ⟨i,t,rfl,e⟩
 | .inr x,v,h=>by
  obtain⟨t,e⟩:=Value.isStrOf_shape (x:=x) (v:=v) h;exact .inr ⟨x,t,rfl,e⟩
theorem BV (i:Int)(t:Tok):sQ (.inl i) (.int i t)=true:=by simp[sQ,Value.isInt]
theorem BW (x:Str)(t:Tok):sQ (.inr x) (.str x t)=true:=by simp[sQ,Value.isStrOf]
theorem K4 (a b:Int):decide ((Sum.inl a:Key)=Sum.inl b)=(a==b):=by
 by_cases e:a=b
 ·subst e;simp
 ·have h:¬(Sum.inl a:Key)=Sum.inl b:=λq=>e (Sum.inl.inj q);rw[hJ h];exact (beq_eq_false_iff_ne.mpr e).symm
theorem K5 (a b:Str):decide ((Sum.inr a:Key)=Sum.inr b)=decide (a=b):=by
 by_cases e:a=b
 ·subst e;simp
 ·have h:¬(Sum.inr a:Key)=Sum.inr b:=λq=>e (Sum.inr.inj q);rw[hJ h,hJ e]
theorem K6 (a:Int)(b:Str):decide ((Sum.inl a:Key)=Sum.inr b)=false:=hJ (λq=>nomatch q)
theorem K7 (a:Str)(b:Int):decide ((Sum.inr a:Key)=Sum.inl b)=false:=hJ (λq=>nomatch q)
noncomputable def cA (prog:ZI)(w:Z1):PySem.KeyKind prog w Key where
 is:=sQ
 hash:=Ri w
 inj:=λv a b ha hb=>by
  rcases cu ha with⟨i,t,rfl,rfl⟩|⟨x,t,rfl,rfl⟩
  ·rcases cu hb with⟨j,u,rfl,e⟩|⟨y,u,rfl,e⟩
   ·injection e with e1 _;rw[e1]
   ·exact nomatch e
  ·rcases cu hb with⟨j,u,rfl,e⟩|⟨y,u,rfl,e⟩
   ·exact nomatch e
   ·injection e with e1 _;rw[e1]
 byValue:=λk v h=>by
  rcases cu h with⟨i,t,rfl,rfl⟩|⟨x,t,rfl,rfl⟩<;>rfl
 pyHash:=λhv h=>by
  rcases cu hv with⟨i,t,rfl,rfl⟩|⟨x,t,rfl,rfl⟩
  ·exact wpAny_pyHash_int h
  ·exact wpAny_pyHash_str h
 eqBool:=λhu hv h=>by
  rcases cu hu with⟨i,t,rfl,rfl⟩|⟨x,t,rfl,rfl⟩
  ·rcases cu hv with⟨j,u,rfl,rfl⟩|⟨y,u,rfl,rfl⟩
   ·rw[K4] at h;exact wpAny_eqBool_int h
   ·rw[K6] at h;exact SeqAt.EqAt.int_str i t y u _ _ _ _ h
  ·rcases cu hv with⟨j,u,rfl,rfl⟩|⟨y,u,rfl,rfl⟩
   ·rw[K7] at h;exact SeqAt.EqAt.str_int x t j u _ _ _ _ h
   ·rw[K5] at h;exact wpAny_eqBool_str h
 «strs»:=λk x t v h=>by
  rcases cu h with⟨i,u,rfl,e⟩|⟨y,u,rfl,e⟩
  ·exact nomatch e
  ·injection e with e1 _
   subst e1;cases v<;>rfl
theorem vX (prog:ZI)(w:Z1)(i:Int)(t:Tok):(cA prog w).is (.inl i) (.int i t)=true:=BV i t
theorem vY (prog:ZI)(w:Z1)(x:Str)(t:Tok):(cA prog w).is (.inr x) (.str x t)=true:=BW x t
end L2
namespace L2
inductive V where
 |non|bl (b:Bool)|int (i:Int)|str (x:Str)|byt (b:Array UInt8)|flt (b:UInt64)|ref (a:W7)|ty (n:String)
 deriving DecidableEq
def aN:V->WM->Prop
 | .non,u=>u=Value.none
 | .bl b,u=>u=Value.bool b
 | .int i,u=>∃t,u=Value.int i t
 | .str x,u=>∃t,u=Value.str x t
 | .byt b,u=>∃t,u=Value.bytes b t
 | .flt b,u=>∃t,u=Value.float b t
 | .ref a,u=>u=Value.ref a
 | .ty n,u=>u=Value.type n
abbrev aQ:List V->List WM->Prop:=ab6 aN
theorem aQ.length {xs:List V}{us:List WM}(r:aQ xs us):xs.length=us.length:=aaf r
theorem aQ.get:∀{xs:List V} {us:List WM} {i:Nat} {x:V},aQ xs us->xs[i]? = some x->∃u,us[i]? = some u/\aN x u
 |_,_,_,_,.nil,e=>by simp at e
 |_,_,0,_,.cons r _,e=>by simp at e;subst e;exact⟨_,rfl,r⟩
 |_,_,i+1,x,.cons _ t,e=>by
  obtain⟨u,h1,h2⟩:=aQ.get (i:=i) (x:=x) t (by simpa using e);exact⟨u,by simpa using h1,h2⟩
theorem aQ.set {x:V}{u:WM}(r:aN x u):∀{xs:List V} {us:List WM} (i:Nat),aQ xs us->aQ (xs.set i x) (us.set i u)
 |_,_,_,.nil=>.nil
 |_,_,0,.cons _ t=>.cons r t
 |_,_,i+1,.cons q t=>.cons q (aQ.set r i t)
theorem aQ.append:∀{xs ys:List V} {us ws:List WM},aQ xs us->aQ ys ws->aQ (xs++ys) (us++ws)
 |_,_,_,_,.nil,s=>s
 |_,_,_,_,.cons r t,s=>.cons r (aQ.append t s)
theorem aQ.take:∀{xs:List V} {us:List WM} (n:Nat),aQ xs us->aQ (xs.take n) (us.take n)
 |_,_,0,_=>.nil
 |_,_,_+1,.nil=>.nil
 |_,_,n+1,.cons r t=>.cons r (aQ.take n t)
theorem aQ.drop:∀{xs:List V} {us:List WM} (n:Nat),aQ xs us->aQ (xs.drop n) (us.drop n)
 |_,_,0,r=>r
 |_,_,_+1,.nil=>.nil
 |_,_,n+1,.cons _ t=>aQ.drop n t
def kS:Option V->Option WM->Prop
 |some v,some u=>aN v u
 |none,none=>True
 |_,_=>False
def KV {κ:Type}:List (κ×V)->List (κ×WM)->Prop:=ab6 λ(p:κ×V) (q:κ×WM)=>p.1=q.1/\aN p.2 q.2
noncomputable def kV:Key->V
 | .inl i=>.int i
 | .inr x=>.str x
inductive HO where
 |lst (xs:List V)
 |tup (xs:List V)
 |dK (aK:List (Key×V))|dT (aK:List (List Key×V))
 |set (S:Int->Bool) (n:Nat)
 |ins (C dx:W7) (fs:List (Str×V))
 |own (x:W7)
 |xd (fs:List (Str×V))
 |met (f x:W7)
 |rng (lo hi:Int)
 |frz (o:Obj) (u:HO)
 |tbl (ps:Array WM)
 |ext (φ:ZG->Prop)
noncomputable abbrev Hp:=W7->Option HO
noncomputable def bV (H:Hp)(a:W7)(o:HO):Hp:=λb=>if b=a then some o else H b
theorem ba {H:Hp}{o:HO}:bV H a o a=some o:=by unfold bV;rw[hZ rfl]
theorem aS {H:Hp}{o:HO}(h:b≠a):bV H a o b=H b:=by unfold bV;rw[hV h]
theorem N1 {H:Hp}{o u:HO}(h:H a=some o)(h':H b=some u)(d:o≠u):a≠b:=by
 intro e;subst e;rw[h] at h';exact d (Xa h')
theorem bA {H:Hp}{o:HO}(h:H a=some o)(h':H b=none):a≠b:=by
 intro e;subst e;rw[h] at h';cases h'
section
variable (P:ZI)(w:Z1)
def bu (H:Hp)(h:ZG)(a:W7):HO->Prop
 | .lst xs=>xs.length<=WJ/\∃(ao:List WM) (n:Nat),aQ xs ao/\h.get? a=some {cls:=.type "list",data:=.seq ao.toArray n}
 | .tup xs=>xs.length<=WJ/\∃ao:List WM,aQ xs ao/\IsTup h a ao.toArray/\∃n,h.get? a=some {cls:=.type "tuple",data:=.seq ao.toArray n}
 | .dK aK=>aK.length<=WJ/\(a==Ys)=false/\∃vs,KV aK vs/\h.DictOf (cA P w) a vs
 | .dT aK=>aK.length<=WJ/\(a==Ys)=false/\∃xs:List (List Key×W7×WM),
   ab6 (λ(p:List Key×V) (q:List Key×W7×WM)=>p.1=q.1/\H q.2.1=some (.tup (p.1.map kV))/\aN p.2 q.2.2) aK xs/\
   ∃o es ep,h.get? a=some o/\o.ExactDict/\o.data=.dict es ep/\es.toList=xs.map (entryOfKey (acr (cA P w)))/\(xs.map (·.1)).Nodup
 | .set S n=>h.SetOf (intKind P w) a S n
 | .ins C dx fs=>H dx=some (.own a)/\fs.length<=1000/\dx≠a/\h.get? a=some (PySem.W.instObj C dx)/\
   ∃mA,h.Ns1 dx mA/\(∀f,kS (fs.lookup f) (mA f))/\PySem.Within mA (fs.map (·.1))
 | .own _=>∃o,h.get? a=some o
 | .xd fs=>∃mA,h.Ns1 a mA/\∀f,kS (fs.lookup f) (mA f)
 | .rng lo hi=>∃t u v,h.get? a=some {cls:=.type "range",data:=.fields #[.int lo t,.int hi u,.int 1 v]}
 | .frz o u=>h.get? a=some o/\bu H h a u
 | .tbl ps=>h.get? a=some {cls:=.none,data:=.fields ps}
 | .met f x=>h.get? a=some (acs (.ref f) (.ref x))
 | .ext φ=>φ h/\(∃o,h.get? a=some o)/\∀h1 h2:ZG,φ h1->(∀o,h1.get? a=some o->h2.get? a=some o)->φ h2
def jy (H:Hp)(h:ZG):Prop:=∀a o,H a=some o->bu P w H h a o
end
section
variable {H H':Hp}{o:HO}
theorem bu.lt (x:bu P w H h a o):a<h.objs.size:=by
 cases o with
 |lst xs=>obtain⟨_,_,_,_,e⟩:=x;exact WX e
 |tup xs=>obtain⟨_,_,_,p,_⟩:=x;exact p.lt
 |dK aK=>obtain⟨_,_,_,_,o,_,_,e,_⟩:=x;exact WX e
 |dT aK=>obtain⟨_,_,_,_,o,_,_,e,_⟩:=x;exact WX e
 |set S n=>obtain⟨o,_,_,_,e,_⟩:=x;exact WX e
 |ins C dx fs=>obtain⟨_,_,_,e,_⟩:=x;exact WX e
 |own y=>obtain⟨_,e⟩:=x;exact WX e
 |xd fs=>obtain⟨_,⟨_,_,_,e,_⟩,_⟩:=x;exact WX e
 |rng lo hi=>obtain⟨_,_,_,e⟩:=x;exact WX e
 |frz ob u=>obtain⟨e,_⟩:=x;exact WX e
 |tbl ps=>exact WX (show h.get? a=some _ from x)
 |met f y=>exact WX (show h.get? a=some _ from x)
 |ext φ=>obtain⟨_,⟨_,e⟩,_⟩:=x;exact WX e
theorem Paired.mapP {α β:Type}{F G:α->β->Prop}:∀{l₁:List α} {l₂:List β},ab6 F l₁ l₂->(∀a b,F a b->G a b)->ab6 G l₁ l₂
 |_,_,.nil,_=>.nil
 |_,_,.cons r t,f=>.cons (f _ _ r) (Paired.mapP t f)
theorem bu.stay (x:bu P w H h a o)(k:∀b u,(b=a\/H b=some (.own a))->h.get? b=some u->h'.get? b=some u)
  (ho:∀b,H b=some (.own a)->H' b=some (.own a)) (ht:∀b xs,H b=some (.tup xs)->H' b=some (.tup xs)):bu P w H' h' a o:=by
 induction o with
 |lst xs=>obtain⟨z,ao,n,r,e⟩:=x;exact⟨z,ao,n,r,k _ _ (.inl rfl) e⟩
 |tup xs=>obtain⟨z,ao,r,⟨ob,e,c⟩,n2,e2⟩:=x;exact⟨z,ao,r,⟨ob,k _ _ (.inl rfl) e,c⟩,n2,k _ _ (.inl rfl) e2⟩
 |dK aK=>obtain⟨z,y,vs,r,ob,es,ep,e,c⟩:=x;exact⟨z,y,vs,r,ob,es,ep,k _ _ (.inl rfl) e,c⟩
 |dT aK=>
  obtain⟨z,y,xs,r,ob,es,ep,e,c⟩:=x;exact⟨z,y,xs,Paired.mapP r λp q z=>⟨z.1,ht _ _ z.2.1,z.2.2⟩,ob,es,ep,k _ _ (.inl rfl) e,c⟩
 |set S n=>obtain⟨ob,es,ep,t,e,c⟩:=x;exact⟨ob,es,ep,t,k _ _ (.inl rfl) e,c⟩
 |ins C dx fs=>
  obtain⟨d,z,ne,e,mA,⟨od,es,ep,e2,c⟩,r⟩:=x;exact⟨ho _ d,z,ne,k _ _ (.inl rfl) e,mA,⟨od,es,ep,k _ _ (.inr d) e2,c⟩,r⟩
 |own y=>obtain⟨ob,e⟩:=x;exact⟨ob,k _ _ (.inl rfl) e⟩
 |xd fs=>obtain⟨mA,⟨od,es,ep,e,c⟩,r⟩:=x;exact⟨mA,⟨od,es,ep,k _ _ (.inl rfl) e,c⟩,r⟩
 |rng lo hi=>obtain⟨t,u,v,e⟩:=x;exact⟨t,u,v,k _ _ (.inl rfl) e⟩
 |frz ob u ih=>obtain⟨e,q⟩:=x;exact⟨k _ _ (.inl rfl) e,ih q⟩
 |tbl ps=>
  have e:h.get? a=some {cls:=.none,data:=.fields ps}:=x;show h'.get? a=some {cls:=.none,data:=.fields ps};exact k a _ (.inl rfl) e
 |met f y=>
  have e:h.get? a=some (acs (.ref f) (.ref y)):=x;show h'.get? a=some (acs (.ref f) (.ref y));exact k a _ (.inl rfl) e
 |ext φ=>obtain⟨p,⟨o,e⟩,st⟩:=x;exact⟨st _ _ p λo q=>k _ _ (.inl rfl) q,⟨o,k _ _ (.inl rfl) e⟩,st⟩
theorem jy.lt (x:jy P w H h)(e:H a=some o):a<h.objs.size:=(x a o e).lt
theorem jy.fresh (x:jy P w H h)(e:h.objs.size<=a):H a=none:=by
 cases q:H a with
 |none=>rfl
 |some u=>exact absurd (Xx (x.lt q) e) (YH _)
theorem jy.kept (x:jy P w H h)(k:∀b u,h.get? b=some u->h'.get? b=some u):jy P w H h':=λa o e=>
 (x a o e).stay (λb u _ q=>k b u q) (λ_ q=>q) λ_ _ q=>q
theorem jy.laid (x:jy P w H h)(k:∀b u,h.get? b=some u->h'.get? b=some u)(hp:h.objs.size<=a)(new:bu P w (bV H a o) h' a o):jy P w (bV H a o) h':=λb u e=>by
 have hn:=x.fresh hp;by_cases hb:b=a
 ·subst hb;rw[ba] at e;cases e;exact new
 ·rw[aS hb] at e;exact (x b u e).stay (λc v _ q=>k c v q) (λc q=>by rw[aS (bA q hn)];exact q) λc xs q=>by rw[aS (bA q hn)];exact q
end
def Rd (H:Hp)(a:W7)(u:HO):Prop:=H a=some u\/∃o,H a=some (.frz o u)
theorem Rd.ok {H:Hp}{u:HO}(r:Rd H a u)(x:jy P w H h):bu P w H h a u:=by
 rcases r with r|⟨o,r⟩
 ·exact x a u r
 ·obtain⟨_,q⟩:=x a _ r;exact q
def NJ:Option HO->Prop
 |some (.lst _)=>True
 |some (.dK _)=>True
 |some (.dT _)=>True
 |some (.set _ _)=>True
 |some (.ins _ _ _)=>True
 |some (.ext _)=>True
 |_=>False
section
variable {H:Hp}{x e:W7}{o':HO}
theorem jy.write (ok:jy P w H h)(mu:NJ (H x))(he:e=x\/H e=some (.own x))(k:∀b u,b≠e->h.get? b=some u->h'.get? b=some u)(NR:∃u,h'.get? e=some u)
  (new:bu P w (bV H x o') h' x o'):jy P w (bV H x o') h':=λb u q=>by
 have Qc:∀c y,H c=some (.own y)->c≠x:=λc y r z=>by subst z;rw[r] at mu;exact mu
 have Sn:∀c xs,H c=some (.tup xs)->c≠x:=λc xs r z=>by subst z;rw[r] at mu;exact mu
 by_cases hb:b=x
 ·subst hb;rw[ba] at q;cases q;exact new
 ·rw[aS hb] at q;by_cases hbe:b=e
  ·have q':H b=some (.own x):=by
    rcases he with z|z
    ·exact absurd (hbe.trans z) hb
    ·rw[hbe];exact z
   rw[q] at q';cases q';obtain⟨v,hv⟩:=NR;exact⟨v,by rw[hbe];exact hv⟩
  ·refine (ok b u q).stay (λc v hc r=>k c v ?_ r) (λc r=>by rw[aS (Qc c b r)];exact r) λc xs r=>by rw[aS (Sn c xs r)];exact r
   rcases hc with rfl|hc
   ·exact hbe
   ·rintro rfl;rcases he with z|z
    ·exact Qc c b hc z
    ·rw[hc] at z;cases z;exact hb rfl
end
structure Un (fs ex:List W7)(H H':Hp)(h h':ZG):Prop where
 keep:∀b o,h.get? b=some o->H b=none->b∉fs->b∉ex->h'.get? b=some o
 slot:∀b o,h.get? b=some o->H b=none->b∈fs->b∉ex->∃sl,h'.get? b=some {o with slots:=sl}
 free:∀b o,h.get? b=some o->H b=none->b∉ex->H' b=none
 there:∀b o,h.get? b=some o->b∉ex->∃o',h'.get? b=some o'
 tups:∀b xs,H b=some (.tup xs)->H' b=some (.tup xs)
 frzs:∀b o u,H b=some (.frz o u)->H' b=some (.frz o u)
 tbls:∀b ps,H b=some (.tbl ps)->∃more,H' b=some (.tbl (ps++more))
section
variable {fs fs' ex ex':List W7}{H H1 H2:Hp}{h1 h2:ZG}{x e:W7}{o:HO}
theorem Un.any (u:Un fs ex H H1 h h1){ob:Obj}(q:h.get? b=some ob)(n:H b=none)(hx:b∉ex):∃sl,h1.get? b=some {ob with slots:=sl}:=by
 by_cases hb:b∈fs
 ·exact u.slot b ob q n hb hx
 ·exact⟨ob.slots,u.keep b ob q n hb hx⟩
theorem Un.kept (k:∀b u,h.get? b=some u->h'.get? b=some u):Un fs ex H H h h' :=
 ⟨λb ob q _ _ _=>k b ob q,λb ob q _ _ _=>⟨ob.slots,k b ob q⟩,λ_ _ _ n _=>n,λb ob q _=>⟨ob,k b ob q⟩,λ_ _ q=>q,λ_ _ _ q=>q,λ_ ps q=>⟨#[],by rw[q];simp⟩⟩
theorem Un.refl:Un fs ex H H h h:=Un.kept λ_ _ q=>q
theorem Un.laid (k:∀b u,h.get? b=some u->h'.get? b=some u)(hp:h.objs.size<=a)(hn:H a=none):Un fs ex H (bV H a o) h h' where
 keep:=λb u q _ _ _=>k b u q
 slot:=λb u q _ _ _=>⟨u.slots,k b u q⟩
 free:=λb u q n _=>by rw[aS (Xj (Xx (WX q) hp))];exact n
 there:=λb u q _=>⟨u,k b u q⟩
 tups:=λb xs q=>by rw[aS (bA q hn)];exact q
 frzs:=λb u xs q=>by rw[aS (bA q hn)];exact q
 tbls:=λb ps q=>⟨#[],by rw[aS (bA q hn),q];simp⟩
theorem Un.write (mu:NJ (H x))(he:e=x\/H e=some (.own x))(k:∀b u,b≠e->h.get? b=some u->h'.get? b=some u)(NR:∃u,h'.get? e=some u):Un fs ex H (bV H x o) h h':=by
 have hx:∀b,H b=none->b≠x:=λb n z=>by subst z;rw[n] at mu;exact mu
 have hb:∀b,H b=none->b≠e:=λb n z=>by
  subst z;rcases he with r|r
  ·exact hx b n r
  ·rw[n] at r;cases r
 have hm:∀b u,H b=some u->¬NJ (some u)->b≠x:=λb u q nm z=>by subst z;rw[q] at mu;exact nm mu
 refine⟨λb u q n _ _=>k b u (hb b n) q,λb u q n _ _=>⟨u.slots,k b u (hb b n) q⟩,λb u q n _=>by rw[aS (hx b n)];exact n,λb u q _=>?_,
  λb xs q=>by rw[aS (hm b _ q λz=>z)];exact q,λb u xs q=>by rw[aS (hm b _ q λz=>z)];exact q,λb ps q=>⟨#[],by rw[aS (hm b _ q λz=>z),q];simp⟩⟩
 by_cases hbe:b=e
 ·subst hbe;exact NR
 ·exact⟨u,k b u hbe q⟩
end
noncomputable def QF (h:ZG)(H:Hp):List W7:=(Xo h.objs.size).filter λa=>(H a).isSome
noncomputable def uw (h:ZG)(H:Hp):ZG:=PySem.W.hideAll h (QF h H)
theorem BX (h:ZG)(H:Hp):(uw h H).objs.size=h.objs.size:=PySem.W.hideAll_size _ _
theorem Dl {H:Hp}{o:Obj}(e:h.get? b=some o)(n:H b=none):(uw h H).get? b=some o:=
 PySem.W.hideAll_get _ e λhm=>by
  have q:(H b).isSome=true:=(List.mem_filter.mp hm).2;rw[n] at q;simp at q
theorem G1 {H:Hp}{o:Obj}(e:(uw h H).get? b=some o):h.get? b=some o/\H b=none:=by
 have e':h.get? b=some o:=PySem.W.of_hideAll (QF h H) e;refine⟨e',?_⟩;cases q:H b with
 |none=>rfl
 |some x=>
  have hm:b∈QF h H:=List.mem_filter.mpr ⟨XF.mpr (WX e'),by simp[q]⟩;have z:(uw h H).get? b=none:=PySem.W.hideAll_none (QF h H) hm;rw[z] at e;cases e
end L2
variable {xs vs:List L2.V}{H H' H1 H2:L2.Hp}{v y v':L2.V}{aK:List (List L2.Key×L2.V)}
namespace L2
structure Mod (K:WH)(mg:Str->Option WM)(base:ZG):Prop where
 kin:K.In base
 glob:base.Ns XI mg
 blt:∃mb,base.Ns builtinsNs mb/\∀x:Str,x≠"__name__"->mb x=XB x
 nolimit:base.NoLimit
structure Cx where
 prog:ZI
 w:Z1
 K:WH
 mg:Str->Option WM
 base:ZG
 A:XD
 N:List Str
 s₀:WY
 H₀:Hp
 env:Env
 outer:List Env
 stack:List Env
 ex:List W7
 fn:Str->Bool
 calm:Bool
 pn:List (W7×Obj)
 xe:WM->WY->Prop
noncomputable def Af (l:List Env):List W7:=l.filterMap (·.frame)
noncomputable abbrev Cx.fs (X:Cx):List W7:=Af X.outer
def BY (sc:Scope)(x:Str):Prop:=sc.names.lookup x=some .local\/sc.names.lookup x=some .cell\/sc.names.lookup x=some .free
def Jr (sc:Scope)(x:Str):Prop:=sc.names.lookup x=some .local\/sc.names.lookup x=some .cell
def Rj (env:Env)(h:ZG)(m:Str->Option WM)(x:Str)(u:WM):Prop:=
 (env.kindOf x=some .local/\m x=some u)\/((env.kindOf x=some .cell\/env.kindOf x=some .free)/\∃c,env.cells.lookup x=some c/\h.IsCell c (some u))
structure Cx.Ok (X:Cx):Prop where
 mod:Mod X.K X.mg X.base
 kind:X.env.scope.kind=.function
 glob:X.env.globals=XI
 blt:X.env.builtins=builtinsNs
 above:X.s₀.heap.objs.size<=X.env.locals
 inj:∀x y c,X.env.cells.lookup x=some c->X.env.cells.lookup y=some c->x=y
 has:∀x,(X.env.kindOf x=some .cell\/X.env.kindOf x=some .free)->∃c,X.env.cells.lookup x=some c
 cab:∀x c,X.fn x=true->X.env.cells.lookup x=some c->X.s₀.heap.objs.size<=c
 hd:X.calm=true->X.A.handled=none
 frames:X.A.frames=some X.stack
 stk:X.stack=X.outer\/(X.stack=X.env::X.outer/\X.env.frame=some X.env.locals)
 exf:∀b∈X.ex,b≠X.env.locals/\∀x c,X.env.cells.lookup x=some c->c≠b
 bs:∀b o,X.base.get? b=some o->X.s₀.heap.get? b=some o/\X.H₀ b=none
 bsz:X.base.objs.size<=X.s₀.heap.objs.size
 noex:∀b o,X.base.get? b=some o->b∉X.ex
 exfs:∀b∈X.ex,b∉X.fs
 funs:X.s₀.heap.FunFrames X.base X.outer
 frf:∀b∈X.fs,X.H₀ b=none
structure az (X:Cx)(pins:List (W7×Obj))(σ:List (Option V))(H:Hp)(s:WY):Prop where
 ok:X.Ok
 os:s.os=X.s₀.os
 bare:AllBare s.gens
 base:Un X.fs X.ex X.H₀ H X.s₀.heap s.heap
 loc:∃m,s.heap.Ns X.env.locals m/\∀(i:Nat) (x:Str) (v:V),X.N[i]? = some x->σ[i]? = some (some v)->BY X.env.scope x->∃u,aN v u/\Rj X.env s.heap m x u
 cell:∀x c,X.env.cells.lookup x=some c->∃v,s.heap.IsCell c v
 free:H X.env.locals=none
 freeC:∀x c,X.env.cells.lookup x=some c->H c=none
 pin:∀p∈X.pn++pins,s.heap.get? p.1=some p.2/\H p.1=none/\p.1≠X.env.locals/\p.1∉X.fs/\∀v,p.2.data≠.cell v
 hok:jy X.prog X.w H s.heap
 len:σ.length=X.N.length
section
variable {X:Cx}{σ:List (Option V)}
theorem Cx.Ok.nofr (ok:X.Ok){o:Obj}(e:X.base.get? b=some o):b∉X.fs:=λhb=>by
 have:=(ok.funs.mem hb).1;rw[e] at this;cases this
theorem az.bs (I:az X pins σ H s):∀b o,X.base.get? b=some o->s.heap.get? b=some o/\H b=none:=λb o e=>
 ⟨I.base.keep b o (I.ok.bs b o e).1 (I.ok.bs b o e).2 (I.ok.nofr e) (I.ok.noex b o e),I.base.free b o (I.ok.bs b o e).1 (I.ok.bs b o e).2 (I.ok.noex b o e)⟩
theorem az.bk (I:az X pins σ H s):∀b o,X.base.get? b=some o->s.heap.get? b=some o:=λb o e=>(I.bs b o e).1
theorem az.mod (I:az X pins σ H s):Mod X.K X.mg X.base:=I.ok.mod
theorem az.kIn (I:az X pins σ H s):X.K.In s.heap:=I.ok.mod.kin.keeps I.bk
theorem az.lt (I:az X pins σ H s):X.env.locals<s.heap.objs.size:=let ⟨_,hn,_⟩:=I.loc;hn.lt
theorem az.sz (I:az X pins σ H s):X.s₀.heap.objs.size<=s.heap.objs.size:=XC I.ok.above (Nat.le_of_lt I.lt)
theorem az.nofs (I:az X pins σ H s)(h:s.heap.objs.size<=a):a∉X.fs:=λhb=>by
 obtain⟨_,o,ho,_⟩:=I.ok.funs.mem hb;exact absurd (Xx (WX ho) (XC I.sz h)) (YH _)
theorem az.cne (I:az X pins σ H s):∀x c,X.env.cells.lookup x=some c->c≠X.env.locals:=λx c e z=>by
 obtain⟨v,o,ho,hd⟩:=I.cell x c e;obtain⟨m,⟨o',es,ep,ho',hd',_⟩,_⟩:=I.loc;rw[z,ho'] at ho;cases ho;rw[hd'] at hd;cases hd
theorem az.funs (I:az X pins σ H s):s.heap.FunFrames X.base X.outer:=by
 have all:∀(l:List Env),(∀b∈Af l,b∈X.fs)->X.s₀.heap.FunFrames X.base l->s.heap.FunFrames X.base l:=by
  intro l
  induction l with
  |nil=>intro _ _;trivial
  |cons env r ih=>
   intro hs hl;obtain⟨hk,⟨L,o,hf,hn,ho,hd⟩,hr⟩:=hl;have hL:L∈X.fs:=hs L (by unfold Af;rw[abN,hf];exact WG);obtain⟨sl,e⟩:=I.base.slot L o ho (I.ok.frf L hL) hL λz=>I.ok.exfs L z hL;exact⟨hk,⟨L,_,hf,hn,e,hd⟩,ih (λb hb=>hs b (by unfold Af;rw[abN,hf];exact WI _ hb)) hr⟩
 exact all X.outer (λ_ hb=>hb) I.ok.funs
theorem az.stack (I:az X pins σ H s):s.heap.FunFrames X.base X.stack:=by
 rcases I.ok.stk with e|⟨e,hf⟩
 ·rw[e];exact I.funs
 ·rw[e];obtain⟨m,hn,_⟩:=I.loc;refine .cons (by rw[I.ok.kind];decide) hf hn ?_ I.funs;exact Heap.get?_none_of_le (XC I.ok.bsz I.ok.above)
theorem az.stkSub (I:az X pins σ H s):∀b∈Af X.stack,b∈X.env.locals::X.fs:=λb hb=>by
 rcases I.ok.stk with e|⟨e,hf⟩
 ·rw[e] at hb;exact WI _ hb
 ·rw[e] at hb;unfold Af at hb;rw[abN,hf] at hb;exact hb
theorem az.stkFree (I:az X pins σ H s):∀b∈Af X.stack,H b=none:=λb hb=>by
 rcases WV.mp (I.stkSub b hb) with e|hb
 ·rw[e];exact I.free
 ·obtain⟨_,o,ho,_⟩:=I.ok.funs.mem hb;exact I.base.free b o ho (I.ok.frf b hb) λz=>I.ok.exfs b z hb
theorem az.step {t':Nat}{g':Array GenState}{d':Drawn}(I:az X pins σ H s)(GP:∀b∈ch,(b∈X.ex\/X.s₀.heap.objs.size<=b)/\b≠X.env.locals/\(∀x c,X.env.cells.lookup x=some c->c≠b)/\∀p∈X.pn++pins,p.1≠b)(keep:∀b o,b≠X.env.locals->b∉X.fs->b∉ch->s.heap.get? b=some o->H b=none->h'.get? b=some o)(slot:∀b o,b≠X.env.locals->b∈X.fs->b∉ch->s.heap.get? b=some o->H b=none->∃sl,h'.get? b=some {o with slots:=sl})(free:∀b o,b∉ch->s.heap.get? b=some o->H b=none->H' b=none)(there:∀b o,b∉ch->s.heap.get? b=some o->∃o',h'.get? b=some o')(tups:∀b xs,H b=some (.tup xs)->H' b=some (.tup xs))(frzs:∀b o u,H b=some (.frz o u)->H' b=some (.frz o u))(tbls:∀b ps,H b=some (.tbl ps)->∃more,H' b=some (.tbl (ps++more)))(ns:∀m,s.heap.Ns X.env.locals m->h'.Ns X.env.locals m)(hok:jy X.prog X.w H' h')(hg:AllBare g') :
  az X pins σ H' {s with heap:=h',gens:=g',drawn:=d',toks:=t'}:=by
 have T4:∀b o,X.s₀.heap.get? b=some o->b≠X.env.locals:=λb o e=>Xj (Xx (WX e) I.ok.above);have Q7:∀b o,X.s₀.heap.get? b=some o->b∉X.ex->b∉ch:=λb o e hx hb=>by
  rcases (GP b hb).1 with z|z
  ·exact hx z
  ·exact absurd (Xx (WX e) z) (YH _)
 have KL:∀x c,X.env.cells.lookup x=some c->∀v,s.heap.IsCell c v->h'.IsCell c v:=λx c e v h00=>by
  obtain⟨o,ho,hd⟩:=h00;have Qd:c∉ch:=λz=>(GP c z).2.2.1 x c e rfl;by_cases hc:c∈X.fs
  ·obtain⟨sl,q⟩:=slot c o (I.cne x c e) hc Qd ho (I.freeC x c e);exact⟨_,q,hd⟩
  ·exact⟨o,keep c o (I.cne x c e) hc Qd ho (I.freeC x c e),hd⟩
 refine⟨I.ok,I.os,hg,⟨λb o e n hb hx=>?_,λb o e n hb hx=>?_,λb o e n hx=>?_,λb o e hx=>?_,λb xs e=>tups b xs (I.base.tups b xs e),λb o xs e=>frzs b o xs (I.base.frzs b o xs e),λb ps e=>?_⟩,?_,λx c e=>?_,?_,λx c e=>?_,λp hp=>?_,hok,I.len⟩
 ·exact keep b o (T4 b o e) hb (Q7 b o e hx) (I.base.keep b o e n hb hx) (I.base.free b o e n hx)
 ·obtain⟨sl,e1⟩:=I.base.slot b o e n hb hx;obtain⟨sl',e2⟩:=slot b _ (T4 b o e) hb (Q7 b o e hx) e1 (I.base.free b o e n hx);exact⟨sl',e2⟩
 ·obtain⟨o',e1⟩:=I.base.there b o e hx;exact free b o' (Q7 b o e hx) e1 (I.base.free b o e n hx)
 ·obtain⟨o',e1⟩:=I.base.there b o e hx;exact there b o' (Q7 b o e hx) e1
 ·obtain⟨m1,e1⟩:=I.base.tbls b ps e;obtain⟨m2,e2⟩:=tbls b _ e1;exact⟨m1++m2,by rw[e2,Array.append_assoc]⟩
 ·obtain⟨m,hn,hl⟩:=I.loc;refine⟨m,ns m hn,λi x v e1 e2 e3=>?_⟩;obtain⟨u,r,l⟩:=hl i x v e1 e2 e3;refine⟨u,r,?_⟩;rcases l with l|⟨k,c,e,z⟩
  ·exact .inl l
  ·exact .inr ⟨k,c,e,KL x c e _ z⟩
 ·obtain⟨v,z⟩:=I.cell x c e;exact⟨v,KL x c e v z⟩
 ·obtain⟨m,⟨o,_,_,ho,_⟩,_⟩:=I.loc;exact free _ o (λz=>(GP _ z).2.1 rfl) ho I.free
 ·obtain⟨v,o,ho,hd⟩:=I.cell x c e;exact free c o (λz=>(GP c z).2.2.1 x c e rfl) ho (I.freeC x c e)
 ·obtain⟨e,n,ne,nf,d⟩:=I.pin p hp;have Qd:p.1∉ch:=λz=>(GP p.1 z).2.2.2 p hp rfl;exact⟨keep p.1 p.2 ne nf Qd e n,free p.1 p.2 Qd e n,ne,nf,d⟩
theorem az.un {t':Nat}(I:az X pins σ H s)(u:Un X.fs [] H H' s.heap h')(hok:jy X.prog X.w H' h'):az X pins σ H' {s with heap:=h',toks:=t'}:=by
 obtain⟨m,⟨o,es,ep,ho,r⟩,_⟩:=id I.loc;obtain⟨sl,hL⟩:=u.any ho I.free (by simp);exact I.step (g':=s.gens) (d':=s.drawn) (ch:=[]) (λ_ z=>nomatch z) (λb o _ hb _ e n=>u.keep b o e n hb (by simp)) (λb o _ hb _ e n=>u.slot b o e n hb (by simp)) (λb o _ e n=>u.free b o e n (by simp)) (λb o _ e=>u.there b o e (by simp)) u.tups u.frzs u.tbls (λm' hm=>by
  obtain⟨o',GH,ep',ho',r'⟩:=hm;rw[ho] at ho';cases ho';exact⟨_,GH,ep',hL,r'⟩) hok I.bare
theorem az.call {t':Nat}{g':Array GenState}{d':Drawn}(I:az X pins σ H s)(u:Un (Af X.stack) ch H H' s.heap h')(hok:jy X.prog X.w H' h')(hg:AllBare g')(GP:∀b∈ch,(b∈X.ex\/X.s₀.heap.objs.size<=b)/\b≠X.env.locals/\(∀x c,X.env.cells.lookup x=some c->c≠b)/\∀p∈X.pn++pins,p.1≠b) :
  az X pins σ H' {s with heap:=h',gens:=g',drawn:=d',toks:=t'}:=by
 obtain⟨m,⟨o,es,ep,ho,r⟩,_⟩:=id I.loc;obtain⟨sl,hL⟩:=u.any ho I.free λz=>(GP _ z).2.1 rfl;exact I.step (ch:=ch) GP (λb o hL hb hc e n=>u.keep b o e n (λz=>(WV.mp (I.stkSub b z)).elim hL hb) hc) (λb o _ _ hc e n=>u.any e n hc) (λb o hc e n=>u.free b o e n hc) (λb o hc e=>u.there b o e hc) u.tups u.frzs u.tbls (λm' hm=>by
  obtain⟨o',GH,ep',ho',r'⟩:=hm;rw[ho] at ho';cases ho';exact⟨_,GH,ep',hL,r'⟩) hok hg
theorem az.turned {t':Nat}(I:az X pins σ H s)(k:∀b o,b≠it->s.heap.get? b=some o->h'.get? b=some o)(hn:H it=none)(hL:it≠X.env.locals)(h1:it∈X.ex\/X.s₀.heap.objs.size<=it)(h2:∀x c,X.env.cells.lookup x=some c->c≠it)(h3:∀p∈X.pn++pins,p.1≠it):az X pins σ H {s with heap:=h',toks:=t'}:=by
 have T5:∀b u,H b=some u->b≠it:=λb u e z=>by rw[z,hn] at e;cases e
 refine I.step (g':=s.gens) (d':=s.drawn) (ch:=[it]) (λb hb=>?_) (λb o _ _ hc e _=>k b o (λz=>hc (by simp[z])) e) (λb o _ _ hc e _=>⟨o.slots,k b o (λz=>hc (by simp[z])) e⟩) (λ_ _ _ _ n=>n)
  (λb o hc e=>⟨o,k b o (λz=>hc (by simp[z])) e⟩) (λ_ _ e=>e) (λ_ _ _ e=>e) (λb ps e=>⟨#[],by rw[e];simp⟩) (λm hm=>?_) (λb u e=>?_) I.bare
 ·have e:b=it:=by simpa using hb
  subst e;exact⟨h1,hL,h2,h3⟩
 ·obtain⟨o,es,ep,ho,r⟩:=hm;exact⟨o,es,ep,k _ o (Ne.symm hL) ho,r⟩
 ·refine (I.hok b u e).stay (λc v hc q=>k c v ?_ q) (λ_ q=>q) λ_ _ q=>q;rcases hc with z|z
  ·rw[z];exact T5 b u e
  ·exact T5 c _ z
theorem az.tok (I:az X pins σ H s)(t:Nat):az X pins σ H {s with toks:=t}:=I.un (h':=s.heap) (t':=t) Un.refl I.hok
theorem az.kept {t':Nat}(I:az X pins σ H s)(k:∀b u,s.heap.get? b=some u->h'.get? b=some u):az X pins σ H {s with heap:=h',toks:=t'}:=I.un (Un.kept k) (I.hok.kept k)
theorem az.laid {t':Nat}{o:HO}(I:az X pins σ H s)(k:∀b u,s.heap.get? b=some u->h'.get? b=some u)(hp:s.heap.objs.size<=a)(new:bu X.prog X.w (bV H a o) h' a o) :
  az X pins σ (bV H a o) {s with heap:=h',toks:=t'}:=I.un (Un.laid k hp (I.hok.fresh hp)) (I.hok.laid k hp new)
theorem az.write {t':Nat}{x e:W7}{o:HO}(I:az X pins σ H s)(mu:NJ (H x))(he:e=x\/H e=some (.own x))(k:∀b u,b≠e->s.heap.get? b=some u->h'.get? b=some u)(NR:∃u,h'.get? e=some u)(new:bu X.prog X.w (bV H x o) h' x o):az X pins σ (bV H x o) {s with heap:=h',toks:=t'}:=I.un (Un.write mu he k NR) (I.hok.write mu he k NR new)
theorem az.pins_of {KN:List (W7×Obj)}(I:az X pins σ H s)(h:∀p∈KN,s.heap.get? p.1=some p.2/\H p.1=none/\p.1≠X.env.locals/\p.1∉X.fs/\∀v,p.2.data≠.cell v):az X KN σ H s:=
 ⟨I.ok,I.os,I.bare,I.base,I.loc,I.cell,I.free,I.freeC,λp hp=>(W0.mp hp).elim (λz=>I.pin p (Xn _ z)) (h p),I.hok,I.len⟩
theorem vZ (hN:N.Nodup)(a:N[i]? = some x)(b:N[j]? = some x):i=j:=by
 obtain⟨h1,e1⟩:=WL.mp a;obtain⟨h2,e2⟩:=WL.mp b;exact (List.getElem_inj hN).mp (e1.trans e2.symm)
theorem BZ {A:XD}{u:WM}{Q:Unit->WY->Prop}(I:az X pins σ H s)(hN:X.N.Nodup)(hi:X.N[i]? = some x)(hx:Jr X.env.scope x)(r:aN v u)(h:∀s',az X pins (σ.set i (some v)) H s'->(∃a,Yg a s.heap s'.heap/\(a=X.env.locals\/X.env.cells.lookup x=some a))->Q () s')(hf:X.fn x=true\/X.env.scope.names.lookup x=some .local:=by first|exact .inl rfl|exact .inr rfl|assumption):W4 M A (storeName X.env x u) Q E s:=by
 obtain⟨m,hn,hl⟩:=id I.loc;have So:(X.env.scope.kind==.class||(X.env.scope.kind==.module&&X.env.locals != X.env.globals))=false:=by rw[I.ok.kind];rfl
 have T6:i<σ.length:=by rw[I.len];exact (WL.mp hi).1
 have cne:=I.cne;have BO:∀{a:W7} {h':ZG},(∃o,s.heap.get? a=some o/\H a=none)->Yg a s.heap h'->jy X.prog X.w H h':=λ{a h'} ha hs b ob e=>by
  obtain⟨_,_,rX⟩:=ha;refine (I.hok b ob e).stay (λc w' hc q=>(hs.2 c ?_).trans q) (λ_ q=>q) λ_ _ q=>q;rintro rfl;rcases hc with rfl|hc
  ·rw[rX] at e;cases e
  ·rw[rX] at hc;cases hc
 rcases hx with hk|hk
 ·refine wpAny_storeName_local hk hn (λh' NT hs=>?_) So;obtain⟨oL,_,_,Nw,_⟩:=id hn;refine h _ ⟨I.ok,I.os,I.bare,⟨λb o e n hb hx=>?_,λb o e n hb hx=>?_,I.base.free,λb o e hx=>?_,I.base.tups,I.base.frzs,I.base.tbls⟩,⟨_,NT,λj y v' e1 e2 e3=>?_⟩,λy c e=>?_,I.free,I.freeC,λp hp=>?_,BO ⟨oL,Nw,I.free⟩ hs,by simpa using I.len⟩ ⟨_,hs,.inl rfl⟩
  ·exact (hs.2 b (Xj (Xx (WX e) I.ok.above))).trans (I.base.keep b o e n hb hx)
  ·obtain⟨sl,e1⟩:=I.base.slot b o e n hb hx;exact⟨sl,(hs.2 b (Xj (Xx (WX e) I.ok.above))).trans e1⟩
  ·obtain⟨o',e1⟩:=I.base.there b o e hx;exact⟨o',(hs.2 b (Xj (Xx (WX e) I.ok.above))).trans e1⟩
  ·by_cases hj:j=i
   ·subst hj;rw[hi] at e1;cases e1;rw[Zj T6] at e2;cases e2;exact⟨u,r,.inl ⟨hk,by simp⟩⟩
   ·rw[Xs (Ne.symm hj)] at e2;obtain⟨u',r',q⟩:=hl j y v' e1 e2 e3;refine⟨u',r',?_⟩;rcases q with⟨k,e⟩|⟨k,c,e,z⟩
    ·refine .inl ⟨k,?_⟩;have:y≠x:=λe=>hj (vZ hN e1 (e▸hi));simp[this,e]
    ·exact .inr ⟨k,c,e,z.sameBut hs (cne y c e)⟩
  ·obtain⟨w',z⟩:=I.cell y c e;exact⟨w',z.sameBut hs (cne y c e)⟩
  ·obtain⟨e,n,ne,nf,d⟩:=I.pin p hp;exact⟨(hs.2 p.1 ne).trans e,n,ne,nf,d⟩
 ·have Sq:X.fn x=true:=by
   rcases hf with z|z
   ·exact z
   ·rw[z] at hk;cases hk
  obtain⟨c,hc⟩:=I.ok.has x (.inl hk);obtain⟨w',z⟩:=I.cell x c hc;refine wpAny_storeName_cell I.ok.kind hk hc z (λh' Q8 hs=>?_);obtain⟨oc,hoc,hocd⟩:=id z;refine h {s with heap:=h'} ⟨I.ok,I.os,I.bare,⟨λb o e n hb hx=>?_,λb o e n hb hx=>?_,I.base.free,λb o e hx=>?_,I.base.tups,I.base.frzs,I.base.tbls⟩,⟨m,hn.sameBut hs (Ne.symm (cne x c hc)),λj y v' e1 e2 e3=>?_⟩,λy c' e=>?_,I.free,I.freeC,λp hp=>?_,BO ⟨oc,hoc,I.freeC x c hc⟩ hs,by simpa using I.len⟩ ⟨c,hs,.inr hc⟩
  ·exact (hs.2 b (Xj (Xx (WX e) (I.ok.cab x c Sq hc)))).trans (I.base.keep b o e n hb hx)
  ·obtain⟨sl,e1⟩:=I.base.slot b o e n hb hx;exact⟨sl,(hs.2 b (Xj (Xx (WX e) (I.ok.cab x c Sq hc)))).trans e1⟩
  ·obtain⟨o',e1⟩:=I.base.there b o e hx;exact⟨o',(hs.2 b (Xj (Xx (WX e) (I.ok.cab x c Sq hc)))).trans e1⟩
  ·by_cases hj:j=i
   ·subst hj;rw[hi] at e1;cases e1;rw[Zj T6] at e2;cases e2;exact⟨u,r,.inr ⟨.inl hk,c,hc,Q8⟩⟩
   ·rw[Xs (Ne.symm hj)] at e2;obtain⟨u',r',q⟩:=hl j y v' e1 e2 e3;refine⟨u',r',?_⟩;rcases q with q|⟨k,c',e,z'⟩
    ·exact .inl q
    ·refine .inr ⟨k,c',e,z'.sameBut hs ?_⟩;rintro rfl;exact hj (vZ hN e1 (I.ok.inj _ _ _ e hc▸hi))
  ·by_cases hcc:c'=c
   ·subst hcc;exact⟨_,Q8⟩
   ·obtain⟨w2,z2⟩:=I.cell y c' e;exact⟨w2,z2.sameBut hs hcc⟩
  ·obtain⟨e,n,ne,nf,d⟩:=I.pin p hp;refine⟨(hs.2 p.1 ?_).trans e,n,ne,nf,d⟩;intro q;rw[q,hoc] at e;have q':oc=p.2:=Xa e;exact d w' (by rw[←q'];exact hocd)
theorem lQ {A:XD}{u:WM}{Q:Unit->WY->Prop}(I:az X pins σ H s)(hN:X.N.Nodup)(hi:X.N[i]? = some x)(hx:Jr X.env.scope x)(r:aN v u)(h:∀s',az X pins (σ.set i (some v)) H s'->Q () s')(hf:X.fn x=true\/X.env.scope.names.lookup x=some .local:=by first|exact .inl rfl|exact .inr rfl|assumption):W4 M A (storeName X.env x u) Q E s:=
 BZ I hN hi hx r (λs' I' _=>h s' I') hf
theorem az.call' {s':WY}(I:az X pins σ H s)(ho:s'.os=s.os)(u:Un (Af X.stack) ch H H' s.heap s'.heap)(hok:jy X.prog X.w H' s'.heap)(hg:AllBare s'.gens)(GP:∀b∈ch,(b∈X.ex\/X.s₀.heap.objs.size<=b)/\b≠X.env.locals/\(∀x c,X.env.cells.lookup x=some c->c≠b)/\∀p∈X.pn++pins,p.1≠b):az X pins σ H' s':=by
 obtain⟨h',g',d',t',o'⟩:=s';have e:o'=s.os:=ho;subst e;exact I.call (g':=g') (t':=t') (d':=d') u hok hg GP
end
abbrev XK:=WM->Option W7->Hp->Prop
noncomputable abbrev St:=List (Option V)
abbrev VK:=V->Hp->Prop
abbrev TE:=St->Hp->VK->Prop
abbrev TT:=St->Hp->(Bool->Hp->Prop)->Prop
abbrev TA:=St->Hp->(List V->Hp->Prop)->Prop
structure kT where
 nx:St->Hp->Prop
 rt:VK
 bk:St->Hp->Prop:=λ_ _=>False
 ct:St->Hp->Prop:=λ_ _=>False
abbrev TS:=kT->St->Hp->Prop
def EP (X:Cx)(pins:List (W7×Obj))(σ:St)(Q:VK)(u:WM)(s':WY):Prop:=∃v H',az X pins σ H' s'/\aN v u/\Q v H'
def TP (X:Cx)(pins:List (W7×Obj))(σ:St)(Q:Bool->Hp->Prop)(b:Bool)(s':WY):Prop:=∃H',az X pins σ H' s'/\Q b H'
def AP (X:Cx)(pins:List (W7×Obj))(σ:St)(Q:List V->Hp->Prop)(us:List WM)(s':WY):Prop:=∃vs H',az X pins σ H' s'/\aQ vs us/\Q vs H'
def SP (X:Cx)(pins:List (W7×Obj))(D:kT)(f:Flow)(s':WY):Prop:=
 match f with
 | .next=>∃σ' H',az X pins σ' H' s'/\D.nx σ' H'
 | .brk=>∃σ' H',az X pins σ' H' s'/\D.bk σ' H'
 | .cont=>∃σ' H',az X pins σ' H' s'/\D.ct σ' H'
 | .ret u=>∃v σ' H',az X pins σ' H' s'/\aN v u/\D.rt v H'
def PE (X:Cx)(e:YO)(t:TE):Prop:=
 ∀(pins:List (W7×Obj)) (s:WY) (σ:St) (H:Hp) (Q:VK),az X pins σ H s->t σ H Q->W4 (Xg X.prog X.w) X.A (Z4 e X.env) (EP X pins σ Q) X.xe s
def PT (X:Cx)(e:YO)(t:TT):Prop:=
 ∀(pins:List (W7×Obj)) (s:WY) (σ:St) (H:Hp) (Q:Bool->Hp->Prop),az X pins σ H s->t σ H Q->W4 (Xg X.prog X.w) X.A (isTrue e X.env (Z4 e X.env)) (TP X pins σ Q) X.xe s
def PW (X:Cx)(e:YO)(t:TT):Prop:=
 ∀(mQ:Sem WM) (pins:List (W7×Obj)) (s:WY) (σ:St) (H:Hp) (Q:Bool->Hp->Prop),az X pins σ H s->t σ H Q->W4 (Xg X.prog X.w) X.A (isTrue e X.env mQ) (TP X pins σ Q) X.xe s
theorem PW.pt {X:Cx}{e:YO}{t:TT}(h:PW X e t):PT X e t:=h _
def PA (X:Cx)(es:List YO)(t:TA):Prop:=
 ∀(pos:Pos) (pins:List (W7×Obj)) (s:WY) (σ:St) (H:Hp) (Q:List V->Hp->Prop),az X pins σ H s->t σ H Q->W4 (Xg X.prog X.w) X.A (spliced (Zl pos (W5 es X.env))) (AP X pins σ Q) X.xe s
def PS (X:Cx)(st:abM)(t:TS):Prop:=
 ∀(pins:List (W7×Obj)) (s:WY) (σ:St) (H:Hp) (D:kT),az X pins σ H s->t D σ H->W4 (Xg X.prog X.w) X.A (exec st X.env) (SP X pins D) X.xe s
def sd (X:Cx)(st:List abM)(t:TS):Prop:=
 ∀(pins:List (W7×Obj)) (s:WY) (σ:St) (H:Hp) (D:kT),az X pins σ H s->t D σ H->W4 (Xg X.prog X.w) X.A (execs st X.env) (SP X pins D) X.xe s
theorem du {α:Type}{t:Sem α}{Q Q':α->WY->Prop}{A:XD}(h:W4 M A t Q E s)(hQ:∀a s,Q a s->Q' a s):W4 M A t Q' E s:=Yc h hQ λ_ _ x=>x
end L2
variable {X:L2.Cx}{σ:L2.St}{te:L2.TE}
namespace L2
section
theorem V8 {a b:YO}{ta tb:TE}(ha:PE X a ta)(hb:PE X b tb){R:V->V->Hp->Prop}(I:az X pins σ H s)(h:ta σ H λx H1=>tb σ H1 λy H2=>R x y H2){α:Type}{Q:α->WY->Prop}{f:WM->WM->Sem α}(hf:∀v u s2 x y H2,az X pins σ H2 s2->aN x v->aN y u->R x y H2->W4 (Xg X.prog X.w) X.A (f v u) Q X.xe s2) :
  W4 (Xg X.prog X.w) X.A (Z4 a X.env) (λv s₁=>W4 (Xg X.prog X.w) X.A (Z4 b X.env) (λu s₂=>W4 (Xg X.prog X.w) X.A (f v u) Q X.xe s₂) X.xe s₁) X.xe s:=by
 refine du (ha pins s σ H _ I h) λv s1 ⟨x,H1,I1,r1,q1⟩=>?_;refine du (hb pins s1 σ H1 _ I1 q1) λu s2 ⟨y,H2,I2,r2,q2⟩=>?_;exact hf v u s2 x y H2 I2 r1 r2 q2
def G2 (i:Nat):TE:=λσ H Q=>∃v,σ[i]? = some (some v)/\Q v H
def tC (v:V):TE:=λ_ H Q=>Q v H
theorem gx (hN:X.N[i]? = some x)(hv:BY X.env.scope x)(hd:(x==("__debug__":Str))=false:=by decide)(lE:(x==("__classdict__":Str))=false:=by decide):PE X (.Name x pos) (G2 i):=by
 intro pins s σ H Q I h;obtain⟨v,e,h⟩:=h;obtain⟨m,hn,hl⟩:=I.loc;obtain⟨u,r,l⟩:=hl i x v hN e hv;have fin:EP X pins σ Q u s:=⟨v,H,I,r,h⟩;rcases l with⟨hk,hm⟩|⟨hk,c,hc,uq⟩
 ·exact wpAny_Name (wpAny_loadName_local I.ok.kind hk hn hm fin) hd
 ·rcases hk with hk|hk
  ·exact wpAny_Name (wpAny_loadName_cell I.ok.kind hk hc uq fin) hd
  ·exact wpAny_Name (wpAny_loadName_free I.ok.kind hk hc uq fin lE) hd
theorem K8 {i j pos}:PE X (.Constant (.int i) j pos) (tC (.int i)):=λ_ _ _ H _ I h=>wpAny_Constant_int ⟨.int i,H,I.tok _,⟨_,rfl⟩,h⟩
theorem N2 {b j pos}:PE X (.Constant (.bool b) j pos) (tC (.bl b)):=λ_ _ _ H _ I h=>Constant_bool ⟨.bl b,H,I,rfl,h⟩
def Gl (X:Cx)(x:Str):Prop:=X.env.kindOf x=some .globalImplicit
theorem G3 {u:WM}(I:az X pins σ H s)(hg:Gl X x)(hm:X.mg x=some u)(h:Q u s)(hd:(x==("__debug__":Str))=false:=by decide):W4 (Xg X.prog X.w) X.A (Z4 (.Name x pos) X.env) Q E s:=
 abZ I.ok.kind hg (Calls.loadGlobal_global (by rw[I.ok.glob];exact I.mod.glob.keeps I.bk) hm h) hd
theorem p0 {u:WM}(I:az X pins σ H s)(hg:Gl X x)(hm:X.mg x=none)(hv:XB x=some u)(h:Q u s)(hn:x≠"__name__":=by decide)(hd:(x==("__debug__":Str))=false:=by decide):W4 (Xg X.prog X.w) X.A (Z4 (.Name x pos) X.env) Q E s:=by
 obtain⟨mb,h1,h2⟩:=I.mod.blt;exact abZ I.ok.kind hg (Calls.loadGlobal_builtin (by rw[I.ok.glob];exact I.mod.glob.keeps I.bk) hm (by rw[I.ok.blt];exact h1.keeps I.bk) ((h2 x hn).trans hv) h) hd
theorem ux {u:WM}(hg:Gl X x)(hm:X.mg x=none)(hv:XB x=some u)(r:aN v u)(hn:x≠"__name__":=by decide)(hd:(x==("__debug__":Str))=false:=by decide):PE X (.Name x pos) (tC v):=
 λ_ _ _ H _ I h=>p0 I hg hm hv ⟨v,H,I,r,h⟩ hn hd
variable {a b:YO}{ta tb:TE}
def PC (X:Cx)(op:CmpOp)(a b:YO)(t:TE):Prop:=
 ∀(pins:List (W7×Obj)) (s:WY) (σ:St) (H:Hp) (Q:VK),az X pins σ H s->t σ H Q->
  W4 (Xg X.prog X.w) X.A (Z4 a X.env) (λv s₁=>W4 (Xg X.prog X.w) X.A (Z4 b X.env) (λu s₂=>W4 (Xg X.prog X.w) X.A (Z7 op v u) (EP X pins σ Q) X.xe s₂) X.xe s₁) X.xe s
def tB (t:TE):TT:=λσ H Q=>t σ H λx H1=>∃c,x=.bl c/\Q c H1
theorem Rk {t:TE}(h:PC X op a b t)(h1:aag op b=false:=by first|exact nobehind _ (by decide) (by decide)|rfl):PT X (.Compare a [op] [b] pos) (tB t):=by
 intro pins s σ H Q I hw;refine wpAny_isTrue_Compare1 (du (h pins s σ H _ I hw) λv s1 h1=>du h1 λu s2 h2=>du h2 λc s3 ⟨x,H1,I1,r1,q1⟩=>?_) h1;obtain⟨d,rfl,q⟩:=q1;cases r1;exact ZJ ⟨H1,I1,q⟩
theorem K9 {e:YO}{t:TE}(h:PE X e t)(he:∀mQ,isTrue e X.env mQ=(do let v ←mQ;standAt e.pos;holding [v] (truthy v)):=by intro _;rfl):PT X e (tB t):=by
 intro pins s σ H Q I hw;refine isTrue_plain (du (h pins s σ H _ I hw) λv s1 ⟨x,H1,I1,r1,q1⟩=>?_) (he _);obtain⟨d,rfl,q⟩:=q1;cases r1;exact ZJ ⟨H1,I1,q⟩
variable {tA tB':TT}{rest:List YO}
def Tf (t u:TT):TT:=λσ H Q=>t σ H λc H1=>if c=true then Q true H1 else u σ H1 Q
def Rl (t:TT):TT:=λσ H Q=>t σ H λc H1=>Q (!c) H1
theorem K_ (ha:PT X a tA):PW X (.BoolOp .Or [a] pos) tA:=by
 intro wh pins s σ H Q I h;refine isTrue_or (du (ha pins s σ H Q I h) λc s1 e=>?_);cases c with
 |false=>exact isTrue_or_nil e
 |true=>exact e
theorem N3 (ha:PT X a tA)(hb:PW X (.BoolOp .Or (b::rest) pos) tB'):PW X (.BoolOp .Or (a::b::rest) pos) (Tf tA tB'):=by
 intro wh pins s σ H Q I h;refine isTrue_or (du (ha pins s σ H _ I h) λc s1 ⟨H1,I1,q1⟩=>?_);cases c with
 |true=>exact⟨H1,I1,q1⟩
 |false=>exact hb wh pins s1 σ H1 Q I1 q1
theorem La (ha:PT X a tA):PT X (.UnaryOp .Not a pos) (Rl tA):=by
 intro pins s σ H Q I h;exact isTrue_not (ha pins s σ H (λc H1=>Q (!c) H1) I h)
def N4 (ta tb:TE):TE:=λσ H Q=>ta σ H λx H1=>∃c,x=.bl c/\if c=true then tb σ H1 Q else Q (.bl false) H1
theorem Lb {op}{t:TE}(h:PE X a t):PE X (.BoolOp op [a] pos) t:=λpins s σ H Q I hw=>BoolOp_one (h pins s σ H Q I hw)
theorem Lc (ha:PE X a ta)(hb:PE X (.BoolOp .And (b::rest) pos) tb):PE X (.BoolOp .And (a::b::rest) pos) (N4 ta tb):=by
 intro pins s σ H Q I h;refine BoolOp_and (du (ha pins s σ H _ I h) λv s1 ⟨x,H1,I1,r1,q1⟩=>?_);obtain⟨c,rfl,q1⟩:=q1;cases r1;refine ZJ ?_;cases c with
 |true=>exact hb pins s1 σ H1 Q I1 q1
 |false=>exact⟨.bl false,H1,I1,rfl,q1⟩
end
end L2
namespace L2
def eF (K:WH)(H:Hp)(a:W7)(xs:List V):Prop:=
 Rd H a (.lst xs) \/
  ∃(o:Obj) (ao:Array WM) (n:Nat),K.lookup a=some o/\o.cls=.type "list"/\o.dict=none/\o.data=.seq ao n/\ao.size<=WJ/\aQ xs ao.toList
def fQ (K:WH)(H:Hp)(a:W7)(xs:List V):Prop:=
 Rd H a (.tup xs) \/
  ∃(o:Obj) (ao:Array WM) (n:Nat),K.lookup a=some o/\o.cls=.type "tuple"/\o.data=.seq ao n/\ao.size<=WJ/\aQ xs ao.toList
noncomputable def Rm:WM->Option V
 | .none=>some .non
 | .bool b=>some (.bl b)
 | .int i _=>some (.int i)
 | .str x _=>some (.str x)
 | .bytes b _=>some (.byt b)
 | .float b _=>some (.flt b)
 | .ref a=>some (.ref a)
 | .type n=>some (.ty n)
 |_=>none
theorem aN.abs {x:V}{u:WM}(r:aN x u):Rm u=some x:=by
 cases x with
 |non=>cases r;rfl
 |bl _=>cases r;rfl
 |int _=>obtain⟨t,rfl⟩:=r;rfl
 |str _=>obtain⟨t,rfl⟩:=r;rfl
 |byt _=>obtain⟨t,rfl⟩:=r;rfl
 |flt _=>obtain⟨t,rfl⟩:=r;rfl
 |ref _=>cases r;rfl
 |ty _=>cases r;rfl
theorem aN.inj {x:V}{u:WM}(r:aN x u)(q:aN y u):x=y:=Xa (r.abs.symm.trans q.abs)
theorem aQ.inj:∀{xs ys:List V} {us:List WM},aQ xs us->aQ ys us->xs=ys
 |_,_,_,.nil,.nil=>rfl
 |_,_,_,.cons r t,.cons r' t'=>by rw[r.inj r',aQ.inj t t']
section
variable {ys:List V}
theorem eF.of (h:H a=some (.lst xs)):eF K H a xs:=.inl (.inl h)
theorem fQ.of (h:H a=some (.tup xs)):fQ K H a xs:=.inl (.inl h)
theorem az.list (I:az X pins σ H s)(h:eF X.K H a xs):∃ao:List WM,aQ xs ao/\PlainL s.heap a ao.toArray/\xs.length<=WJ:=by
 rcases h with h|⟨o,ao,n,hk,hc,hd,hs,hz,r⟩
 ·obtain⟨z,ao,n,r,e⟩:=h.ok I.hok;exact⟨ao,r,⟨_,n,e,rfl,rfl,rfl⟩,z⟩
 ·refine⟨ao.toList,r,⟨o,n,I.kIn a o hk,hc,hd,by simpa using hs⟩,?_⟩;have e:=r.length;simp only[WO] at e;lia
theorem az.tuple (I:az X pins σ H s)(h:fQ X.K H a xs):∃ao:List WM,aQ xs ao/\IsTup s.heap a ao.toArray/\xs.length<=WJ:=by
 rcases h with h|⟨o,ao,n,hk,hc,hs,hz,r⟩
 ·obtain⟨z,ao,r,p,_⟩:=h.ok I.hok;exact⟨ao,r,p,z⟩
 ·refine⟨ao.toList,r,⟨o,I.kIn a o hk,hc,n,by simpa using hs⟩,?_⟩;have e:=r.length;simp only[WO] at e;lia
theorem az.list_inj (I:az X pins σ H s)(h:eF X.K H a xs)(h':eF X.K H a ys):xs=ys:=by
 obtain⟨ao,r,⟨o,n,e,_,_,d⟩,_⟩:=I.list h;obtain⟨its',r',⟨o',n',e',_,_,d'⟩,_⟩:=I.list h';rw[e] at e';cases e';rw[d] at d';injection d' with d1 _
 have:ao=its':=by simpa using congrArg Array.toList d1
 subst this;exact r.inj r'
theorem az.tuple_inj (I:az X pins σ H s)(h:fQ X.K H a xs)(h':fQ X.K H a ys):xs=ys:=by
 obtain⟨ao,r,⟨o,e,_,n,d⟩,_⟩:=I.tuple h;obtain⟨its',r',⟨o',e',_,n',d'⟩,_⟩:=I.tuple h';rw[e] at e';cases e';rw[d] at d';injection d' with d1 _
 have:ao=its':=by simpa using congrArg Array.toList d1
 subst this;exact r.inj r'
end
noncomputable abbrev Cx.wish (X:Cx)(E:WM->WY->Prop):Cx:={X with xe:=E}
noncomputable abbrev Cx.nox (X:Cx):Cx:=X.wish λ_ _=>False
theorem Cx.Ok.wish (ok:X.Ok)(E:WM->WY->Prop):(X.wish E).Ok:=
 ⟨ok.mod,ok.kind,ok.glob,ok.blt,ok.above,ok.inj,ok.has,ok.cab,ok.hd,ok.frames,ok.stk,ok.exf,ok.bs,ok.bsz,ok.noex,ok.exfs,ok.funs,ok.frf⟩
theorem Cx.Ok.unwish (ok:(X.wish E).Ok):X.Ok:=
 ⟨ok.mod,ok.kind,ok.glob,ok.blt,ok.above,ok.inj,ok.has,ok.cab,ok.hd,ok.frames,ok.stk,ok.exf,ok.bs,ok.bsz,ok.noex,ok.exfs,ok.funs,ok.frf⟩
theorem az.wish (I:az X pins σ H s)(E:WM->WY->Prop):az (X.wish E) pins σ H s:=⟨I.ok.wish E,I.os,I.bare,I.base,I.loc,I.cell,I.free,I.freeC,I.pin,I.hok,I.len⟩
theorem az.unwish (I:az (X.wish E) pins σ H s):az X pins σ H s:=⟨I.ok.unwish,I.os,I.bare,I.base,I.loc,I.cell,I.free,I.freeC,I.pin,I.hok,I.len⟩
theorem SP.unwish {D:kT}{f:Flow}{s':WY}(h:SP (X.wish E) pins D f s'):SP X pins D f s':=by
 cases f with
 |next=>obtain⟨σ',H',I,q⟩:=h;exact⟨σ',H',I.unwish,q⟩
 |brk=>obtain⟨σ',H',I,q⟩:=h;exact⟨σ',H',I.unwish,q⟩
 |cont=>obtain⟨σ',H',I,q⟩:=h;exact⟨σ',H',I.unwish,q⟩
 |ret u=>obtain⟨v,σ',H',I,r,q⟩:=h;exact⟨v,σ',H',I.unwish,r,q⟩
theorem sd.nox {st:List abM}{t:TS}(h:sd X.nox st t):sd X st t:=λpins s σ H D I hw=>
 Yc (h pins s σ H D (I.wish _) hw) (λ_ _ q=>q.unwish) λ_ _ z=>aah z
section
variable {rest:List abM}{t u:TS}{e:YO}
def N5:TS:=λD σ H=>D.nx σ H
def Rn (t u:TS):TS:=λD σ H=>t {D with nx:=u D} σ H
theorem G4:sd X [] N5:=λ_ _ σ H _ I h=>abO ⟨σ,H,I,h⟩
theorem Dm (h1:PS X st t)(h2:sd X rest u):sd X (st::rest) (Rn t u):=by
 intro pins s σ H D I h;refine wpAny_execs_cons (du (h1 pins s σ H {D with nx:=u D} I h) λf s1 q=>?_);cases f with
 |next=>
  obtain⟨σ',H',I',q⟩:=q;exact h2 pins s1 σ' H' D I' q
 |ret v=>exact q
 |brk=>exact q
 |cont=>exact q
theorem Ag (h1:PS X st t):sd X [st] t:=by
 intro pins s σ H D I h;refine wpAny_execs_cons (du (h1 pins s σ H D I h) λf s1 q=>?_);cases f with
 |next=>exact abO q
 |ret v=>exact q
 |brk=>exact q
 |cont=>exact q
theorem az.quiet (I:az X pins σ H s):interactive X.env=false:=by simp[interactive,I.ok.kind]
def N6 (te:TE):TS:=λD σ H=>te σ H λ_ H1=>D.nx σ H1
theorem Ah (he:PE X e te)(hs:abq e none pos.line X.env=pure false:=by rfl):PS X (.Expr e pos) (N6 te):=by
 intro pins s σ H D I h;exact wpAny_Expr_any (du (he pins s σ H _ I h) λv s1 ⟨x,H1,I1,r1,q1⟩=>⟨σ,H1,I1,q1⟩) I.quiet hs
def Ro (te:TE):TS:=λD σ H=>te σ H D.rt
theorem yy (he:PE X e te):PS X (.Return (some e) pos) (Ro te):=by
 intro pins s σ H D I h;exact wpAny_Return_some (du (he pins s σ H _ I h) λv s1 ⟨x,H1,I1,r1,q1⟩=>⟨x,σ,H1,I1,r1,q1⟩)
def Rq (c:TT)(t u:TS):TS:=λD σ H=>c σ H λb H1=>if b=true then t D σ H1 else u D σ H1
theorem N7 {c:YO}{a b:List abM}{tc:TT}(hc:PT X c tc)(ha:sd X a t)(hb:sd X b u):PS X (.If c a b pos) (Rq tc t u):=by
 intro pins s σ H D I h;refine wpAny_If (du (hc pins s σ H _ I h) λd s1 ⟨H1,I1,q1⟩=>?_);cases d with
 |true=>exact ha pins s1 σ H1 D I1 q1
 |false=>exact hb pins s1 σ H1 D I1 q1
end
abbrev TG:=V->St->Hp->(St->Hp->Prop)->Prop
abbrev G5:=List V->St->Hp->(St->Hp->Prop)->Prop
def PG (X:Cx)(nI:YO)(t:TG):Prop:=
 ∀(pins:List (W7×Obj)) (s:WY) (σ:St) (H:Hp) (v:V) (u:WM) (Q:St->Hp->Prop),az X pins σ H s->aN v u->t v σ H Q->
  W4 (Xg X.prog X.w) X.A (assign nI X.env u) (λ_ s'=>∃σ' H',az X pins σ' H' s'/\Q σ' H') X.xe s
def Js (X:Cx)(ts:List YO)(t:G5):Prop:=
 ∀(pins:List (W7×Obj)) (s:WY) (σ:St) (H:Hp) (vs:List V) (us:List WM) (Q:St->Hp->Prop),az X pins σ H s->aQ vs us->t vs σ H Q->
  W4 (Xg X.prog X.w) X.A (assignInOrder ((ZX ts X.env).map (·.2)) us) (λ_ s'=>∃σ' H',az X pins σ' H' s'/\Q σ' H') X.xe s
abbrev Ld:=V->V->V->Hp->(Hp->Prop)->Prop
def N8 (X:Cx)(t:Ld):Prop:=
 ∀(pins:List (W7×Obj)) (s:WY) (σ:St) (H:Hp) (o i v:V) (ov iv u:WM) (Q:Hp->Prop),az X pins σ H s->aN o ov->aN i iv->aN v u->t o i v H Q->
  W4 (Xg X.prog X.w) X.A (setItem ov iv u) (λ_ s'=>∃H',az X pins σ H' s'/\Q H') X.xe s
def Ai (i:Nat):TG:=λv σ H Q=>Q (σ.set i (some v)) H
theorem G6 (hN:X.N.Nodup)(hi:X.N[i]? = some x)(hx:Jr X.env.scope x)(hf:X.fn x=true\/X.env.scope.names.lookup x=some .local:=by first|exact .inl rfl|exact .inr rfl|assumption):PG X (.Name x pos) (Ai i):=by
 intro pins s σ H v u Q I r h;exact wpAny_assign_Name (lQ I hN hi hx r (λs' I'=>⟨_,H,I',h⟩) hf)
def Rr:G5:=λvs σ H Q=>vs=[]/\Q σ H
def N9 (t:TG)(u:G5):G5:=λvs σ H Q=>∃v r,vs=v::r/\t v σ H λσ' H'=>u r σ' H' Q
theorem G7:Js X [] Rr:=by
 intro pins s σ H vs us Q I r h;obtain⟨e,h⟩:=h;subst e;cases r;exact assignInOrder_nil ⟨σ,H,I,h⟩
theorem Dn {e:YO}{es:List YO}{t:TG}{u:G5}(h1:PG X e t)(h2:Js X es u)
  (hs:(ZX (e::es) X.env).map (·.2)=assign e X.env::(ZX es X.env).map (·.2):=by rfl):Js X (e::es) (N9 t u):=by
 intro pins s σ H vs us Q I r h;obtain⟨v,vr,e1,h⟩:=h;subst e1;cases r with
 |cons r rr=>
  rw[hs];refine ab7 (du (h1 pins s σ H _ _ _ I r h) λ_ s1 ⟨σ1,H1,I1,q1⟩=>?_);exact h2 pins s1 σ1 H1 _ _ Q I1 rr q1
def Rt (K:WH)(n:Nat)(t:G5):TG:=λv σ H Q=>∃a xs,v=.ref a/\fQ K H a xs/\xs.length=n/\t xs σ H Q
theorem Le {es:List YO}{t:G5}(hc:X.calm=true)(h:Js X es t)(hn:(ZX es X.env).length=n:=by rfl)(iB:(ZX es X.env).findIdx? (·.1)=none:=by rfl):PG X (.Tuple es k pos) (Rt X.K n t):=by
 intro pins s σ H v u Q I r hw;obtain⟨a,xs,e1,hq,hl,hw⟩:=hw;subst e1;cases r;obtain⟨ao,rv,ht,hz⟩:=I.tuple hq;refine assign_Tuple_tuple (I.ok.hd hc) ht (by simp[hn,←hl,rv.length]) iB λh' hx=>?_;have I1:az X pins σ H {s with heap:=h'}:=I.kept (t':=s.toks) λb o e=>hx b o (Xj (WX e)) e;exact h pins _ σ H xs _ Q I1 (by simpa using rv) hw
def Ru (to ti:TE)(t:Ld):TG:=λv σ H Q=>to σ H λo H1=>ti σ H1 λi H2=>t o i v H2 λH3=>Q σ H3
theorem Lf {o i:YO}{to ti:TE}{t:Ld}(ho:PE X o to)(hi:PE X i ti)(hs:N8 X t)
  (ha:∀v,assign (.Subscript o i pos) X.env v=(do
   let ov ←holding [v] (Z4 o X.env)
   let iv ←holding [v,ov] (Z4 i X.env)
   standAt pos
   holding [v,ov,iv] (setItem ov iv v)
   release [v,ov,iv] []):=by intro _;rfl):PG X (.Subscript o i pos) (Ru to ti t):=by
 intro pins s σ H v u Q I r h;rw[ha];refine Wy (Yl (du (ho pins s σ H _ I h) λov s1 ⟨x,H1,I1,r1,q1⟩=>?_));refine Wy (Yl (du (hi pins s1 σ H1 _ I1 q1) λiv s2 ⟨y,H2,I2,r2,q2⟩=>?_));refine Wy (wpAny_standAt (Wy (Yl (du (hs pins s2 σ H2 x y v ov iv u _ I2 r1 r2 r q2) λ_ s3 ⟨H3,I3,q3⟩=>?_))));exact wpAny_release ⟨σ,H3,I3,q3⟩
def G8 (te:TE)(g:TG):TS:=λD σ H=>te σ H λx H1=>g x σ H1 D.nx
theorem Lg {e:YO}{g:TG}(he:PE X e te)(hg:PG X tg g)(hs:swapsWithSole [tg] e pos.line X.env=pure false:=by rfl)(hw:swappedStores [tg] e X.env=pure none:=by rfl)(h1:(ZX [tg] X.env).map (·.2)=[assign tg X.env]:=by rfl):PS X (.Assign [tg] e pos) (G8 te g):=by
 intro pins s σ H D I h;refine wpAny_Assign_stores (du (he pins s σ H _ I h) λv s1 ⟨x,H1,I1,r1,q1⟩=>?_) hs hw;rw[h1];exact du (hg pins s1 σ H1 x v _ I1 r1 q1) λ_ s2 q=>q
theorem yz {e:YO}{vO:Pos}(hN:X.N.Nodup)(hi:X.N[i]? = some x)(hx:Jr X.env.scope x)(he:PE X e te)(hs:abq e (some (.Name x vO)) pos.line X.env=pure false:=by rfl)(hf:X.fn x=true\/X.env.scope.names.lookup x=some .local:=by first|exact .inl rfl|exact .inr rfl|assumption) :
  PS X (.Assign [.Name x vO] e pos) (G8 te (Ai i)):=by
 intro pins s σ H D I h;refine wpAny_Assign_Name (du (he pins s σ H _ I h) λv s1 ⟨y,H1,I1,r1,q1⟩=>?_) hs;exact lQ I1 hN hi hx r1 (λs2 I2=>⟨_,H1,I2,q1⟩) hf
def Rv (i j:Nat)(ta:TA):TS:=λD σ H=>ta σ H λvs H1=>∃v w,vs=[v,w]/\D.nx ((σ.set i (some v)).set j (some w)) H1
theorem Lh {y:Str}{a b:YO}{ta:TA}{px py pt:Pos}{kt k2 pt2}(hc:X.calm=true)(hN:X.N.Nodup)(hi:X.N[i]? = some x)(hj:X.N[j]? = some y)(sO:i≠j)(hx:X.env.scope.names.lookup x=some .local)(hy:X.env.scope.names.lookup y=some .local)(ha:PA X [a,b] ta)(hw:swappedStores [.Tuple [.Name x px,.Name y py] kt pt] (.Tuple [a,b] k2 pt2) X.env=pure (some [x,y]))(hs:swapsWithSole [.Tuple [.Name x px,.Name y py] kt pt] (.Tuple [a,b] k2 pt2) pos.line X.env=pure false:=by rfl) :
  PS X (.Assign [.Tuple [.Name x px,.Name y py] kt pt] (.Tuple [a,b] k2 pt2) pos) (Rv i j ta):=by
 intro pins s σ H D I h;rw[exec_Assign_arm];refine Wy (wpAny_standAt ?_);rw[hs];refine Wy (WB ?_);rw[hV (by decide)];refine Wy (Tuple_ (du (ha _ pins s σ H _ I h) λus s1 ⟨vs,H1,I1,r1,q1⟩=>?_));obtain⟨v,w,e1,q1⟩:=q1;subst e1;obtain⟨u1,u2,rfl,rv,yo⟩:∃u1 u2,us=[u1,u2]/\aN v u1/\aN w u2:=by
  cases r1 with
  |cons p q=>
   cases q with
   |cons p' q'=>
    cases q';exact⟨_,_,rfl,p,p'⟩
 refine Xk ?_ (by show 2<=WJ;decide);have I2:az X pins σ H1 {s1 with heap:=s1.heap.push {cls:=.type "tuple",data:=.seq [u1,u2].toArray}}:=I1.kept (t':=s1.toks) λb o e=>WC _ e;rw[hw];refine Wy (WB ?_);show W4 (Xg X.prog X.w) X.A (do rule "assign.swapped-stores";let items ←unpackItems (.ref s1.heap.objs.size) 2 none;assignInOrder [λv=>bindName X.env y v,λv=>bindName X.env x v] items.reverse;pure Flow.next) _ _ _;refine Wy (Y_ (Wy (unpackItems_tuple (items:=#[u1,u2]) (I.ok.hd hc) (IsTup.new s1.heap _) λh' oQ=>?_)));have I3:=I2.kept (h':=h') (t':=s1.toks) λb o e=>oQ b o (Xj (WX e)) e;show W4 _ _ (assignInOrder [λv=>bindName X.env y v,λv=>bindName X.env x v] [u2,u1] >>= λ_=>pure Flow.next) _ _ _;refine Wy (ab7 (wpAny_bindName (lQ I3 hN hj (.inl hy) yo (λs2 I4=>?_) (.inr hy))));refine ab7 (wpAny_bindName (lQ I4 hN hi (.inl hx) rv (λs3 I5=>assignInOrder_nil (WB ?_)) (.inr hx)));rw[List.set_comm _ _ (Ne.symm sO)] at I5;exact⟨_,H1,I5,q1⟩
def Li (c:TT)(tb:TS):TS:=λD σ H=>∃W:Nat->St->Hp->Prop,(∃m,W m σ H)/\∀m σ H,W m σ H->
 c σ H λb H1=>if b=true then ∃N:St->Hp->Prop,(∀σ' H',N σ' H'->∃m',m'<m/\W m' σ' H')/\tb {D with nx:=N,ct:=N,bk:=D.nx} σ H1 else D.nx σ H1
theorem Dq {c:YO}{tc:TT}{tb:TS}(hp:acI (Xg X.prog X.w) X.A X.env X.xe)(hc:PT X c tc)(hb:sd X body tb):PS X (.While c body [] pos) (Li tc tb):=by
 intro pins s σ H D I h;obtain⟨W,⟨m0,w0⟩,turn⟩:=h;refine wpAny_While (codeAny_whileLoop (λn s'=>∃σ' H',az X pins σ' H' s'/\W n σ' H') ?_ m0 ⟨σ,H,I,w0⟩);rintro n s1 ⟨σ1,H1,I1,w1⟩;refine ZK hp (du (hc pins s1 σ1 H1 _ I1 (turn n σ1 H1 w1)) λb s2 ⟨H2,I2,q2⟩=>?_);cases b with
 |true=>
  obtain⟨N,hN,q2⟩:=q2;rw[hZ rfl];refine ZK hp (du (hb pins s2 σ1 H2 _ I2 q2) λf s3 q3=>?_);cases f with
  |next=>
   obtain⟨σ3,H3,I3,n3⟩:=q3;obtain⟨m',hm,w3⟩:=hN σ3 H3 n3;exact⟨m',hm,σ3,H3,I3,w3⟩
  |cont=>
   obtain⟨σ3,H3,I3,n3⟩:=q3;obtain⟨m',hm,w3⟩:=hN σ3 H3 n3;exact⟨m',hm,σ3,H3,I3,w3⟩
  |brk=>exact q3
  |ret v=>exact q3
 |false=>
  rw[hV WE];exact abO ⟨σ1,H2,I2,q2⟩
structure It where
 go:Nat->Hp->Prop
 yld:Nat->Hp->V->Hp->Prop
 stop:Nat->Hp->Prop
def oU (X:Cx)(pins:List (W7×Obj))(H:Hp)(b:W7):Prop:=
 H b=none/\b≠X.env.locals/\b∉X.fs/\(b∈X.ex\/X.s₀.heap.objs.size<=b)/\(∀x c,X.env.cells.lookup x=some c->c≠b)/\∀p∈X.pn++pins,p.1≠b
theorem az.fpOk (I:az X pins σ H s)(hb:s.heap.objs.size<=b)(hn:H' b=none):oU X pins H' b:=by
 refine⟨hn,ZP (Xx I.lt hb),I.nofs hb,.inr (XC I.sz hb),λx c e z=>?_,λp hp z=>?_⟩
 ·obtain⟨v,q⟩:=I.cell x c e;exact absurd (Xx q.lt (by rw[z];exact hb)) (YH _)
 ·exact absurd (Xx (WX (I.pin p hp).1) (by rw[z];exact hb)) (YH _)
structure yA (P:ZI)(w:Z1)(K:WH)(tg:YO)(J:It)(fp:List W7)(it:W7)(tn:Nat->ZG->Prop):Prop where
 mem:it∈fp
 obj:∀i h,tn i h->∀b∈fp,∃o,h.get? b=some o/\∀v,o.data≠.cell v
 keep:∀i h h',tn i h->(∀b∈fp,∀o,h.get? b=some o->h'.get? b=some o)->tn i h'
 item:∀(X:Cx),X.prog=P->X.w=w->X.K=K->X.calm=true->∀(i:Nat) (pins:List (W7×Obj)) (s:WY) (σ:St) (H:Hp) (E:WM->WY->Prop),az X pins σ H s->(∀b∈fp,oU X pins H b)->tn i s.heap->J.go i H->
  W4 (Xg P w) X.A (aaI (.ref it)) (λr s1=>∃u,r=some u/\
   W4 (Xg P w) X.A (abP tg (.ref it) u) (λ_ s2=>∃x H',az X pins σ H' s2/\aN x u/\J.yld i H x H'/\tn (i+1) s2.heap/\∀b∈fp,H' b=none) E s1) E s
 done:∀(X:Cx),X.prog=P->X.w=w->X.K=K->X.calm=true->∀(i:Nat) (pins:List (W7×Obj)) (s:WY) (σ:St) (H:Hp) (E:WM->WY->Prop),az X pins σ H s->(∀b∈fp,oU X pins H b)->tn i s.heap->J.stop i H->
  W4 (Xg P w) X.A (aaI (.ref it)) (λr s1=>r=none/\az X pins σ H s1) E s
 self:∀(A:XD) (i:Nat) (s:WY) (Q:WM->WY->Prop) (E:WM->WY->Prop),tn i s.heap->Q (.ref it) s->W4 (Xg P w) A (pyIter (.ref it)) Q E s
abbrev TI:=St->Hp->(It->Hp->Prop)->Prop
def Tg (X:Cx)(pins:List (W7×Obj))(σ:St)(tg:YO)(R:It->Hp->Prop)(Sr:WM)(s2:WY):Prop:=
 ∃(it:W7) (fp:List W7) (tn:Nat->ZG->Prop) (J:It) (H':Hp),Sr=.ref it/\az X pins σ H' s2/\yA X.prog X.w X.K tg J fp it tn/\tn 0 s2.heap/\(∀b∈fp,oU X pins H' b)/\R J H'
def PI (X:Cx)(tg iter:YO)(wi:TI):Prop:=
 ∀(pins:List (W7×Obj)) (s:WY) (σ:St) (H:Hp) (R:It->Hp->Prop),az X pins σ H s->wi σ H R->
  W4 (Xg X.prog X.w) X.A (Z4 iter X.env) (λv s1=>W4 (Xg X.prog X.w) X.A (pyIter v) (Tg X pins σ tg R) X.xe s1) X.xe s
theorem Dr {A:XD}{u:WM}{o:Obj}{n:String}{vs:Array WM}{Q:Unit->WY->Prop}(ho:s.heap.get? it=some o)(hc:o.cls=.type n)(hd:o.data=.fields vs)(hn:["enumerate","zip","dict_itemiterator","dict_reverseitemiterator","odict_iterator","itertools.zip_longest","itertools.pairwise"].contains n=false)(hQ:Q () s):W4 M A (abP tg (.ref it) u) Q E s:=by
  unfold abP;cases tg<;>first
    |exact WB hQ
    | (cases u<;>first
        |exact WB hQ
        | (refine Wy (wpAny_load ho ?_)
           rw[hc,hd];show W4 M A (if (["enumerate","zip","dict_itemiterator","dict_reverseitemiterator","odict_iterator","itertools.zip_longest","itertools.pairwise"].contains n&&vs[0]? == some (abr _))=true then _ else _) Q E s;rw[hV (by intro h;rw[hn,Bool.false_and] at h;cases h)];exact WB hQ))
noncomputable def QG (K:WH)(a:W7):It:=
 ⟨λi H=>∃xs x,eF K H a xs/\xs[i]? = some x,λi H x H'=>H'=H/\∀xs,eF K H a xs->xs[i]? = some x,λi H=>∃xs,eF K H a xs/\xs.length<=i⟩
noncomputable def Rx (K:WH)(a:W7):It:=
 ⟨λi H=>∃xs x,fQ K H a xs/\xs[i]? = some x,λi H x H'=>H'=H/\∀xs,fQ K H a xs->xs[i]? = some x,λi H=>∃xs,fQ K H a xs/\xs.length<=i⟩
noncomputable def QH (lo:Int)(n:Nat):It:=⟨λi _=>i<n,λi H x H'=>H'=H/\x=.int (lo+i),λi _=>n<=i⟩
theorem B0 (a it:W7):yA P w K tg (QG K a) [it] it (λi h=>h.IsListIter it a i) where
 mem:=by simp
 obj:=λi h st b hb=>by
  have e:b=it:=by simpa using hb
  subst e;obtain⟨o,e,c,d⟩:=st;exact⟨o,e,λv z=>by rw[d] at z;cases z⟩
 keep:=λi h h' st k=>st.at λo e=>k it (by simp) o e
 item:=by
  intro X hP hw hK hc i pins s σ H E I hf st hg;subst hP hw hK;obtain⟨xs,x,hq,hx⟩:=hg;obtain⟨ao,rv,p,hz⟩:=I.list hq;obtain⟨u,hu,ru⟩:=rv.get hx;obtain⟨f0,f1,f2,f3,f4,f5⟩:=hf it (by simp);refine wpAny_pyNext_list_item st p.isList (x:=u) (by simpa using hu) λh' aH sb=>?_;have I1:az X pins σ H {s with heap:=h'}:=I.turned (t':=s.toks) (λb o hb e=>(sb.2 b hb).trans e) f0 f1 f3 f4 f5;obtain⟨o,e,c,d⟩:=id aH;exact⟨u,rfl,Dr (s:={s with heap:=h'}) e c d (by decide) ⟨x,H,I1,ru,⟨rfl,λys hy=>by rw[I.list_inj hy hq];exact hx⟩,aH,λb hb=>(hf b hb).1⟩⟩
 done:=by
  intro X hP hw hK hc i pins s σ H E I hf st hg;subst hP hw hK;obtain⟨xs,hq,hx⟩:=hg;obtain⟨ao,rv,p,hz⟩:=I.list hq;obtain⟨f0,f1,f2,f3,f4,f5⟩:=hf it (by simp);have hl:=rv.length;exact wpAny_pyNext_list_end (I.ok.hd hc) st p.isList (by simp;lia) λh' eb=>⟨rfl,I.turned (t':=s.toks) (λb o hb e=>eb b o hb e) f0 f1 f3 f4 f5⟩
 self:=λ_ _ _ _ _ st h=>wpAny_pyIter_listiter st h
theorem yB (a it:W7):yA P w K tg (Rx K a) [it] it (λi h=>h.IsTupleIter it a i) where
 mem:=by simp
 obj:=λi h st b hb=>by
  have e:b=it:=by simpa using hb
  subst e;obtain⟨o,e,c,d⟩:=st;exact⟨o,e,λv z=>by rw[d] at z;cases z⟩
 keep:=λi h h' st k=>st.at λo e=>k it (by simp) o e
 item:=by
  intro X hP hw hK hc i pins s σ H E I hf st hg;subst hP hw hK;obtain⟨xs,x,hq,hx⟩:=hg;obtain⟨ao,rv,p,hz⟩:=I.tuple hq;obtain⟨u,hu,ru⟩:=rv.get hx;obtain⟨f0,f1,f2,f3,f4,f5⟩:=hf it (by simp);refine wpAny_pyNext_tuple_item st (show s.heap.IsTuple a ao.toArray from p) (x:=u) (by simpa using hu) λh' aH sb=>?_;have I1:az X pins σ H {s with heap:=h'}:=I.turned (t':=s.toks) (λb o hb e=>(sb.2 b hb).trans e) f0 f1 f3 f4 f5;obtain⟨o,e,c,d⟩:=id aH;exact⟨u,rfl,Dr (s:={s with heap:=h'}) e c d (by decide) ⟨x,H,I1,ru,⟨rfl,λys hy=>by rw[I.tuple_inj hy hq];exact hx⟩,aH,λb hb=>(hf b hb).1⟩⟩
 done:=by
  intro X hP hw hK hc i pins s σ H E I hf st hg;subst hP hw hK;obtain⟨xs,hq,hx⟩:=hg;obtain⟨ao,rv,p,hz⟩:=I.tuple hq;obtain⟨f0,f1,f2,f3,f4,f5⟩:=hf it (by simp);have hl:=rv.length;exact wpAny_pyNext_tuple_end (I.ok.hd hc) st (show s.heap.IsTuple a ao.toArray from p) (by simp;lia) λh' eb=>⟨rfl,I.turned (t':=s.toks) (λb o hb e=>eb b o hb e) f0 f1 f3 f4 f5⟩
 self:=λ_ _ _ _ _ st h=>wpAny_pyIter_tupleiter st h
theorem yC (it:W7)(lo:Int)(n:Nat):yA P w K tg (QH lo n) [it] it (λi h=>IsRangeIter h it (lo+(i:Nat)*1) ((n:Int)-(i:Nat)) 1) where
 mem:=by simp
 obj:=λi h st b hb=>by
  have e:b=it:=by simpa using hb
  subst e;exact⟨_,st,λv z=>by
   have z':Data.fields _=Data.cell v:=z;cases z'⟩
 keep:=λi h h' st k=>k it (by simp) _ st
 item:=by
  intro X hP hw hK hc i pins s σ H E I hf st hg;subst hP hw hK;obtain⟨f0,f1,f2,f3,f4,f5⟩:=hf it (by simp);have W:=Walks.range (prog:=X.prog) (w:=X.w) (I.ok.hd hc) it lo 1 n;refine W.item i s _ _ hg st λv h' tk hv aH kk=>?_;obtain⟨t,rfl⟩:=hv;have I1:az X pins σ H {s with heap:=h',toks:=tk}:=I.turned (λb o hb e=>kk b o (by simpa using hb) e) f0 f1 f3 f4 f5;refine⟨_,rfl,Dr (s:={s with heap:=h',toks:=tk}) (n:="range_iterator") aH rfl rfl (by decide) ⟨.int (lo+i),H,I1,⟨t,?_⟩,⟨rfl,rfl⟩,aH,λb hb=>(hf b hb).1⟩⟩;rw[Int.mul_one]
 done:=by
  intro X hP hw hK hc i pins s σ H E I hf st hg;subst hP hw hK;obtain⟨f0,f1,f2,f3,f4,f5⟩:=hf it (by simp);exact wpAny_pyNext_range_end (I.ok.hd hc) st (by have:n<=i:=hg;lia) λh' eb=>⟨rfl,I.turned (t':=s.toks) (λb o hb e=>eb b o hb e) f0 f1 f3 f4 f5⟩
 self:=λ_ _ _ _ _ st h=>wpAny_pyIter_rangeiter st h
end L2
namespace L2
def N_ (K:WH)(tl:TE):TI:=λσ H R=>tl σ H λx H1=>∃a,x=.ref a/\(∃xs,eF K H1 a xs)/\R (QG K a) H1
def Ry (K:WH)(tl:TE):TI:=λσ H R=>tl σ H λx H1=>∃a,x=.ref a/\(∃xs,fQ K H1 a xs)/\R (Rx K a) H1
theorem G9 {l:YO}{tl:TE}(hl:PE X l tl):PI X tg l (N_ X.K tl):=by
 intro pins s σ H R I h;refine du (hl pins s σ H _ I h) λv s1 ⟨x,H1,I1,r1,q1⟩=>?_;obtain⟨a,e,⟨xs,hq⟩,q⟩:=q1;subst e;cases r1;obtain⟨ao,rv,p,hz⟩:=I1.list hq;refine aa_ p.isList ?_;refine⟨s1.heap.objs.size,[s1.heap.objs.size],_,_,H1,rfl,I1.kept (t':=s1.toks) λb o e=>WC _ e,B0 a _,⟨_,WQ _ rfl,rfl,rfl⟩,λb hb=>?_,q⟩;have e:b=s1.heap.objs.size:=by simpa using hb
 subst e;exact I1.fpOk (WR _) (I1.hok.fresh (WR _))
theorem Lj {l:YO}{tl:TE}(hl:PE X l tl):PI X tg l (Ry X.K tl):=by
 intro pins s σ H R I h;refine du (hl pins s σ H _ I h) λv s1 ⟨x,H1,I1,r1,q1⟩=>?_;obtain⟨a,e,⟨xs,hq⟩,q⟩:=q1;subst e;cases r1;obtain⟨ao,rv,p,hz⟩:=I1.tuple hq;refine wpAny_pyIter_tuple (show s1.heap.IsTuple a ao.toArray from p) ?_;refine⟨s1.heap.objs.size,[s1.heap.objs.size],_,_,H1,rfl,I1.kept (t':=s1.toks) λb o e=>WC _ e,yB a _,⟨_,WQ _ rfl,rfl,rfl⟩,λb hb=>?_,q⟩;have e:b=s1.heap.objs.size:=by simpa using hb
 subst e;exact I1.fpOk (WR _) (I1.hok.fresh (WR _))
theorem Ds {R:It->Hp->Prop}{lo hi:Int}{t u v:Tok}{tk:Nat}(I:az X pins σ H s)(h1 : -(2 ^ 62)<=lo)(h2:lo<2 ^ 62)(h3 : -(2 ^ 62)<=hi)(h4:hi<2 ^ 62)(q:R (QH lo (hi-lo).toNat) H):W4 (Xg X.prog X.w) X.A (pyIter (.ref s.heap.objs.size)) (Tg X pins σ tg R) E {s with heap:=s.heap.push {cls:=.type "range",data:=.fields #[.int lo t,.int hi u,.int 1 v]},toks:=tk}:=by
 refine wpAny_pyIter_range (IsRange.new ..) (small_one h1 h2 h3 h4) ?_;have I1:az X pins σ H {s with heap:=s.heap.push {cls:=.type "range",data:=.fields #[.int lo t,.int hi u,.int 1 v]},toks:=tk}:=I.kept λb o e=>WC _ e;refine⟨(s.heap.push {cls:=.type "range",data:=.fields #[.int lo t,.int hi u,.int 1 v]}).objs.size,[(s.heap.push {cls:=.type "range",data:=.fields #[.int lo t,.int hi u,.int 1 v]}).objs.size],_,_,H,rfl,
  I1.kept (t':=tk) λb o e=>WC _ e,yC _ lo (hi-lo).toNat,?_,λb hb=>?_,q⟩
 ·have e1:lo+((0:Nat):Int)*1=lo:=by simp
  have e2:(((hi-lo).toNat:Nat):Int)-((0:Nat):Int)=aaO lo hi 1:=by rw[rangeSize_one];split<;>lia
  show IsRangeIter _ _ (lo+((0:Nat):Int)*1) ((((hi-lo).toNat:Nat):Int)-((0:Nat):Int)) 1;rw[e1,e2];exact WQ _ rfl
 ·have e:b=(s.heap.push {cls:=.type "range",data:=.fields #[.int lo t,.int hi u,.int 1 v]}).objs.size:=by simpa using hb
  subst e;exact I1.fpOk (WR _) (I1.hok.fresh (WR _))
def Oa (ta:TA):TI:=λσ H R=>ta σ H λvs H1=>∃j:Int,vs=[.int j]/\ -(2 ^ 62)<=j/\j<2 ^ 62/\R (QH 0 j.toNat) H1
theorem B1 {a:YO}{ta:TA}{p:Pos}(hg:Gl X "range")(hm:X.mg "range"=none)(ha:PA X [a] ta)(hs:W5 [a] X.env=[(false,Z4 a X.env)]:=by rfl):PI X tg (.Call (.Name "range" p) [a] [] pos) (Oa ta):=by
 intro pins s σ H R I h;refine Call_ (p0 I hg hm boot_range (Z8 (du (ha pos pins s σ H _ I h) λus s1 ⟨vs,H1,I1,r1,q1⟩=>?_) hs rfl));obtain⟨j,e,q1,q2,q⟩:=q1;subst e;cases r1 with
 |cons r rr=>
  cases rr;obtain⟨t,rfl⟩:=r;exact call_range_1 (Ds I1 (by lia) (by lia) q1 q2 (by simpa using q))
def Rz (wi:TI)(g:TG)(tb:TS):TS:=λD σ H=>wi σ H λJ H1=>∃W:Nat->Nat->St->Hp->Prop,(∃m,W 0 m σ H1)/\∀i m σ H,W i m σ H->
 (J.stop i H/\D.nx σ H)\/(J.go i H/\∃N:St->Hp->Prop,(∀σ' H',N σ' H'->∃m',m'<m/\W (i+1) m' σ' H')/\∀x H',J.yld i H x H'->g x σ H' λσ2 H2=>tb {D with nx:=N,ct:=N,bk:=D.nx} σ2 H2)
noncomputable def p6 (fp:List W7)(h:ZG):List (W7×Obj):=fp.filterMap λb=>(h.get? b).map λo=>(b,o)
theorem iY {o:Obj}(hb:b∈fp)(e:h.get? b=some o):(b,o)∈p6 fp h:=ab8.mpr ⟨b,hb,by rw[e];rfl⟩
theorem B2 {p:W7×Obj}(hp:p∈p6 fp h):p.1∈fp/\h.get? p.1=some p.2:=by
 obtain⟨b,hb,e⟩:=ab8.mp hp;cases q:h.get? b with
 |none=>rw[q] at e;cases e
 |some o=>
  rw[q] at e;have e':(b,o)=p:=Xa e;subst e';exact⟨hb,q⟩
theorem az.pinned (I:az X pins σ H s)(hf:∀b∈fp,oU X pins H b)(ho:∀b∈fp,∃o,s.heap.get? b=some o/\∀v,o.data≠.cell v):az X (pins++p6 fp s.heap) σ H s:=
 I.pins_of λp hp=>(W0.mp hp).elim (λz=>I.pin p (WZ _ z)) λz=>by
  obtain⟨hb,e⟩:=B2 z;obtain⟨f0,f1,f2,_⟩:=hf p.1 hb;obtain⟨o,e',d⟩:=ho p.1 hb;rw[e] at e';cases e';exact⟨e,f0,f1,f2,d⟩
theorem az.unpinned {pl:List (W7×Obj)}(I:az X (pins++pl) σ H s):az X pins σ H s:=I.pins_of λp hp=>I.pin p (WZ _ (Xn _ hp))
theorem Lk {wi:TI}{g:TG}{tb:TS}(hp:acI (Xg X.prog X.w) X.A X.env X.xe)(hc:X.calm=true)(hi:PI X tg iter wi)(hg:PG X tg g)(hb:sd X body tb)(hs:∀x,Za iter X.env x=pure x:=by intro _;rfl):PS X (.For tg iter body [] pos) (Rz wi g tb):=by
 intro pins s σ H D I h;refine wpAny_For (du (hi pins s σ H _ I h) λv s1 h1=>du h1 λSr s2 h2=>?_) hs;obtain⟨it,fp,tn,J,H2,e,I2,T,kr,f2,W,⟨m0,w0⟩,turn⟩:=h2;subst e;have Nm:∀{H':Hp},(∀b∈fp,H' b=none)->∀b∈fp,oU X pins H' b:=λhn b hb=>⟨hn b hb,(f2 b hb).2⟩;refine codeAny_forLoop_any (λn s'=>∃i σ' H',az X pins σ' H' s'/\tn i s'.heap/\(∀b∈fp,H' b=none)/\W i n σ' H') ?_ m0 ⟨0,σ,H2,I2,kr,λb hb=>(f2 b hb).1,w0⟩;rintro n s3 ⟨i,σ3,H3,I3,GX,fr3,w3⟩;rcases turn i n σ3 H3 w3 with⟨stop,qn⟩|⟨go,N,hN,step⟩
 ·refine ZK hp (du (T.done X rfl rfl rfl hc i pins s3 σ3 H3 X.xe I3 (Nm fr3) GX stop) λr s4 ⟨hr,I4⟩=>?_);subst hr;exact abO ⟨σ3,H3,I4,qn⟩
 ·refine ZK hp (du (T.item X rfl rfl rfl hc i pins s3 σ3 H3 X.xe I3 (Nm fr3) GX go) λr s4 ⟨u,hr,h4⟩=>?_);subst hr;refine ZK hp (du h4 λ_ s5 ⟨x,H5,I5,r5,y5,st5,fr5⟩=>?_);have Ss:=I5.pinned (Nm fr5) (T.obj _ _ st5);refine ZK hp (du (hg _ s5 σ3 H5 x u _ Ss r5 (step x H5 y5)) λ_ s6 ⟨σ6,H6,I6,q6⟩=>?_);refine ZK hp (du (hb _ s6 σ6 H6 _ I6 q6) λf s7 q7=>?_);have again:∀{σ7:St} {H7:Hp},az X (pins++p6 fp s5.heap) σ7 H7 s7->N σ7 H7->∃m,m<n/\∃i σ' H',az X pins σ' H' s7/\tn i s7.heap/\(∀b∈fp,H' b=none)/\W i m σ' H':=λ{σ7 H7} I7 n7=>by
   obtain⟨m',hm,w7⟩:=hN σ7 H7 n7;refine⟨m',hm,i+1,σ7,H7,I7.unpinned,T.keep _ _ _ st5 λb hb o e=>(I7.pin (b,o) (WZ _ (WZ _ (iY hb e)))).1,λb hb=>?_,w7⟩;obtain⟨o,e,d⟩:=T.obj _ _ st5 b hb;exact (I7.pin (b,o) (WZ _ (WZ _ (iY hb e)))).2.1
  cases f with
  |next=>obtain⟨σ7,H7,I7,n7⟩:=q7;exact again I7 n7
  |cont=>obtain⟨σ7,H7,I7,n7⟩:=q7;exact again I7 n7
  |brk=>obtain⟨σ7,H7,I7,q7⟩:=q7;exact⟨σ7,H7,I7.unpinned,q7⟩
  |ret v=>obtain⟨x7,σ7,H7,I7,r7,q7⟩:=q7;exact⟨x7,σ7,H7,I7.unpinned,r7,q7⟩
end L2
namespace L2
abbrev R2:=V->V->Hp->VK->Prop
def lM (X:Cx)(f:WM->WM->Sem WM)(r:R2):Prop:=
 ∀(pins:List (W7×Obj)) (s:WY) (σ:St) (H:Hp) (x y:V) (v u:WM) (Q:VK),az X pins σ H s->aN x v->aN y u->r x y H Q->
  W4 (Xg X.prog X.w) X.A (f v u) (EP X pins σ Q) X.xe s
def QI (X:Cx)(f:WM->Sem WM)(r:V->Hp->VK->Prop):Prop:=
 ∀(pins:List (W7×Obj)) (s:WY) (σ:St) (H:Hp) (x:V) (v:WM) (Q:VK),az X pins σ H s->aN x v->r x H Q->
  W4 (Xg X.prog X.w) X.A (f v) (EP X pins σ Q) X.xe s
def dE (X:Cx)(f:WM)(r:List V->Hp->VK->Prop):Prop:=
 ∀(pins:List (W7×Obj)) (s:WY) (σ:St) (H:Hp) (xs:List V) (us:List WM) (Q:VK),az X pins σ H s->aQ xs us->r xs H Q->
  W4 (Xg X.prog X.w) X.A (call f us) (EP X pins σ Q) X.xe s
def RA (X:Cx)(r:V->Hp->(Bool->Hp->Prop)->Prop):Prop:=
 ∀(pins:List (W7×Obj)) (s:WY) (σ:St) (H:Hp) (x:V) (v:WM) (Q:Bool->Hp->Prop),az X pins σ H s->aN x v->r x H Q->
  W4 (Xg X.prog X.w) X.A (truthy v) (TP X pins σ Q) X.xe s
def Ob (r:R2)(ta tb:TE):TE:=λσ H Q=>ta σ H λx H1=>tb σ H1 λy H2=>r x y H2 Q
def Th (r:V->Hp->VK->Prop)(ta:TE):TE:=λσ H Q=>ta σ H λx H1=>r x H1 Q
def rI (C:Int->Int->Prop)(g:Int->Int->V):R2:=λx y H Q=>∃i j,x=.int i/\y=.int j/\C i j/\Q (g i j) H
def B3 (g:Int->Int->V):R2:=λx y H Q=>∃i j,x=.int i/\y=.int j/\Q (g i j) H
def rU (g:Int->V):V->Hp->VK->Prop:=λx H Q=>∃i,x=.int i/\Q (g i) H
section
variable {a b c:YO}{ta tb tc:TE}
theorem Ll (ha:PE X a ta)(hb:PE X b tb){R:V->V->Hp->Prop}(I:az X pins σ H s)(h:ta σ H λx H1=>tb σ H1 λy H2=>R x y H2){f:WM->WM->Sem WM}(hf:∀v u s2 x y H2,az X pins σ H2 s2->aN x v->aN y u->R x y H2->W4 (Xg X.prog X.w) X.A (f v u) Q X.xe s2) :
  W4 (Xg X.prog X.w) X.A (Z4 a X.env) (λv s₁=>W4 (Xg X.prog X.w) X.A (Z4 b X.env) (λu s₂=>W4 (Xg X.prog X.w) X.A (f v u) Q X.xe s₂) X.xe s₁) X.xe s:=by
 refine du (ha pins s σ H _ I h) λv s1 ⟨x,H1,I1,r1,q1⟩=>?_;refine du (hb pins s1 σ H1 _ I1 q1) λu s2 ⟨y,H2,I2,r2,q2⟩=>?_;exact hf v u s2 x y H2 I2 r1 r2 q2
theorem Oc {op:Operator}{r:R2}(ho:lM X (aax op) r)(ha:PE X a ta)(hb:PE X b tb):PE X (.BinOp a op b pos) (Ob r ta tb):=by
 intro pins s σ H Q I h;exact wpAny_BinOp (Ll ha hb I h λv u s2 x y H2 I2 rx ry q=>ho pins s2 σ H2 x y v u Q I2 rx ry q)
theorem Od {op:UnaryOp}{r:V->Hp->VK->Prop}(ho:QI X (unaryOp op) r)(ha:PE X a ta):PE X (.UnaryOp op a pos) (Th r ta):=by
 intro pins s σ H Q I h;exact UnaryOp_ (du (ha pins s σ H _ I h) λv s1 ⟨x,H1,I1,r1,q1⟩=>ho pins s1 σ H1 x v Q I1 r1 q1)
theorem QJ {f:WM->WM->Sem WM}{C:Int->Int->Prop}{g:Int->Int->Int}
  (rule:∀(i j:Int) (t u:Tok) (s:WY) (Q:WM->WY->Prop) (E:WM->WY->Prop),C i j->Q (.int (g i j) s.toks) {s with toks:=s.toks+1}->W4 (Xg X.prog X.w) X.A (f (.int i t) (.int j u)) Q E s) :
  lM X f (rI C λi j=>.int (g i j)):=by
 intro pins s σ H x y v u Q I rx ry h;obtain⟨i,j,rfl,rfl,hc,q⟩:=h;obtain⟨t,rfl⟩:=rx;obtain⟨t',rfl⟩:=ry;exact rule i j t t' s _ _ hc ⟨.int (g i j),H,I.tok _,⟨_,rfl⟩,q⟩
theorem Oe {f:WM->WM->Sem WM}{g:Int->Int->Int}
  (rule:∀(i j:Int) (t u:Tok) (s:WY) (Q:WM->WY->Prop) (E:WM->WY->Prop),Q (.int (g i j) s.toks) {s with toks:=s.toks+1}->W4 (Xg X.prog X.w) X.A (f (.int i t) (.int j u)) Q E s) :
  lM X f (B3 λi j=>.int (g i j)):=by
 intro pins s σ H x y v u Q I rx ry h;obtain⟨i,j,rfl,rfl,q⟩:=h;obtain⟨t,rfl⟩:=rx;obtain⟨t',rfl⟩:=ry;exact rule i j t t' s _ _ ⟨.int (g i j),H,I.tok _,⟨_,rfl⟩,q⟩
theorem Lm {f:WM->WM->Sem WM}{g:Int->Int->Bool}
  (rule:∀(i j:Int) (t u:Tok) (s:WY) (Q:WM->WY->Prop) (E:WM->WY->Prop),Q (.bool (g i j)) s->W4 (Xg X.prog X.w) X.A (f (.int i t) (.int j u)) Q E s) :
  lM X f (B3 λi j=>.bl (g i j)):=by
 intro pins s σ H x y v u Q I rx ry h;obtain⟨i,j,rfl,rfl,q⟩:=h;obtain⟨t,rfl⟩:=rx;obtain⟨t',rfl⟩:=ry;exact rule i j t t' s _ _ ⟨.bl (g i j),H,I,rfl,q⟩
def Of (i j:Int):Prop:=0<=j/\j<=1000000/\i.natAbs<2 ^ 64
def G_ (i j:Int):Prop:=(-(2 ^ 64)<i/\i<2 ^ 64)\/(-(2 ^ 64)<j/\j<2 ^ 64)
theorem G_.ok {i j:Int}(h:G_ i j):IntMulOk i j:=by
 rcases h with⟨h1,h2⟩|⟨h1,h2⟩
 ·exact .of_left (intBits_le_64 h1 h2)
 ·exact .of_right (intBits_le_64 h1 h2)
theorem Ln:lM X (aax .Add) (B3 λi j=>.int (i+j)):=Oe λ_ _ _ _ _ _ _ q=>add_int q
theorem Dt:lM X (aax .Sub) (B3 λi j=>.int (i-j)):=Oe λ_ _ _ _ _ _ _ q=>sub_int q
theorem dW:lM X (aax .Mult) (rI G_ λi j=>.int (i*j)):=QJ λ_ _ _ _ _ _ _ hc q=>mul_int q hc.ok
theorem jz:lM X (aax .Mod) (rI (λ_ j=>0<j) λi j=>.int (i % j)):=QJ λi j _ _ _ _ _ hc q=>by
 have h1:(0:Int)<j:=hc;exact mod_int' (by lia) (by rw[Int.fmod_eq_emod_of_nonneg i (by lia)];exact q)
theorem Du:lM X (aax .Pow) (rI Of λi j=>.int (i ^ j.toNat)):=QJ λ_ _ _ _ _ _ _ hc q=>pow_int_small hc.1 hc.2.1 hc.2.2 q
theorem UD {f:WM->Sem WM}{g:Int->Int}
  (rule:∀(i:Int) (t:Tok) (s:WY) (Q:WM->WY->Prop) (E:WM->WY->Prop),Q (.int (g i) s.toks) {s with toks:=s.toks+1}->W4 (Xg X.prog X.w) X.A (f (.int i t)) Q E s) :
  QI X f (rU λi=>.int (g i)):=by
 intro pins s σ H x v Q I rx h;obtain⟨i,rfl,q⟩:=h;obtain⟨t,rfl⟩:=rx;exact rule i t s _ _ ⟨.int (g i),H,I.tok _,⟨_,rfl⟩,q⟩
theorem Lo:QI X (unaryOp .USub) (rU λi=>.int (-i)):=UD λ_ _ _ _ _ q=>neg_int q
end
noncomputable def Og:V->V->Bool
 | .non,.non=>true|.non,.int _=>true|.int _,.non=>true|.non,.bl _=>true|.bl _,.non=>true|.non,.str _=>true|.str _,.non=>true
 | .int _,.int _=>true|.bl _,.bl _=>true|.str _,.str _=>true|.byt _,.byt _=>true
 | .int _,.str _=>true|.str _,.int _=>true|.bl _,.str _=>true|.str _,.bl _=>true
 |_,_=>false
def Ti:R2:=λx y H Q=>Og x y=true/\Q (.bl (decide (x=y))) H
def Tj:R2:=λx y H Q=>Og x y=true/\Q (.bl (!decide (x=y))) H
theorem pG {i j:Int}:decide (V.int i=V.int j)=(i==j):=by
 rw[Yu];simp
theorem uy {i j:Bool}:decide (V.bl i=V.bl j)=(i==j):=by
 rw[Yu];simp
theorem pH {i j:Str}:decide (V.str i=V.str j)=(i==j):=by
 rw[Yu];simp
theorem Aj {i j:Array UInt8}:decide (V.byt i=V.byt j)=(i.toList==j.toList):=by
 rw[Yu];cases i;cases j;simp
section
variable {a b c:YO}{ta tb tc:TE}
theorem bj {Q:VK}{k k':Bool}(I:az X pins σ H s)(q:Q (.bl k) H)(e:k=k'):EP X pins σ Q (.bool k') s:=by
 subst e;exact⟨.bl k,H,I,rfl,q⟩
theorem sR:lM X (Z7 .Eq) Ti:=by
 intro pins s σ H x y v u Q I rx ry h;obtain⟨hs,q⟩:=h;cases x with
 |non=>
  cases rx;cases y with
  |non=>cases ry;exact PySem.EqNone.eq_none_none (bj I q (by simp))
  |bl j=>cases ry;exact PySem.EqNone.eq_none_bool (bj I q (by simp))
  |int j=>obtain⟨t',rfl⟩:=ry;exact PySem.EqNone.eq_none_int (bj I q (by simp))
  |str j=>obtain⟨t',rfl⟩:=ry;exact PySem.EqNone.eq_none_str (bj I q (by simp))
  |_=>exact absurd (show false=true from hs) WE
 |bl i=>
  cases rx;cases y with
  |non=>cases ry;exact PySem.EqNone.eq_bool_none (bj I q (by simp))
  |bl j=>cases ry;exact eq_bool (bj I q uy)
  |str j=>obtain⟨t',rfl⟩:=ry;exact PySem.EqMixed.eq_bool_str (bj I q (by simp))
  |_=>exact absurd (show false=true from hs) WE
 |int i=>
  obtain⟨t,rfl⟩:=rx;cases y with
  |non=>cases ry;exact PySem.EqNone.eq_int_none (bj I q (by simp))
  |int j=>obtain⟨t',rfl⟩:=ry;exact eq_int (bj I q pG)
  |str j=>obtain⟨t',rfl⟩:=ry;exact PySem.EqMixed.eq_int_str (bj I q (by simp))
  |_=>exact absurd (show false=true from hs) WE
 |str i=>
  obtain⟨t,rfl⟩:=rx;cases y with
  |non=>cases ry;exact PySem.EqNone.eq_str_none (bj I q (by simp))
  |bl j=>cases ry;exact PySem.EqMixed.eq_str_bool (bj I q (by simp))
  |int j=>obtain⟨t',rfl⟩:=ry;exact PySem.EqMixed.eq_str_int (bj I q (by simp))
  |str j=>obtain⟨t',rfl⟩:=ry;exact eq_str (bj I q pH)
  |_=>exact absurd (show false=true from hs) WE
 |byt i=>
  obtain⟨t,rfl⟩:=rx;cases y with
  |byt j=>obtain⟨t',rfl⟩:=ry;exact PySem.W.eq_bytes (bj I q Aj)
  |_=>exact absurd (show false=true from hs) WE
 |_=>cases y<;>exact absurd (show false=true from hs) WE
theorem Ak:lM X (Z7 .NotEq) Tj:=by
 intro pins s σ H x y v u Q I rx ry h;obtain⟨hs,q⟩:=h;cases x with
 |non=>
  cases rx;cases y with
  |non=>cases ry;exact PySem.EqNone.ne_none_none (bj I q (by simp))
  |bl j=>cases ry;exact PySem.EqNone.ne_none_bool (bj I q (by simp))
  |int j=>obtain⟨t',rfl⟩:=ry;exact PySem.EqNone.ne_none_int (bj I q (by simp))
  |str j=>obtain⟨t',rfl⟩:=ry;exact PySem.EqNone.ne_none_str (bj I q (by simp))
  |_=>exact absurd (show false=true from hs) WE
 |bl i=>
  cases rx;cases y with
  |non=>cases ry;exact PySem.EqNone.ne_bool_none (bj I q (by simp))
  |bl j=>cases ry;exact ne_bool (bj I q (congrArg not uy))
  |str j=>obtain⟨t',rfl⟩:=ry;exact PySem.EqMixed.ne_bool_str (bj I q (by simp))
  |_=>exact absurd (show false=true from hs) WE
 |int i=>
  obtain⟨t,rfl⟩:=rx;cases y with
  |non=>cases ry;exact PySem.EqNone.ne_int_none (bj I q (by simp))
  |int j=>obtain⟨t',rfl⟩:=ry;exact ne_int (bj I q (congrArg not pG))
  |str j=>obtain⟨t',rfl⟩:=ry;exact PySem.EqMixed.ne_int_str (bj I q (by simp))
  |_=>exact absurd (show false=true from hs) WE
 |str i=>
  obtain⟨t,rfl⟩:=rx;cases y with
  |non=>cases ry;exact PySem.EqNone.ne_str_none (bj I q (by simp))
  |bl j=>cases ry;exact PySem.EqMixed.ne_str_bool (bj I q (by simp))
  |int j=>obtain⟨t',rfl⟩:=ry;exact PySem.EqMixed.ne_str_int (bj I q (by simp))
  |str j=>obtain⟨t',rfl⟩:=ry;exact ne_str (bj I q (congrArg not pH))
  |_=>exact absurd (show false=true from hs) WE
 |byt i=>
  obtain⟨t,rfl⟩:=rx;cases y with
  |byt j=>obtain⟨t',rfl⟩:=ry;exact PySem.W.ne_bytes (bj I q (congrArg not Aj))
  |_=>exact absurd (show false=true from hs) WE
 |_=>cases y<;>exact absurd (show false=true from hs) WE
theorem Dv:lM X (Z7 .Lt) (B3 λi j=>.bl (decide (i<j))):=Lm λ_ _ _ _ _ _ _ q=>lt_int q
theorem Oh:lM X (Z7 .Gt) (B3 λi j=>.bl (decide (j<i))):=Lm λ_ _ _ _ _ _ _ q=>gt_int q
theorem Oi:lM X (Z7 .GtE) (B3 λi j=>.bl (decide (j<=i))):=Lm λ_ _ _ _ _ _ _ q=>ge_int q
theorem lM.or {f:WM->WM->Sem WM}{r r':R2}(h:lM X f r)(h':lM X f r'):lM X f (λx y H Q=>r x y H Q\/r' x y H Q):=by
 intro pins s σ H x y v u Q I rx ry q;rcases q with q|q
 ·exact h pins s σ H x y v u Q I rx ry q
 ·exact h' pins s σ H x y v u Q I rx ry q
theorem dI (b:YO)(h:op≠.In:=by decide)(h2:op≠.NotIn:=by decide):aag op b=false:=by
 have e1:(op==CmpOp.In)=false:=by cases op<;>first|rfl|exact absurd rfl h
 have e2:(op==CmpOp.NotIn)=false:=by cases op<;>first|rfl|exact absurd rfl h2
 cases b<;>simp[aag,e1,e2]
theorem Ha {r:R2}(ho:lM X (Z7 op) r)(ha:PE X a ta)(hb:PE X b tb)(hm:aag op b=false):PE X (.Compare a [op] [b] pos) (Ob r ta tb):=by
 intro pins s σ H Q I h;exact wpAny_Compare1 (Ll ha hb I h λv u s2 x y H2 I2 rx ry q=>ho pins s2 σ H2 x y v u Q I2 rx ry q) hm
def Oj (t:TE):TT:=λσ H Q=>t σ H λx H'=>∃k,x=.bl k/\Q k H'
theorem Hb {r:R2}(ho:lM X (Z7 op) r)(ha:PE X a ta)(hb:PE X b tb)(hm:aag op b=false):PT X (.Compare a [op] [b] pos) (Oj (Ob r ta tb)):=by
 intro pins s σ H Q I h;refine wpAny_isTrue_Compare1 (du (ha pins s σ H _ I h) λv s1 ⟨x,H1,I1,r1,q1⟩=>du (hb pins s1 σ H1 _ I1 q1) λu s2 ⟨y,H2,I2,r2,q2⟩=>
  du (ho pins s2 σ H2 x y v u _ I2 r1 r2 q2) λc s3 ⟨z,H3,I3,r3,k,e,q3⟩=>?_) hm
 subst e;cases r3;exact ZJ ⟨H3,I3,q3⟩
def RB (K:WH)(x:V)(H:Hp)(k:Bool):Prop:=
 match x with
 | .non=>k=false
 | .bl b=>k=b
 | .int i=>k=(i != 0)
 | .str y=>y.length<=WJ/\k=((y.length:Int) != 0)
 | .byt y=>y.size<=WJ/\k=((y.size:Int) != 0)
 | .ref p=>(∃xs,eF K H p xs/\k = !xs.isEmpty)\/(∃xs,fQ K H p xs/\k = !xs.isEmpty)\/∃aK,H p=some (.dK aK)/\k = !aK.isEmpty
 |_=>False
theorem yD {κ:Type}{aK:List (κ×V)}{vs:List (κ×WM)}(r:KV aK vs):(!vs.isEmpty) = !aK.isEmpty:=by
 cases r<;>rfl
theorem p7 (r:aQ xs ao):(!ao.toArray.isEmpty) = !xs.isEmpty:=by
 cases r<;>simp
theorem mU:(WJ:Nat)<2 ^ 63:=by rw[YI];decide
theorem RC:RA X (λx H Q=>∃k,RB X.K x H k/\Q k H):=by
 intro pins s σ H x v Q I rx h;obtain⟨k,e,q⟩:=h;have hl:=mU;have hs:WJ=16777216:=YI;cases x with
 |non=>
  cases rx;have e':k=false:=e;subst e';exact truthy_none ⟨H,I,q⟩
 |bl b=>
  cases rx;have e':k=b:=e;subst e';exact ZJ ⟨H,I,q⟩
 |int i=>
  obtain⟨t,rfl⟩:=rx;have e':k=(i != 0):=e;subst e';exact PySem.P.truthy_int ⟨H,I,q⟩
 |str y=>
  obtain⟨t,rfl⟩:=rx;obtain⟨hy,e'⟩:y.length<=WJ/\k=((y.length:Int) != 0):=e;subst e';exact PySem.P.truthy_str (by lia) ⟨H,I.tok _,q⟩
 |byt y=>
  obtain⟨t,rfl⟩:=rx;obtain⟨hy,e'⟩:y.size<=WJ/\k=((y.size:Int) != 0):=e;subst e';exact PySem.W.truthy_bytes (by lia) ⟨H,I.tok _,q⟩
 |ref p=>
  cases rx;have e':(∃xs,eF X.K H p xs/\k = !xs.isEmpty)\/(∃xs,fQ X.K H p xs/\k = !xs.isEmpty)\/∃aK,H p=some (.dK aK)/\k = !aK.isEmpty:=e;rcases e' with⟨xs,hx,e'⟩|⟨xs,hx,e'⟩|⟨aK,hx,e'⟩
  ·subst e';obtain⟨ao,r,pl,hz⟩:=I.list hx;have cJ:=r.length;exact wpAny_truthy_list pl.isList (by simp only[WK];lia) ⟨H,I.tok _,by rw[p7 r];exact q⟩
  ·subst e';obtain⟨ao,r,pl,hz⟩:=I.tuple hx;have cJ:=r.length;exact truthy_tuple pl (by simp only[WK];lia) ⟨H,I.tok _,by rw[p7 r];exact q⟩
  ·subst e';obtain⟨hz,hS,vs,r,m⟩:aK.length<=WJ/\(p==Ys)=false/\∃vs,KV aK vs/\s.heap.DictOf (cA X.prog X.w) p vs:=I.hok p _ hx;have cJ:aK.length=vs.length:=aaf r;exact wpAny_truthy_dict hS m (by lia) ⟨H,I.tok _,by rw[yD r];exact q⟩
 |_=>exact (show False from e).elim
theorem iM {x:V}{us:List WM}(r:aQ [x] us):∃u,us=[u]/\aN x u:=by
 cases r with
 |cons r1 r2=>cases r2;exact⟨_,rfl,r1⟩
theorem v5 {x:V}{us:List WM}(r:aQ [x,y] us):∃u w',us=[u,w']/\aN x u/\aN y w':=by
 cases r with
 |cons r1 r2=>
  cases r2 with
  |cons r3 r4=>cases r4;exact⟨_,_,rfl,r1,r3⟩
theorem lR:dE X (.builtin "abs") (λxs H Q=>∃i,xs=[.int i]/\Q (.int (if i<0 then -i else i)) H):=by
 intro pins s σ H xs us Q I r h;obtain⟨i,rfl,q⟩:=h;obtain⟨u,rfl,t,rfl⟩:=iM r;exact call_abs_int λu tk=>⟨.int (if i<0 then -i else i),H,I.tok _,⟨_,rfl⟩,q⟩
theorem B4 (hc:X.calm=true):dE X (.builtin "max") (λxs H Q=>∃i j,xs=[.int i,.int j]/\Q (.int (if j>i then j else i)) H):=by
 intro pins s σ H xs us Q I r h;obtain⟨i,j,rfl,q⟩:=h;obtain⟨u,w',rfl,⟨t,rfl⟩,⟨t',rfl⟩⟩:=v5 r;refine max_two_ints (I.ok.hd hc) λh' tk k=>⟨_,H,I.kept k,?_,q⟩;by_cases hj:j>i
 ·rw[hZ hj,hZ hj];exact⟨_,rfl⟩
 ·rw[hV hj,hV hj];exact⟨_,rfl⟩
theorem sS (hc:X.calm=true):dE X (.builtin "min") (λxs H Q=>∃i j,xs=[.int i,.int j]/\Q (.int (if j<i then j else i)) H):=by
 intro pins s σ H xs us Q I r h;obtain⟨i,j,rfl,q⟩:=h;obtain⟨u,w',rfl,⟨t,rfl⟩,⟨t',rfl⟩⟩:=v5 r;refine min_two_ints (I.ok.hd hc) λh' tk k=>⟨_,H,I.kept k,?_,q⟩;by_cases hj:j<i
 ·rw[hZ hj,hZ hj];exact⟨_,rfl⟩
 ·rw[hV hj,hV hj];exact⟨_,rfl⟩
def Ol (K:WH)(x:V)(H:Hp)(n:Nat):Prop:=
 match x with
 | .str y=>y.length<=WJ/\n=y.length
 | .byt y=>y.size<=WJ/\n=y.size
 | .ref p=>(∃xs,eF K H p xs/\n=xs.length)\/∃xs,fQ K H p xs/\n=xs.length
 |_=>False
theorem gy:dE X (.builtin "len") (λxs H Q=>∃x n,xs=[x]/\Ol X.K x H n/\Q (.int n) H):=by
 intro pins s σ H xs us Q I r h;obtain⟨x,n,rfl,e,q⟩:=h;obtain⟨u,rfl,rx⟩:=iM r;have hl:=mU;have hs:WJ=16777216:=YI;cases x with
 |str y=>
  obtain⟨t,rfl⟩:=rx;obtain⟨hy,e'⟩:y.length<=WJ/\n=y.length:=e;subst e';exact len_str (by lia) ⟨.int _,H,I.tok _,⟨_,rfl⟩,q⟩
 |byt y=>
  obtain⟨t,rfl⟩:=rx;obtain⟨hy,e'⟩:y.size<=WJ/\n=y.size:=e;subst e';exact PySem.W.len_bytes (by lia) ⟨.int _,H,I.tok _,⟨_,rfl⟩,q⟩
 |ref p=>
  cases rx;have e':(∃xs,eF X.K H p xs/\n=xs.length)\/∃xs,fQ X.K H p xs/\n=xs.length:=e;rcases e' with⟨xs,hx,e'⟩|⟨xs,hx,e'⟩
  ·subst e';obtain⟨ao,r',pl,hz⟩:=I.list hx;have cJ:=r'.length;exact Calls.call_len_list pl.isList (by simp only[WK];lia) ⟨.int xs.length,H,I.tok _,⟨_,by simp only[WK];rw[cJ]⟩,q⟩
  ·subst e';obtain⟨ao,r',pl,hz⟩:=I.tuple hx;have cJ:=r'.length;exact len_tuple pl (by simp only[WK];lia) ⟨.int xs.length,H,I.tok _,⟨_,by simp only[WK];rw[cJ]⟩,q⟩
 |_=>exact (show False from e).elim
end
end L2
variable {r:L2.R2}
namespace L2
structure Lp (h:ZG)(x dx C:W7)(mA:Str->Option WM):Prop where
 obj:h.get? x=some (PySem.W.instObj C dx)
 ns:h.Ns1 dx mA
 ne:dx≠x
theorem B5 {dx:W7}{mA:Str->Option WM}(n:h.Ns1 dx mA):∃od,h.get? dx=some od/\∀name,PySem.W.lookIn name od=some (mA name):=by
 obtain⟨o,es,ep,ho,hd,hk,_,hm⟩:=n;refine⟨o,ho,λname=>?_⟩;have e:=hm name;unfold nsFind findBy at e;rw[←Array.find?_toList] at e;unfold PySem.W.lookIn;rw[hd];dsimp only;split
 ·rename_i y q;rw[q] at e;exact congrArg some e
 ·rename_i q;rw[q] at e;have a:es.toList.any (·.refKey)=false:=by
   rw[List.any_eq_false];intro y hy;obtain⟨z,t,hkey⟩:=hk y (Array.mem_toList_iff.mp hy);simp[DictEntry.refKey,hkey]
  have a':¬es.toList.any (·.refKey)=true:=by rw[a];exact WE
  rw[hV a'];exact congrArg some e
theorem Lp.look {x dx C:W7}{mA:Str->Option WM}(I:Lp h x dx C mA):∃od,PySem.W.InstAt h x (PySem.W.instObj C dx) C (some od)/\∀name,PySem.W.lookIn name od=some (mA name):=
 let ⟨od,ho,hl⟩:=B5 I.ns
 ⟨od,⟨I.obj,rfl,rfl,ho⟩,hl⟩
theorem kS.some_of {o:Option WM}(r:kS (some v) o):∃u,o=some u/\aN v u:=by
 cases o with
 |none=>exact (show False from r).elim
 |some u=>exact⟨u,rfl,r⟩
section
variable {C dx:W7}{fs fs':List (Str×V)}
theorem Hd (hok:jy P w H h)(e:H a=some (.ins C dx fs)):∃mA,Lp h a dx C mA/\(∀f,kS (fs.lookup f) (mA f))/\PySem.Within mA (fs.map (·.1))/\fs.length<=1000/\H dx=some (.own a):=by
 obtain⟨d,z,ne,ob,mA,n,r,q⟩:=(show bu P w H h a (.ins C dx fs) from hok a _ e);exact⟨mA,⟨ob,n,ne⟩,r,q,z,d⟩
end
structure RD (K:WH)(C:W7):Prop where
 pg:PySem.W.plainGet K C Str.empty=true
 hd:PySem.W.hasDictIn K C=true
 po:PySem.W.plainOver K C=true
 sa:abn K (.ref C) "__setattr__"=some (some (.builtin "object.__setattr__"))
theorem RD.get {C:W7}(c:RD K C)(f:Str):PySem.W.plainGet K C f=true:=c.pg
structure V9 (K:WH)(C:W7)(f:Str)(v:V)(u:WM):Prop where
 at_:abn K (.ref C) f=some (some u)
 rel:aN v u
 get:PySem.W.specialIn K u "__get__"=some none
 cp:PySem.W.copiedNames.contains f=false
structure UE (K:WH)(C:W7)(m:Str)(f:W7):Prop where
 at_:abn K (.ref C) m=some (some (.ref f))
 fn:PySem.W.isFn K (.ref f)=true
 kp:ZY K (.ref f)=true
section
variable {A:XD}{c:WM}{b:Bool}
inductive mV (K:WH)(H:Hp):V->WM->Prop where
 |non:mV K H .non (.type "NoneType")
 |bl (x:Bool):mV K H (.bl x) (.type "bool")
 |int (i:Int):mV K H (.int i) (.type "int")
 |str (x:Str):mV K H (.str x) (.type "str")
 |flt (x:UInt64):mV K H (.flt x) (.type "float")
 |lst {a:W7} {xs:List V} (e:H a=some (.lst xs)):mV K H (.ref a) (.type "list")
 |frz {a:W7} {o:Obj} {xs:List V} (e:H a=some (.frz o (.lst xs))):mV K H (.ref a) (.type "list")
 |tup {a:W7} {xs:List V} (e:H a=some (.tup xs)):mV K H (.ref a) (.type "tuple")
 |dK {a:W7} {aK:List (Key×V)} (e:H a=some (.dK aK)):mV K H (.ref a) (.type "dict")
 |dT {a:W7} {aK:List (List Key×V)} (e:H a=some (.dT aK)):mV K H (.ref a) (.type "dict")
 |ins {a C dx:W7} {fs:List (Str×V)} (e:H a=some (.ins C dx fs)) (cl:RD K C) (ha:abn K (.ref C) "__class__"=some (some (.builtin "object.__class__")))
   (hn:PySem.W.specialIn K (.builtin "object.__class__") "__get__"=some (some (.builtin "getset_descriptor.__get__"))) (htk:PySem.W.takesIn K (.builtin "object.__class__")=some true)
   (hm:PySem.W.mroIn K C (.type "object")=some true):mV K H (.ref a) (.ref C)
theorem B6 {x:V}{u t:WM}(I:az X pins σ H s)(rx:aN x u)(ty:mV X.K H x t)(e:PySem.W.kitOne X.K t c=some b)(h:∀tk,Q (.bool b) {s with toks:=tk}) :
  W4 (Xg X.prog X.w) A (call (.builtin "isinstance") [u,c]) Q E s:=by
 cases ty with
 |non=>cases (show u=Value.none from rx);exact Yv PySem.W.kitx_none I.kIn True.intro e (λz=>nomatch z) h
 |bl y=>cases (show u=Value.bool y from rx);exact Yv PySem.W.kitx_bool I.kIn True.intro e (λz=>nomatch z) h
 |int i=>obtain⟨t,q⟩:=(show ∃t,u=Value.int i t from rx);cases q;exact Yv PySem.W.kitx_int I.kIn True.intro e (λz=>nomatch z) h
 |str y=>obtain⟨t,q⟩:=(show ∃t,u=Value.str y t from rx);cases q;exact Yv PySem.W.kitx_str I.kIn True.intro e (λz=>nomatch z) h
 |flt y=>obtain⟨t,q⟩:=(show ∃t,u=Value.float y t from rx);cases q;exact Yv PySem.W.kitx_float I.kIn True.intro e (λz=>nomatch z) h
 | @lst a xs ea=>
  cases (show u=Value.ref a from rx);obtain⟨_,_,n,_,h1⟩:=(show bu X.prog X.w H s.heap a (.lst xs) from I.hok a _ ea);exact Yv aba I.kIn ⟨_,h1,rfl⟩ e (λz=>nomatch z) h
 | @frz a ob xs ea=>
  cases (show u=Value.ref a from rx);obtain⟨_,_,_,n,_,h1⟩:=(show bu X.prog X.w H s.heap a (.frz ob (.lst xs)) from I.hok a _ ea);exact Yv aba I.kIn ⟨_,h1,rfl⟩ e (λz=>nomatch z) h
 | @tup a xs ea=>
  cases (show u=Value.ref a from rx);obtain⟨_,_,_,p,_⟩:=(show bu X.prog X.w H s.heap a (.tup xs) from I.hok a _ ea);obtain⟨o,h1,h2,_⟩:=p;exact Yv PySem.W.kitx_tuple I.kIn ⟨o,h1,h2⟩ e (λz=>nomatch z) h
 | @dK a aK ea=>
  cases (show u=Value.ref a from rx);obtain⟨_,_,vs,_,p⟩:=(show bu X.prog X.w H s.heap a (.dK aK) from I.hok a _ ea);obtain⟨o,es,ep,h1,h2,_⟩:=p;exact Yv abb I.kIn ⟨o,h1,h2.1⟩ e (λz=>nomatch z) h
 | @dT a aK ea=>
  cases (show u=Value.ref a from rx);obtain⟨_,_,xs,_,o,es,ep,h1,h2,_⟩:=(show bu X.prog X.w H s.heap a (.dT aK) from I.hok a _ ea);exact Yv abb I.kIn ⟨o,h1,h2.1⟩ e (λz=>nomatch z) h
 | @ins a C dx fs ea cl ha hn htk hm=>
  cases (show u=Value.ref a from rx);obtain⟨mA,O,_⟩:=Hd I.hok ea;obtain⟨od,J,_⟩:=O.look;exact Yv (PySem.W.kitx_own (cl.get _) cl.hd ha hn htk hm) I.kIn J e (λz=>nomatch z) h
end
end L2
namespace L2
structure eG (k:Nat)(A:XD):Prop where
 hd:A.handled=none
 dp:A.depth+3*k+5<recursionLimit
 un:A.units+16*k+200<YV
theorem eG.mono {A:XD}(r:eG k A)(h:j<=k):eG j A:=⟨r.hd,by have:=r.dp;lia,by have:=r.un;lia⟩
theorem eG.deeper {A:XD}(r:eG (k+1) A)(env:Env):eG k (A.deeper env):=
 ⟨r.hd,by have:=r.dp;show A.depth+1+3*k+5<_;lia,by have:=r.un;show A.units+3+16*k+200<_;lia⟩
theorem eG.depth {A:XD}(r:eG k A):A.depth<recursionLimit:=by have:=r.dp;lia
theorem eG.units {A:XD}(r:eG k A):A.units+64<YV:=by have:=r.un;lia
def RE:TA:=λ_ H Q=>Q [] H
def Om (ta:TE)(tr:TA):TA:=λσ H Q=>ta σ H λx H1=>tr σ H1 λxs H2=>Q (x::xs) H2
section
variable {e:YO}{es:List YO}{t:TA}
theorem jA:PA X [] RE:=λ_ _ _ _ H Q I h=>acu ⟨[],H,I,.nil,h⟩
theorem eI (ha:PE X e te)(hr:PA X es t)(hs:W5 (e::es) X.env=(false,Z4 e X.env)::W5 es X.env:=by rfl):PA X (e::es) (Om te t):=by
 intro pos pins s σ H Q I h;rw[hs];show W4 _ _ (spliced ((false,Z4 e X.env)::Zl pos (W5 es X.env))) _ _ s;refine Z5 (du (ha pins s σ H _ I h) λu s1 ⟨x,H1,I1,r1,q1⟩=>?_);exact du (hr pos pins s1 σ H1 _ I1 q1) λus s2 ⟨xs,H2,I2,r2,q2⟩=>⟨x::xs,H2,I2,.cons r1 r2,q2⟩
def RF (t:TA):TE:=λσ H Q=>t σ H λxs H1=>xs.length<=WJ/\∀p,H1 p=none->Q (.ref p) (bV H1 p (.tup xs))
def RG (t:TA):TE:=λσ H Q=>t σ H λxs H1=>xs.length<=WJ/\∀p,H1 p=none->Q (.ref p) (bV H1 p (.lst xs))
theorem Dx {x1}(h:PA X es t):PE X (.Tuple es x1 pos) (RF t):=by
 intro pins s σ H Q I hq;refine wpAny_Tuple_spliced (du (h pos pins s σ H _ I hq) λus s1 ⟨xs,H1,I1,r,z,q⟩=>⟨by rw[←r.length];exact z,?_⟩);have hf:H1 s1.heap.objs.size=none:=I1.hok.fresh (WR _);refine⟨.ref s1.heap.objs.size,bV H1 s1.heap.objs.size (.tup xs),I1.laid (t':=s1.toks) (λb u e=>WC _ e) (WR _) ?_,rfl,q _ hf⟩;exact⟨z,us,r,⟨_,WQ _ rfl,rfl,_,rfl⟩,_,WQ _ rfl⟩
theorem Dy (h:PA X es t):PE X (.List es pos) (RG t):=by
 intro pins s σ H Q I hq;refine wpAny_List_spliced (du (h pos pins s σ H _ I hq) λus s1 ⟨xs,H1,I1,r,z,q⟩=>⟨by rw[←r.length];exact z,?_⟩);have hf:H1 s1.heap.objs.size=none:=I1.hok.fresh (WR _);refine⟨.ref s1.heap.objs.size,bV H1 s1.heap.objs.size (.lst xs),I1.laid (t':=s1.toks) (λb u e=>WC _ e) (WR _) ?_,rfl,q _ hf⟩;exact⟨z,us,0,r,WQ _ rfl⟩
end
abbrev Sp:=List V->Hp->VK->XK->Prop
abbrev CXT:=List Env->Hp->WY->XK->WM->WY->Prop
structure He (P:ZI)(w:Z1)(K:WH)(mg:Str->Option WM)(base:ZG)(A:XD)(outer:List Env)(s:WY)(H:Hp):Prop where
 frames:A.frames=some outer
 mod:Mod K mg base
 bs:∀b o,base.get? b=some o->s.heap.get? b=some o/\H b=none
 bsz:base.objs.size<=s.heap.objs.size
 funs:s.heap.FunFrames base outer
 frf:∀b∈Af outer,H b=none
 hok:jy P w H s.heap
 bare:AllBare s.gens
def CE (outer:List Env)(P:ZI)(w:Z1)(H:Hp)(s:WY)(Q:VK)(u:WM)(s':WY):Prop:=
 ∃v H',s'.os=s.os/\AllBare s'.gens/\Un (Af outer) [] H H' s.heap s'.heap/\jy P w H' s'.heap/\aN v u/\Q v H'
def CR (CX:CXT)(outer:List Env)(P:ZI)(w:Z1)(H:Hp)(s:WY)(Q:VK)(E:XK)(r:Result)(s':WY):Prop:=
 match r with
 | .ok (.ret u)=>CE outer P w H s Q u s'
 | .ok _=>False
 | .error e=>CX outer H s E e s'
structure ku (P:ZI)(w:Z1)(K:WH)(mg:Str->Option WM)(base:ZG)(CX:CXT)(k:Nat)(f:W7)(fd:abI)(ps:List Str)(sp:Sp):Prop where
 len:∀vs H Q E,sp vs H Q E->vs.length=ps.length
 run:∀(A:XD) (outer:List Env) (s:WY) (H:Hp) (args:Args) (us:List WM) (vs:List V) (Q:VK) (E:XK),eG k A->He P w K mg base A outer s H->BindsTo s fd args (ps.zip us)->aQ vs us->sp vs H Q E->
  codeAny (Xg P w) A (.call (.ref f) args) (CR CX outer P w H s Q E) s
theorem ku.imp {base:ZG}{CX:CXT}{sp T7:Sp}(F:ku P w K mg base CX k f fd ps sp)(h:∀vs H Q E,T7 vs H Q E->sp vs H Q E):ku P w K mg base CX k f fd ps T7:=
 ⟨λvs H Q E q=>F.len vs H Q E (h _ _ _ _ q),λA outer s H args us vs Q E hr he hb hv hs=>F.run A outer s H args us vs Q E hr he hb hv (h _ _ _ _ hs)⟩
section
variable {s':WY}
theorem az.env0 (I:az X pins σ H s):He X.prog X.w X.K X.mg X.base X.A X.stack s H:=
 ⟨I.ok.frames,I.ok.mod,I.bs,XC I.ok.bsz I.sz,I.stack,I.stkFree,I.hok,I.bare⟩
theorem az.after {Q:VK}{u:WM}(I:az X pins σ H s)(h:CE X.stack X.prog X.w H s Q u s'):EP X pins σ Q u s':=by
 obtain⟨v,H',os,bare,un,hok,r,q⟩:=h;obtain⟨hh,g,d,t,os'⟩:=s';obtain rfl:os'=s.os:=os;exact⟨v,H',I.call (h':=hh) (g':=g) (d':=d) (t':=t) (ch:=[]) un hok bare (λb z=>absurd z (by simp)),r,q⟩
end
def Jt (sp:Sp)(KO:List V)(E:XK)(t:TA):TE:=λσ H Q=>t σ H λvs H1=>sp (vs++KO) H1 Q E
def sT (K:WH)(fd:abI)(ps:List Str)(ds:List WM):Prop:=
 ∀(s:WY) (us:List WM),K.In s.heap->(us++ds).length=ps.length->BindsTo s fd ⟨us,[]⟩ (ps.zip (us++ds))
theorem sT.all (h:∀us:List WM,us.length=ps.length->bindArgs fd ⟨us,[]⟩=pure (ps.zip us)):sT K fd ps []:=λs us _ hl=>by
 rw[Xt] at hl ⊢;exact .of_eq (h us hl)
def yE (CX:CXT)(X:Cx)(E:XK):Prop:=∀(pins:List (W7×Obj)) (σ:St) (H:Hp) (s:WY) (e:WM) (s':WY),az X pins σ H s->CX X.stack H s E e s'->X.xe e s'
section
variable {CX:CXT}{C:W7}{sp:Sp}{KO:List V}{ds:List WM}{E:XK}{m:Str}{p cI:Pos}{e o:YO}{es:List YO}{ta:TE}{t:TA}
theorem Lq {Q:VK}{us:List WM}(F:ku X.prog X.w X.K X.mg X.base CX k f fd ps sp)(hr:eG k X.A)(hb:sT X.K fd ps ds)(hd:aQ KO ds)(hx:yE CX X E)(I:az X pins σ H s)(r:aQ vs us)(h:sp (vs++KO) H Q E):W4 (Xg X.prog X.w) X.A (call (.ref f) us) (EP X pins σ Q) X.xe s:=by
 have r2:aQ (vs++KO) (us++ds):=r.append hd;have hl:(us++ds).length=ps.length:=by rw[←r2.length];exact F.len _ _ _ _ h
 refine wpAny_call (abt (F.run X.A X.stack s H ⟨us,[]⟩ (us++ds) (vs++KO) Q E hr I.env0 (hb s us I.kIn hl) r2 h) λr s' hq=>?_);cases r with
 |error e=>exact hx pins σ H s e s' I hq
 |ok fl=>
  cases fl with
  |ret u=>exact I.after hq
  |next=>exact aah hq
  |brk=>exact aah hq
  |cont=>exact aah hq
theorem Hg (F:ku X.prog X.w X.K X.mg X.base CX k f fd ps sp)(hr:eG k X.A)(hg:Gl X x)(hm:X.mg x=some (.ref f))(hk:ZY X.K (.ref f)=true)(hb:sT X.K fd ps ds)(hd:aQ KO ds)(hx:yE CX X E)
  (ha:PA X (e::es) t) (z9:(x==("__debug__":Str))=false:=by decide) (he:W5 (e::es) X.env=(false,Z4 e X.env)::W5 es X.env:=by rfl) (oR:(Zl pos (W5 es X.env)).any (·.1)=false:=by rfl) :
  PE X (.Call (.Name x p) (e::es) [] pos) (Jt sp KO E t):=by
 intro pins s σ H Q I h;refine ab9 (G3 I hg hm ?_ z9);refine PySem.W.callWith_K (h₀:=X.base) I.ok.mod.kin hk (du (ha pos pins s σ H _ I h) λus s1 ⟨vs,H1,I1,r,q⟩=>⟨I1.kIn,?_⟩) he oR;exact Lq F hr hb hd hx I1 r q
structure Mk (K:WH)(C f:W7):Prop where
 makes:PySem.W.makesIn K C=true
 init:abn K (.ref C) "__init__"=some (some (.ref f))
 fn:PySem.W.isFn K (.ref f)=true
 kp:ZY K (.ref C)=true
end
section
variable {CX:CXT}{C:W7}{ks:List Str}{sp:Sp}{E:XK}{m:Str}{p cI kpos:Pos}{e o:YO}{es:List YO}{kws:List abA}{ta:TE}{t tk:TA}{nm:Option Str}
structure RH (K:WH)(fd:abI)(ps ks:List Str)(g:List WM->List WM->List WM)(gV:List V->List V->List V):Prop where
 to:∀(s:WY) (us ws:List WM),K.In s.heap->(g us ws).length=ps.length->BindsTo s fd ⟨us,ks.zip ws⟩ (ps.zip (g us ws))
 rel:∀{vs:List V} {us:List WM} {zs:List V} {ws:List WM},aQ vs us->aQ zs ws->aQ (gV vs zs) (g us ws)
variable {g:List WM->List WM->List WM}{gV:List V->List V->List V}
end
structure aW (N P:List Str)(sc:Scope):Prop where
 kind:sc.kind=.function
 co:sc.isCoroutine=false
 gen:sc.isGenerator=false
 nd:N.Nodup
 pre:N.take P.length=P
 par:∀x∈P,sc.names.lookup x=some .local\/sc.names.lookup x=some .cell
 nofree:∀y∈sc.names,y.2≠.free
theorem sU {Ym:Str->Option acG}{x:Str}:∀{binds:List (Str×WM)} {m:Str->Option WM},(∀v,(x,v)∉binds)->bindL Ym binds m x=m x
 | [],_,_=>rfl
 | (n,v)::r,m,h=>by
  unfold bindL;rw[sU λw hw=>h w (WI _ hw)];split
  ·have:x≠n:=by rintro rfl;exact h v WG
   simp[this]
  ·rfl
theorem sV {Ym:Str->Option acG}{x:Str}:∀{binds:List (Str×WM)} {m:Str->Option WM},(∀v,(x,v)∉binds)->bindC Ym binds m x=m x
 | [],_,_=>rfl
 | (n,v)::r,m,h=>by
  unfold bindC;rw[sV λw hw=>h w (WI _ hw)];split
  ·rfl
  ·have:x≠n:=by rintro rfl;exact h v WG
   simp[this]
theorem sW {Ym:Str->Option acG}{x:Str}{v:WM}:∀{P:List Str} {vs:List WM} {i:Nat} {m:Str->Option WM},P.Nodup->P[i]? = some x->vs[i]? = some v->Ym x=some .local->
  bindL Ym (P.zip vs) m x=some v
 | [],_,_,_,_,h,_,_=>by simp at h
 |_::_,[],_,_,_,_,h,_=>by simp at h
 |p::P,w::vs,0,m,nd,h1,h2,hk=>by
  simp at h1 h2;subst h1;subst h2;show bindL Ym ((p,w)::P.zip vs) m p=_;unfold bindL;rw[sU λv hv=>(X3.mp nd).1 (aaP hv).1,hZ hk];simp
 |p::P,w::vs,i+1,m,nd,h1,h2,hk=>by
  show bindL Ym ((p,w)::P.zip vs) m x=_;unfold bindL;exact sW (i:=i) (X3.mp nd).2 (by simpa using h1) (by simpa using h2) hk
theorem sX {Ym:Str->Option acG}{x:Str}{v:WM}:∀{P:List Str} {vs:List WM} {i:Nat} {m:Str->Option WM},P.Nodup->P[i]? = some x->vs[i]? = some v->Ym x≠some .local->
  bindC Ym (P.zip vs) m x=some v
 | [],_,_,_,_,h,_,_=>by simp at h
 |_::_,[],_,_,_,_,h,_=>by simp at h
 |p::P,w::vs,0,m,nd,h1,h2,hk=>by
  simp at h1 h2;subst h1;subst h2;show bindC Ym ((p,w)::P.zip vs) m p=_;unfold bindC;rw[sV λv hv=>(X3.mp nd).1 (aaP hv).1,hV hk];simp
 |p::P,w::vs,i+1,m,nd,h1,h2,hk=>by
  show bindC Ym ((p,w)::P.zip vs) m x=_;unfold bindC;exact sX (i:=i) (X3.mp nd).2 (by simpa using h1) (by simpa using h2) hk
noncomputable def aaN (N:List Str)(vs:List V):St:=vs.map some++List.replicate (N.length-vs.length) none
noncomputable def oV (CX:CXT)(P:ZI)(w:Z1)(K:WH)(mg:Str->Option WM)(base:ZG)(N:List Str)(qual:Str)(scope:Scope)(f:W7)(cd:WM)(A:XD)(outer:List Env)(s:WY)(H:Hp)(E:XK):Cx where
 prog:=P
 w:=w
 K:=K
 mg:=mg
 base:=base
 A:=A.deeper (ab_ qual scope s.heap.objs.size f cd)
 N:=N
 s₀:=s
 H₀:=H
 env:=ab_ qual scope s.heap.objs.size f cd
 outer:=outer
 stack:=ab_ qual scope s.heap.objs.size f cd::outer
 ex:=[]
 calm:=true
 fn:=λ_=>true
 pn:=[]
 xe:=λe s'=>W4 (Xg P w) (A.deeper (ab_ qual scope s.heap.objs.size f cd)) (leaving (ab_ qual scope s.heap.objs.size f cd) e) (λ_ NU=>CX outer H s E e NU) (λe' NU=>CX outer H s E e' NU) s'
theorem v7 {sc:Scope}(h:sc.names.lookup x=some .cell):∃c,(cellsFrom n sc.names []).lookup x=some c:=by
 have q:=PySem.W.cellsFrom_some sc.names n [] (.inl h);exact Option.isSome_iff_exists.mp q
theorem B7 {CX:CXT}{base:ZG}{cd:WM}{A:XD}{outer:List Env}{s1:WY}{E:XK}{us:List WM}(S:aW N ps scope)(hd:A.handled=none)(e0:He P w K mg base A outer s H)(hl:vs.length=ps.length)(r:aQ vs us)(x:InCallC s s.heap.objs.size (bindL (ab_ qual scope s.heap.objs.size f cd).kindOf (ps.zip us) λ_=>none) (cellsFrom (s.heap.objs.size+1) scope.names []) (bindC (ab_ qual scope s.heap.objs.size f cd).kindOf (ps.zip us) λ_=>none) s1) :
  az (oV CX P w K mg base N qual scope f cd A outer s H E) [] (aaN N vs) H s1:=by
 have oR:ps.length<=N.length:=by have:=congrArg List.length S.pre;rw[Xc] at this;lia
 obtain⟨h1,tk,rfl,hk⟩:=x.done;have Qe:∀b:W7,b∉(oV CX P w K mg base N qual scope f cd A outer s H E).ex:=λb z=>absurd (show b∈([]:List W7) from z) (by simp);refine⟨⟨e0.mod,S.kind,rfl,rfl,WR _,λy z c h1 h2=>?_,λy hy=>?_,λy c _ h=>?_,λ_=>hd,Around.frames_deeper e0.frames,.inr ⟨rfl,rfl⟩,λb z=>absurd z (Qe b),e0.bs,e0.bsz,λb _ _=>Qe b,λb z=>absurd z (Qe b),e0.funs,e0.frf⟩,
  rfl,e0.bare,Un.kept hk,⟨_,x.toInCall.ns,λi y v h1 h2 h3=>?_⟩,λy c h=>⟨_,x.cell y c h⟩,e0.hok.fresh (WR _),λy c h=>?_,λp hp=>absurd (show p∈([]:List (W7×Obj)) from hp) (by simp),e0.hok.kept hk,?_⟩
 ·exact name_of_addr x.apart (X9 h1) (X9 h2)
 ·have hy:scope.names.lookup y=some .cell\/scope.names.lookup y=some .free:=hy;rcases hy with hy|hy
  ·exact v7 hy
  ·exact absurd rfl (S.nofree _ (X9 hy))
 ·exact Nat.le_of_lt (x.above y c (X9 h))
 ·have hi:i<vs.length:=by
   unfold aaN at h2;by_cases hi:i<vs.length
   ·exact hi
   ·rw[XT (by simpa using hi)] at h2;rw[List.getElem?_replicate] at h2;split at h2<;>cases h2
  have ha:vs[i]? = some v:=by
   unfold aaN at h2;rw[Yd (by simpa using hi),W3] at h2;cases e:vs[i]? with
   |none=>rw[e] at h2;cases h2
   |some a=>rw[e] at h2;cases h2;rfl
  obtain⟨u,hu,rv⟩:=r.get ha;have hp:ps[i]? = some y:=by
   rw[←S.pre,acv (by lia)];exact h1
  have T8:ps.Nodup:=by rw[←S.pre];exact S.nd.sublist (List.take_sublist _ _)
  refine⟨u,rv,?_⟩;rcases S.par y (Yh hp) with k|k
  ·exact .inl ⟨k,sW T8 hp hu k⟩
  ·obtain⟨c,e⟩:=v7 (n:=s.heap.objs.size+1) k;refine .inr ⟨.inl k,c,e,?_⟩;have q:=x.cell y c e;rw[sX T8 hp hu (by show scope.names.lookup y≠_;rw[k];decide)] at q;exact q
 ·exact e0.hok.fresh (Nat.le_of_lt (x.above y c (X9 h)))
 ·unfold aaN;show _=N.length;rw[WN,WA,abu];lia
theorem Oo {CX:CXT}{base:ZG}{name:Str}{params:Arguments}{dV kV mT pm c7 ct oc:WM}{an od:Option W7}{KP:Array (Option WM)}{sp:Sp}(lk:K.lookup f=some ⟨oc,od,.func (YR name qual params body scope dV kV mT pm an c7 ct),KP⟩)(lE:acj K c7 qual=true)(S:aW N ps scope)(len:∀vs H Q E,sp vs H Q E->vs.length=ps.length)(gT:∀(A:XD) (outer:List Env) (s:WY) (H:Hp) (vs:List V) (Q:VK) (E:XK),eG k (A.deeper (ab_ qual scope s.heap.objs.size f c7))->sp vs H Q E->
   ∃t,sd (oV CX P w K mg base N qual scope f c7 A outer s H E) body t/\t {nx:=λ_ H'=>Q .non H',rt:=Q} (aaN N vs) H) :
  ku P w K mg base CX (k+1) f (YR name qual params body scope dV kV mT pm an c7 ct) ps sp:=by
 refine⟨len,λA outer s H args us vs Q E hr e0 hb r KQ=>?_⟩;have hl:=len _ _ _ _ KQ;have KX:K.In s.heap:=e0.mod.kin.keeps λb o e=>(e0.bs b o e).1;have UX:s.heap.NoLimit:=e0.mod.nolimit.keeps λb o e=>(e0.bs b o e).1;have Qf:∀y∈ps.zip us,scope.names.lookup y.1=some .local\/(scope.names.lookup y.1=some .cell/\((cellsFrom (s.heap.objs.size+1) scope.names []).lookup y.1).isSome=true):=fun⟨n,v⟩ hy=>by
  rcases S.par n (aaP hy).1 with q|q
  ·exact .inl q
  ·exact .inr ⟨q,PySem.W.cellsFrom_some _ _ _ (.inl q)⟩
 refine codeAny_call_function hr.depth (KX _ _ lk) rfl S.co S.gen rfl (PySem.W.codeRec_of KX lE) (hb _ _ _ _ ?_);refine wpAny_newFunctionEnv_cells S.kind Qf λenv he s1 x=>?_;subst he;refine⟨UX.keeps x.toInCall.keep,codeAny_func ?_⟩;obtain⟨t,ht,hq⟩:=gT A outer s H vs Q E (hr.deeper _) KQ;have I:az (oV CX P w K mg base N qual scope f c7 A outer s H E) [] (aaN N vs) H s1:=B7 S hr.hd e0 hl r x;refine Yc (ht [] s1 (aaN N vs) H _ I hq) (λfl s' hs=>?_) λe s' hs=>hs;have fin:∀{σ':St} {H':Hp} {v:V} {u:WM},az (oV CX P w K mg base N qual scope f c7 A outer s H E) [] σ' H' s'->aN v u->Q v H'->CE outer P w H s Q u s' :=
  λ{σ' H' v u} J rv q=>⟨v,H',J.os,J.bare,J.base,J.hok,rv,q⟩
 cases fl with
 |ret u=>
  obtain⟨v,σ',H',J,rv,q⟩:=hs;exact fin J rv q
 |next=>
  obtain⟨σ',H',J,q⟩:=hs;exact fin (v:=V.non) (u:=Value.none) J rfl q
 |brk=>
  obtain⟨_,_,_,q⟩:=hs;exact aah q
 |cont=>
  obtain⟨_,_,_,q⟩:=hs;exact aah q
end L2
variable {CX:L2.CXT}{sp:L2.Sp}
namespace L2
section
variable {p:Pos}{e:YO}{es:List YO}{t:TA}{id:String}{r:List V->Hp->VK->Prop}
def RI (r:List V->Hp->VK->Prop)(t:TA):TE:=λσ H Q=>t σ H λvs H1=>r vs H1 Q
theorem lT (hc:dE X (.builtin id) r)(hg:Gl X x)(hm:X.mg x=none)(hv:XB x=some (.builtin id))(ha:PA X (e::es) t)(hn:x≠"__name__":=by decide)(z9:(x==("__debug__":Str))=false:=by decide)
  (he:W5 (e::es) X.env=(false,Z4 e X.env)::W5 es X.env:=by rfl) (oR:(Zl pos (W5 es X.env)).any (·.1)=false:=by rfl):PE X (.Call (.Name x p) (e::es) [] pos) (RI r t):=by
 intro pins s σ H Q I h;refine ab9 (p0 I hg hm hv ?_ hn z9);exact PyProof.Rows.callWith_builtin1 (du (ha pos pins s σ H _ I h) λus s1 ⟨vs,H1,I1,r1,q1⟩=>hc pins s1 σ H1 vs us Q I1 r1 q1) he oR
theorem gj (hc:dE X (.type T) r)(hg:Gl X x)(hm:X.mg x=none)(hv:XB x=some (.type T))(ha:PA X (e::es) t)(hn:x≠"__name__":=by decide)(z9:(x==("__debug__":Str))=false:=by decide)
  (he:W5 (e::es) X.env=(false,Z4 e X.env)::W5 es X.env:=by rfl) (oR:(Zl pos (W5 es X.env)).any (·.1)=false:=by rfl):PE X (.Call (.Name x p) (e::es) [] pos) (RI r t):=by
 intro pins s σ H Q I h;refine ab9 (p0 I hg hm hv ?_ hn z9);exact Z8 (du (ha pos pins s σ H _ I h) λus s1 ⟨vs,H1,I1,r1,q1⟩=>hc pins s1 σ H1 vs us Q I1 r1 q1) he oR
end
end L2
namespace HT
section
variable {A:XD}
theorem cat_tup {t:W7}{vs ws:List WM}(ht:IsTup s.heap t vs.toArray)(hb:IsTup s.heap b ws.toArray)(hv:vs≠[])(h1:ws=[]->Q (.ref t) s)(h2:ws≠[]->Q (.ref s.heap.objs.size) {s with heap:=s.heap.push {cls:=.type "tuple",data:=.seq (vs++ws).toArray}})(hsz:vs.length+ws.length<=WJ):W4 (Xg prog w) A (aax .Add (.ref t) (.ref b)) Q E s:=by
 obtain⟨⟨cls,dd,data,sl⟩,ho,hc,n,hd⟩:=id ht;obtain⟨⟨cls2,dd2,data2,sl2⟩,ho2,hc2,n2,BU⟩:=id hb;simp only at hc hd hc2 BU;subst hc hd hc2 BU;have e:vs.toArray++ws.toArray=(vs++ws).toArray:=by simp
 by_cases hw:ws=[]
 ·exact concat_meets ⟨_,ho,rfl⟩ ⟨_,ho2,rfl⟩ noFill_tuple_add seq_tuple_add aa6 aaQ (aaJ _ _)
   (tuple_addW1 t b vs.toArray ws.toArray n n2 dd dd2 sl sl2 (by simpa using hv) (by simp[hw])) ⟨ho,ho2,h1 hw⟩
 ·refine concat_meets ⟨_,ho,rfl⟩ ⟨_,ho2,rfl⟩ noFill_tuple_add seq_tuple_add aa6 aaQ (aaJ _ _)
   (tuple_addW2 t b vs.toArray ws.toArray n n2 dd dd2 sl sl2 (by simpa using hv) (by simpa using hw) (by rw[WK,WK];exact hsz)) ⟨ho,ho2,?_⟩
  rw[e];exact h2 hw
noncomputable def sIx (n d:Nat):Option Int->Nat
 |none=>d
 |some v=>if v<0 then (v+(n:Int)).toNat else min v.toNat n
theorem sIx_none (n d:Nat):sIx n d none=d:=rfl
theorem sIx_nat (n d k:Nat):sIx n d (some (k:Int))=min k n:=by
 show (if (k:Int)<0 then ((k:Int)+(n:Int)).toNat else min (k:Int).toNat n)=min k n;rw[hV (by lia),Xm]
theorem Lr (n d:Nat)(hd:d<=n)(o:Option Int):sIx n d o<=n:=by
 cases o with
 |none=>exact hd
 |some v=>
  show (if v<0 then (v+(n:Int)).toNat else min v.toNat n)<=n;by_cases hv:v<0
  ·rw[hZ hv];lia
  ·rw[hV hv];exact Nat.min_le_right _ _
theorem Al (v:Int)(n d:Nat):(if v<0 then max (v+(n:Int)) 0 else min v (n:Int))=((sIx n d (some v):Nat):Int):=by
 show (if v<0 then max (v+(n:Int)) 0 else min v (n:Int))=(((if v<0 then (v+(n:Int)).toNat else min v.toNat n):Nat):Int);by_cases hv:v<0
 ·simp only[hZ hv];lia
 ·simp only[hV hv];lia
theorem yF (lo hi:Option Int)(n:Nat):aar lo hi 1 (n:Int)=(((sIx n 0 lo:Nat):Int),((sIx n n hi:Nat):Int)):=by
 have h1:¬((1:Int)<0):=by lia
 unfold aar;simp only[h1,if_false];refine Prod.ext ?_ ?_
 ·cases lo with
  |none=>rfl
  |some v=>exact Al v n 0
 ·cases hi with
  |none=>rfl
  |some v=>exact Al v n n
theorem yG (i j:Nat):Zy (i:Int) (j:Int) 1=j-i:=by
 unfold Zy;have h1:(1:Int)>0:=by lia
 simp only[h1,if_true,Int.ediv_one];split<;>lia
theorem p8 {v:WM}{o:Option Int}{Q:Option Int->WY->Prop}(p:IsPart v o)(h:Q o s):W4 (Xg prog w) A (Builtin.Slice.slicePartIndex v) Q E s:=by
 cases p with
 |none=>exact slicePart_none h
 |int i t=>exact slicePart_int h
theorem iN {sl:W7}{vl vu:WM}{lo:Option Int}{Q:Int×Int×Nat->WY->Prop}(hs:s.heap.IsSliceOf sl vl vu .none)(pl:IsPart vl lo)(pu:IsPart vu hi)(h:Q (((sIx n 0 lo:Nat):Int),1,sIx n n hi-sIx n 0 lo) s):W4 (Xg prog w) A (ab0 (.ref sl) (pure (n:Int))) Q E s:=by
 obtain⟨os,G0,hcs,hds⟩:=id hs;unfold ab0 Builtin.Slice.sliceFields;refine Wy (Wy (Yj G0 hds (x:=vl) rfl (Wy (Yj G0 hds (x:=vu) rfl (Wy (Yj G0 hds (x:=.none) rfl (WB ?_)))))));refine Wy (slicePart_none ?_);show W4 _ _ (if ((1:Int)==0)=true then _ else _) _ _ s;rw[hV (by decide)];refine Wy (p8 pl (Wy (p8 pu (Wy (WB ?_)))));show W4 _ _ (match aar lo hi 1 (n:Int) with|(lo,hi)=>pure (lo,(1:Int),Zy lo hi 1)) _ _ s;rw[yF lo hi n];show W4 _ _ (pure (((sIx n 0 lo:Nat):Int),(1:Int),Zy ((sIx n 0 lo:Nat):Int) ((sIx n n hi:Nat):Int) 1)) _ _ s;rw[yG];exact WB h
theorem Dz (xs:Array WM)(i k:Nat):((Xo k).filterMap λ(m:Nat)=>xs[((i:Int)+(m:Int)*1).toNat]?).toArray=((xs.toList.drop i).take k).toArray:=by
 have e:(λ(m:Nat)=>xs[((i:Int)+(m:Int)*1).toNat]?)=λm=>xs[i+m]? := by
  funext m;have:((i:Int)+(m:Int)*1).toNat=i+m:=by lia
  rw[this]
 rw[e];have:=pick_run xs i k;rw[List.filterMap_map] at this;have e2:((λx=>xs[x]?)∘λx=>i+x)=λm=>xs[i+m]? := rfl;rw[e2] at this;rw[this]
theorem getItem_tuple_cut {t sl:W7}{items:Array WM}{vl vu:WM}{lo:Option Int}(ht:IsTup s.heap t items)(hs:s.heap.IsSliceOf sl vl vu .none)(pl:IsPart vl lo)(pu:IsPart vu hi)(hw:¬(sIx items.size 0 lo=0/\sIx items.size items.size hi=items.size))(h:Q (.ref s.heap.objs.size) {s with heap:=s.heap.push {cls:=.type "tuple",data:=.seq ((items.toList.drop (sIx items.size 0 lo)).take (sIx items.size items.size hi-sIx items.size 0 lo)).toArray}})(hsz:items.size<=WJ):W4 (Xg prog w) A (abQ (.ref t) (.ref sl)) Q E s:=by
 have BP:sizeOk (.seq ((items.toList.drop (sIx items.size 0 lo)).take (sIx items.size items.size hi-sIx items.size 0 lo)).toArray):=by
  show ((items.toList.drop (sIx items.size 0 lo)).take (sIx items.size items.size hi-sIx items.size 0 lo)).toArray.size<=WJ;rw[WK,Xc,XA,WO];lia
 have hj:sIx items.size items.size hi<=items.size:=Lr _ _ (WR _) hi;obtain⟨os,G0,hcs,hds⟩:=id hs;have Su:s.TypeIs (.ref sl) "slice":=⟨os,G0,hcs⟩;unfold abQ
 try with_reducible refine Yl ?_
 first|refine Wy (WB ?_)|skip
 refine Wy (wpAny_sequenceKey ht.typeIs (by decide) ?_);refine Wy (Xy (name:=YC "__getitem__") ht.typeIs YU
  (Xr YU ht.typeIs entry_tuple_getitem ?_ (args_tuple_getitem _ _)))
 show W4 _ _ (aan (.ref t) >>= _) _ _ s;refine Wy (tupleItemsOf_ ht ?_);refine Wy (abv Su ?_);rw[hZ (by decide)];refine Wy (iN hs pl pu ?_);have Sv:¬((((sIx items.size 0 lo:Nat):Int)==0&&(1:Int)==1&&(sIx items.size items.size hi-sIx items.size 0 lo)==items.size)=true):=by
  intro q;rw[W6,W6] at q;have q1:((sIx items.size 0 lo:Nat):Int)=0:=eq_of_beq q.1.1;have q2:sIx items.size items.size hi-sIx items.size 0 lo=items.size:=eq_of_beq q.2;exact hw ⟨by lia,by lia⟩
 show W4 _ _ (if (((sIx items.size 0 lo:Nat):Int)==0&&(1:Int)==1&&(sIx items.size items.size hi-sIx items.size 0 lo)==items.size)=true then _ else _) _ _ s;rw[hV Sv,Dz]
 first
  |exact Wy (m:=YD _) (Xk (WB ⟨_,rfl,WB h⟩) BP)
  |exact Wy (m:=YD _) (Xk (Wy (WB (WB ⟨_,rfl,WB h⟩))) BP)
  |exact Wy (Wy (m:=YD _) (Xk (WB (WB ⟨_,rfl,WB h⟩)) BP))
  |exact Wy (Wy (m:=YD _) (Xk (WB ⟨_,rfl,WB h⟩) BP))
end
end HT
namespace L2
abbrev TO:=St->Hp->(Option Int->Hp->Prop)->Prop
def PO (X:Cx)(e:Option YO)(t:TO):Prop:=
 ∀(pins:List (W7×Obj)) (s:WY) (σ:St) (H:Hp) (Q:Option Int->Hp->Prop),az X pins σ H s->t σ H Q->
  W4 (Xg X.prog X.w) X.A (evalPart e X.env) (λu s'=>∃o H',az X pins σ H' s'/\IsPart u o/\Q o H') X.xe s
def Hh:TO:=λ_ H Q=>Q none H
def Oq (t:TE):TO:=λσ H Q=>t σ H λx H1=>∃i,x=.int i/\Q (some i) H1
theorem gz:∀{us:List WM},aQ (ns.map V.int) us->abc us ns:=by
 induction ns with
 |nil=>intro us r;rw[X0] at r;cases r;exact .nil
 |cons n ns ih=>
  intro us r;rw[WD] at r;cases r with
  |cons r1 r2=>
   obtain⟨t,e⟩:=r1;subst e;exact .cons n t (ih r2)
section
variable {e:YO}{lo hi:Option YO}{tl th:TO}
theorem Hi:PO X none Hh:=by
 intro pins s σ H Q I h;rw[evalPart_none];exact WB ⟨none,H,I,.none,h⟩
theorem Hj (h:PE X e te):PO X (some e) (Oq te):=by
 intro pins s σ H Q I hw;rw[evalPart_some];refine du (h pins s σ H _ I hw) λu s1 ⟨x,H1,I1,r1,q1⟩=>?_;obtain⟨i,rfl,q⟩:=q1;obtain⟨t,rfl⟩:=r1;exact⟨some i,H1,I1,.int i t,q⟩
def DB (X:Cx)(r:V->Option Int->Option Int->Hp->VK->Prop):Prop:=
 ∀(pins:List (W7×Obj)) (s:WY) (σ:St) (H:Hp) (x:V) (v vl vu:WM) (lo hi:Option Int) (sl:W7) (Q:VK),az X pins σ H s->aN x v->s.heap.IsSliceOf sl vl vu .none->IsPart vl lo->IsPart vu hi->r x lo hi H Q->
  ∃T id,typeLookup (.type T) "__getitem__"=pure (some (.builtin id))/\s.TypeIs v T/\W4 (Xg X.prog X.w) X.A (abQ v (.ref sl)) (EP X pins σ Q) X.xe s
theorem DB.or {r r':V->Option Int->Option Int->Hp->VK->Prop}(h:DB X r)(h':DB X r'):DB X (λx lo hi H Q=>r x lo hi H Q\/r' x lo hi H Q):=by
 intro pins s σ H x v vl vu lo hi sl Q I rx hs pl pu q;rcases q with q|q
 ·exact h pins s σ H x v vl vu lo hi sl Q I rx hs pl pu q
 ·exact h' pins s σ H x v vl vu lo hi sl Q I rx hs pl pu q
def UG (r:V->Option Int->Option Int->Hp->VK->Prop)(te:TE)(tl th:TO):TE:=λσ H Q=>te σ H λx H1=>tl σ H1 λl H2=>th σ H2 λu H3=>r x l u H3 Q
theorem DC {r:V->Option Int->Option Int->Hp->VK->Prop}(hr:DB X r)(he:PE X e te)(hl:PO X lo tl)(hu:PO X hi th):PE X (.Subscript e (.Slice lo hi none p2) pos) (UG r te tl th):=by
 intro pins s σ H Q I h;refine Subscript_ (du (he pins s σ H _ I h) λv s1 ⟨x,H1,I1,r1,q1⟩=>?_);refine wpAny_Slice (du (hl pins s1 σ H1 _ I1 q1) λvl s2 ⟨l,H2,I2,pl,q2⟩=>du (hu pins s2 σ H2 _ I2 q2) λvu s3 ⟨u,H3,I3,pu,q3⟩=>?_);rw[evalPart_none];refine WB ?_;have I4:az X pins σ H3 {s3 with heap:=s3.heap.push {cls:=.type "slice",data:=.fields #[vl,vu,.none]}}:=I3.kept (t':=s3.toks) λb ob q=>WC _ q;obtain⟨T,id,hT,ht,hg⟩:=hr pins {s3 with heap:=s3.heap.push {cls:=.type "slice",data:=.fields #[vl,vu,.none]}} σ H3 x v vl vu l u s3.heap.objs.size Q I4 r1 (Heap.IsSliceOf.new ..) pl pu q3;show W4 (Xg X.prog X.w) X.A (subscriptTail e (.Slice lo hi none p2) v (.ref s3.heap.objs.size)) (EP X pins σ Q) X.xe {s3 with heap:=s3.heap.push {cls:=.type "slice",data:=.fields #[vl,vu,.none]}};exact tail_any (ops:=[.ref s3.heap.objs.size,v]) ht hT hg (by with_unfolding_all rfl)
noncomputable def p9 (xs:List V)(lo hi:Option Int):List V:=(xs.drop (HT.sIx xs.length 0 lo)).take (HT.sIx xs.length xs.length hi-HT.sIx xs.length 0 lo)
theorem nN (xs:List V)(lo hi:Option Int):(p9 xs lo hi).length<=xs.length:=by
 unfold p9;rw[Xc,XA];lia
def Ot (K:WH):V->Option Int->Option Int->Hp->VK->Prop:=λx lo hi H Q=>∃a xs,x=.ref a/\fQ K H a xs/\
 ¬(HT.sIx xs.length 0 lo=0/\HT.sIx xs.length xs.length hi=xs.length)/\∀p,H p=none->Q (.ref p) (bV H p (.tup (p9 xs lo hi)))
theorem Ls:DB X (Ot X.K):=by
 intro pins s σ H x v vl vu lo hi sl Q I rx hs pl pu h;obtain⟨a,xs,rfl,hx,hw,q⟩:=h;cases rx;obtain⟨ao,r,ht,hz⟩:=I.tuple hx;have cJ:ao.toArray.size=xs.length:=by rw[WK];exact r.length.symm
 refine⟨"tuple",_,PyProof.Rows.slot_tuple_getitem.lookup,ht.typeIs,?_⟩;refine HT.getItem_tuple_cut ht hs pl pu (by rw[cJ];exact hw) ?_ (by rw[cJ];exact hz);rw[cJ];refine⟨.ref s.heap.objs.size,_,I.laid (t':=s.toks) (o:=.tup (p9 xs lo hi)) (λb ob q=>WC _ q) (WR _) ?_,rfl,q _ (I.hok.fresh (WR _))⟩;exact⟨XC (nN xs lo hi) hz,_,(r.drop (HT.sIx xs.length 0 lo)).take (HT.sIx xs.length xs.length hi-HT.sIx xs.length 0 lo),IsTup.new _ _,_,WQ _ rfl⟩
def Ou (K:WH):R2:=λx y H Q=>∃a b xs ys,x=.ref a/\y=.ref b/\fQ K H a xs/\fQ K H b ys/\xs≠[]/\xs.length+ys.length<=WJ/\
 (ys=[]->Q (.ref a) H)/\(ys≠[]->∀p,H p=none->Q (.ref p) (bV H p (.tup (xs++ys))))
theorem aQ.nil_iff {us:List WM}(r:aQ xs us):us=[]↔xs=[]:=by
 cases r with
 |nil=>simp
 |cons _ _=>simp
theorem Hk:lM X (aax .Add) (Ou X.K):=by
 intro pins s σ H x y v u Q I rx ry h;obtain⟨a,b,xs,ys,rfl,rfl,ha,hb,hx,hz,q1,q2⟩:=h;cases rx;cases ry;obtain⟨ao,r1,p1,_⟩:=I.tuple ha;obtain⟨its2,r2,p2,_⟩:=I.tuple hb;refine HT.cat_tup p1 p2 (λz=>hx (r1.nil_iff.mp z)) (λz=>⟨.ref a,H,I,rfl,q1 (r2.nil_iff.mp z)⟩) (λz=>?_) (by rw[←r1.length,←r2.length];exact hz);refine⟨.ref s.heap.objs.size,_,I.laid (t':=s.toks) (o:=.tup (xs++ys)) (λb ob q=>WC _ q) (WR _) ?_,rfl,q2 (λw=>z (r2.nil_iff.mpr w)) _ (I.hok.fresh (WR _))⟩;exact⟨by rw[WN];exact hz,_,r1.append r2,IsTup.new _ _,_,WQ _ rfl⟩
end
end L2
namespace L2
noncomputable def Dg (n:Nat)(i:Int):Option Nat:=if 0<=i then (if i<n then some i.toNat else none) else if -(n:Int)<=i then some (i+n).toNat else none
noncomputable def lU {α:Type}(xs:List α)(i:Int):Option α:=(Dg xs.length i).bind λj=>xs[j]?
theorem Am {i:Int}(h:Dg n i=some j):acw i n=some j/\j<n/\ -(n:Int)<=i/\i<n:=by
 unfold Dg at h;by_cases h0:0<=i
 ·rw[hZ h0] at h;by_cases h1:i<n
  ·rw[hZ h1] at h;have e:i.toNat=j:=Xa h;exact⟨by rw[seqIndex_of h0 h1,e],by lia,by lia,h1⟩
  ·rw[hV h1] at h;cases h
 ·rw[hV h0] at h;by_cases h1 : -(n:Int)<=i
  ·rw[hZ h1] at h;have e:(i+n).toNat=j:=Xa h;exact⟨by rw[seqIndex_neg (by lia) h1,e],by lia,h1,by lia⟩
  ·rw[hV h1] at h;cases h
theorem uz {α:Type}{xs:List α}{i:Int}{v:α}(h:lU xs i=some v):∃j,acw i xs.length=some j/\xs[j]? = some v/\j<xs.length/\ -(xs.length:Int)<=i/\i<xs.length:=by
 unfold lU at h;cases e:Dg xs.length i with
 |none=>rw[e] at h;cases h
 |some j=>
  rw[e] at h;obtain⟨h1,h2,h3,h4⟩:=Am e;exact⟨j,h1,h,h2,h3,h4⟩
def An (b:YO):Prop:=∀o i,subscripted b false o i=operate [o,i] (abQ o i)
def GK (X:Cx)(r:R2):Prop:=
 ∀(value slice:YO) (pins:List (W7×Obj)) (s:WY) (σ:St) (H:Hp) (x y:V) (v u:WM) (Q:VK),az X pins σ H s->aN x v->aN y u->r x y H Q->
  subscripted slice false v u=operate [v,u] (abQ v u)->W4 (Xg X.prog X.w) X.A (subscriptTail value slice v u) (EP X pins σ Q) X.xe s
def GL (X:Cx)(id:String)(r:V->List V->Hp->VK->Prop):Prop:=
 ∀(pins:List (W7×Obj)) (s:WY) (σ:St) (H:Hp) (x:V) (xs:List V) (v:WM) (us:List WM) (Q:VK),az X pins σ H s->aN x v->aQ xs us->r x xs H Q->
  W4 (Xg X.prog X.w) X.A (call (.builtin id) (v::us)) (EP X pins σ Q) X.xe s
section
variable {a b:YO}{ta tb:TE}
theorem GK.or {r':R2}(h:GK X r)(h':GK X r'):GK X (λx y H Q=>r x y H Q\/r' x y H Q):=by
 intro value slice pins s σ H x y v u Q I rx ry q hs;rcases q with q|q
 ·exact h value slice pins s σ H x y v u Q I rx ry q hs
 ·exact h' value slice pins s σ H x y v u Q I rx ry q hs
theorem GL.or {id:String}{r r':V->List V->Hp->VK->Prop}(h:GL X id r)(h':GL X id r'):GL X id (λx xs H Q=>r x xs H Q\/r' x xs H Q):=by
 intro pins s σ H x xs v us Q I rx rs q;rcases q with q|q
 ·exact h pins s σ H x xs v us Q I rx rs q
 ·exact h' pins s σ H x xs v us Q I rx rs q
theorem Ov (hr:GK X r)(ha:PE X a ta)(hb:PE X b tb)(hs:An b):PE X (.Subscript a b pos) (Ob r ta tb):=by
 intro pins s σ H Q I h;exact Subscript_ (Ll ha hb I h λv u s2 x y H2 I2 rx ry q=>hr a b pins s2 σ H2 x y v u Q I2 rx ry q (hs _ _))
def Ow (K:WH):R2:=λx y H Q=>∃p xs i v,x=.ref p/\y=.int i/\eF K H p xs/\lU xs i=some v/\Q v H
def Ox (K:WH):R2:=λx y H Q=>∃p xs i v,x=.ref p/\y=.int i/\fQ K H p xs/\lU xs i=some v/\Q v H
def Oy:R2:=λx y H Q=>∃z i c,x=.str z/\y=.int i/\z.length<=WJ/\lU z.cps.toList i=some c/\Q (.str ⟨#[c]⟩) H
theorem Hl:GK X (Ow X.K):=by
 intro value slice pins s σ H x y v u Q I rx ry h hs;obtain⟨p,xs,i,z,rfl,rfl,hq,he,q⟩:=h;cases rx;obtain⟨t,rfl⟩:=ry;obtain⟨ao,r,pl,hz⟩:=I.list hq;obtain⟨j,h1,h2,h3,h4,h5⟩:=uz he;obtain⟨w,ew,yo⟩:=r.get h2;have hl:=r.length;have hn:=mU;have fin:EP X pins σ Q w s:=⟨z,H,I,yo,q⟩;by_cases h0:0<=i
 ·have hj:i.toNat=j:=by
   rw[seqIndex_of h0 h5] at h1;exact Xa h1
  exact item_listR pl.isList h0 (by lia) (by rw[hj];simpa using ew) fin hs
 ·have hj:(i+(ao.toArray.size:Int)).toNat=j:=by
   rw[seqIndex_neg (by lia) h4] at h1;rw[WK,←hl];exact Xa h1
  exact subscriptTail_builtinR (x:=w) pl.isList.typeIs slot_list_getitem.lookup
   (wpAny_getItem_list_neg (Q:=λr s'=>r=w/\EP X pins σ Q r s') pl.isList (by lia) (by rw[WK]<;>lia) (by lia) (by rw[hj];simpa using ew) ⟨rfl,fin⟩) hs
theorem Lu:GK X (Ox X.K):=by
 intro value slice pins s σ H x y v u Q I rx ry h hs;obtain⟨p,xs,i,z,rfl,rfl,hq,he,q⟩:=h;cases rx;obtain⟨t,rfl⟩:=ry;obtain⟨ao,r,pl,hz⟩:=I.tuple hq;obtain⟨j,h1,h2,h3,h4,h5⟩:=uz he;obtain⟨w,ew,yo⟩:=r.get h2;have hl:=r.length;have hn:=mU;have fin:EP X pins σ Q w s:=⟨z,H,I,yo,q⟩;exact subscriptTail_builtinR (x:=w) pl.typeIs slot_tuple_getitem.lookup
  (getItem_tuple (j:=j) (Q:=λr s'=>r=w/\EP X pins σ Q r s') pl (by lia) (by lia) (by rw[WK,←hl];exact h1) (by simpa using ew) ⟨rfl,fin⟩) hs
theorem Lv:GK X Oy:=by
 intro value slice pins s σ H x y v u Q I rx ry h hs;obtain⟨z,i,c,rfl,rfl,hz,he,q⟩:=h;obtain⟨t,rfl⟩:=rx;obtain⟨t',rfl⟩:=ry;obtain⟨j,h1,h2,h3,h4,h5⟩:=uz he;have hl:z.cps.toList.length=z.length:=by simp[Str.length]
 rw[hl] at h1 h4 h5;have hn:=mU;exact tail_any (typeIs_str s z t) slot_str_getitem.lookup (getItem_str (c:=c) (by
  have e1:decide (i < -(2 ^ 63:Int))=false:=hJ (by lia);have e2:decide (i≥2 ^ 63)=false:=hJ (by lia);rw[e1,e2,Bool.or_false]) (by rw[h1];simpa using h2) ⟨.str ⟨#[c]⟩,H,I.tok _,⟨_,rfl⟩,q⟩) hs
def Tn (K:WH):R2:=λx y H Q=>Ow K x y H Q\/Ox K x y H Q\/Oy x y H Q
theorem cB:GK X (Tn X.K):=Hl.or (Lu.or Lv)
theorem yH (ao:List WM)(n j:Nat)(u:WM):aai (·.setIfInBounds j u) {cls:=.type "list",data:=.seq ao.toArray n}={cls:=.type "list",data:=.seq (ao.set j u).toArray n}:=by
 simp[aai]
theorem az.lst (I:az X pins σ H s)(h:H p=some (.lst xs)) :
  ∃(ao:List WM) (n:Nat),aQ xs ao/\s.heap.get? p=some {cls:=.type "list",data:=.seq ao.toArray n}/\xs.length<=WJ:=by
 obtain⟨z,ao,n,r,e⟩:=I.hok p _ h;exact⟨ao,n,r,e,z⟩
theorem az.lstUpd {ys:List V}{its':List WM}{n':Nat}{f:Obj->Obj}(I:az X pins σ H s)(h:H p=some (.lst xs))(ho:s.heap.get? p=some {cls:=.type "list",data:=.seq ao.toArray n})(hf:f {cls:=.type "list",data:=.seq ao.toArray n}={cls:=.type "list",data:=.seq its'.toArray n'})(r:aQ ys its')(hz:ys.length<=WJ)(t:Nat) :
  az X pins σ (bV H p (.lst ys)) {s with heap:=s.heap.update p f,toks:=t}:=by
 have e:(s.heap.update p f).get? p=some {cls:=.type "list",data:=.seq its'.toArray n'}:=by
  rw[YE f ho (by rw[hf]<;>rfl),hf]
 refine I.write (x:=p) (e:=p) (by rw[h];trivial) (.inl rfl) (λb u hb q=>(Heap.get?_update_other _ _ (Ne.symm hb)).trans q) ⟨_,e⟩ ?_;exact⟨hz,its',n',r,e⟩
def Oz:V->V->V->Hp->(Hp->Prop)->Prop:=λo i v H Q=>∃p xs k j,o=.ref p/\i=.int k/\H p=some (.lst xs)/\Dg xs.length k=some j/\Q (bV H p (.lst (xs.set j v)))
theorem DF:N8 X Oz:=by
 intro pins s σ H o i v ov iv u Q I ro ri rv h;obtain⟨p,xs,k,j,rfl,rfl,hp,hj,q⟩:=h;cases ro;obtain⟨t,rfl⟩:=ri;obtain⟨ao,n,r,ho,hz⟩:=I.lst hp;obtain⟨h1,h2,h3,h4⟩:=Am hj;have hl:=r.length;have hn:=mU;have I':az X pins σ (bV H p (.lst (xs.set j v))) {s with heap:=s.heap.update p (aai (·.setIfInBounds j u))}:=
  I.lstUpd hp ho (yH ao n j u) (r.set rv j) (by rw[X4];exact hz) s.toks
 by_cases h0:0<=k
 ·have hk:k.toNat=j:=by
   rw[seqIndex_of h0 h4] at h1;exact Xa h1
  exact PySem.W.ki_setAt ho h0 (by lia) (by rw[WK,←hl];exact h4) (by rw[hk];exact⟨_,I',q⟩)
 ·have hk:(k+(ao.toArray.size:Int)).toNat=j:=by
   rw[seqIndex_neg (by lia) h3] at h1;rw[WK,←hl];exact Xa h1
  exact PySem.W.ki_setBack ho (by lia) (by rw[WK,←hl];exact h3) (by lia) (by rw[hk];exact⟨_,I',q⟩)
theorem uA (lo hi:Option Int)(n:Nat):(abd lo hi none n).1=((HT.sIx n 0 lo:Nat):Int)/\(abd lo hi none n).2.1=((HT.sIx n n hi:Nat):Int)/\(abd lo hi none n).2.2=1:=by
 refine⟨?_,?_,rfl⟩
 ·cases lo with
  |none=>simp[abd,HT.sIx]
  |some i=>
   simp only[abd,HT.sIx,aay,show (1:Int)>0 by decide,if_true];by_cases h:i<0
   ·simp only[h,if_true]<;>lia
   ·simp only[h,if_false]<;>lia
 ·cases hi with
  |none=>simp[abd,HT.sIx]
  |some i=>
   simp only[abd,HT.sIx,aay,show (1:Int)>0 by decide,if_true];by_cases h:i<0
   ·simp only[h,if_true]<;>lia
   ·simp only[h,if_false]<;>lia
theorem se (ao:List WM)(lo hi:Option Int):slicePick ao.toArray lo hi none=((ao.drop (HT.sIx ao.length 0 lo)).take (HT.sIx ao.length ao.length hi-HT.sIx ao.length 0 lo)).toArray:=by
 obtain⟨h1,h2,h3⟩:=uA lo hi ao.toArray.size;unfold slicePick;rw[h1,h2,h3];simp only[sliceRange_one,pick_run,WK]<;>rfl
def Hm (K:WH):V->Option Int->Option Int->Hp->VK->Prop:=λx lo hi H Q=>∃a xs,x=.ref a/\eF K H a xs/\∀p,H p=none->Q (.ref p) (bV H p (.lst (p9 xs lo hi)))
theorem Hn:DB X (Hm X.K):=by
 intro pins s σ H x v vl vu lo hi sl Q I rx hs pl pu h;obtain⟨a,xs,rfl,hx,q⟩:=h;cases rx;obtain⟨ao,r,ht,hz⟩:=I.list hx;have cJ:=r.length;refine⟨"list",_,slot_list_getitem.lookup,ht.isList.typeIs,?_⟩;refine wpAny_getItem_list_slice ht.isList hs pl pu .none (by simp) ?_ (by rw[WK]<;>lia);rw[se,←cJ];refine⟨.ref s.heap.objs.size,_,I.laid (t':=s.toks) (o:=.lst (p9 xs lo hi)) (λb ob q=>WC _ q) (WR _) ?_,rfl,q _ (I.hok.fresh (WR _))⟩;exact⟨XC (nN xs lo hi) hz,_,0,(r.drop (HT.sIx xs.length 0 lo)).take (HT.sIx xs.length xs.length hi-HT.sIx xs.length 0 lo),WQ _ rfl⟩
theorem uB:dE X (.type "list") (λxs H Q=>∃p ys,xs=[.ref p]/\(eF X.K H p ys\/fQ X.K H p ys)/\∀l,H l=none->Q (.ref l) (bV H l (.lst ys))):=by
 intro pins s σ H xs us Q I r h;obtain⟨p,ys,rfl,hq,q⟩:=h;obtain⟨u,rfl,rx⟩:=iM r;cases rx;have fin:∀(ao:List WM),aQ ys ao->ys.length<=WJ->∀(h':ZG) (c':Nat),(∀b o',s.heap.get? b=some o'->h'.get? b=some o')->
   h'.get? s.heap.objs.size=some {cls:=.type "list",dict:=none,data:=.seq ao.toArray c',slots:=#[]}->EP X pins σ Q (.ref s.heap.objs.size) {s with heap:=h'}:=λao r' hz h' c' kp e=>
  ⟨.ref s.heap.objs.size,_,I.laid (t':=s.toks) kp (WR _) (show bu X.prog X.w _ h' _ (.lst ys) from ⟨hz,ao,c',r',e⟩),rfl,q _ (I.hok.fresh (WR _))⟩
 rcases hq with hq|hq
 ·obtain⟨ao,r',pl,hz⟩:=I.list hq;have cJ:=r'.length;obtain⟨o,ho,hc,n,hd⟩:=pl.isList;exact call_list_seq p (.inl rfl) ho hc hd (λh' c' kp e=>fin ao r' hz h' c' kp e) (by simp only[WK]<;>lia)
 ·obtain⟨ao,r',pl,hz⟩:=I.tuple hq;have cJ:=r'.length;obtain⟨o,ho,hc,n,hd⟩:=pl;exact call_list_seq p (.inr rfl) ho hc hd (λh' c' kp e=>fin ao r' hz h' c' kp e) (by simp only[WK]<;>lia)
theorem bP:dE X (.type "tuple") (λxs H Q=>∃p ys,xs=[.ref p]/\((eF X.K H p ys/\∀l,H l=none->Q (.ref l) (bV H l (.tup ys)))\/(fQ X.K H p ys/\Q (.ref p) H))):=by
 intro pins s σ H xs us Q I r h;obtain⟨p,ys,rfl,h⟩:=h;obtain⟨u,rfl,rx⟩:=iM r;cases rx;rcases h with⟨hq,q⟩|⟨hq,q⟩
 ·obtain⟨ao,r',pl,hz⟩:=I.list hq;have cJ:=r'.length;refine call_tuple_list pl.isList (λh' kp=>?_) (by simp only[WK]<;>lia);have I1:az X pins σ H {s with heap:=h'}:=I.kept (t':=s.toks) kp;have I2:az X pins σ (bV H h'.objs.size (.tup ys)) {s with heap:=h'.push {cls:=.type "tuple",data:=.seq ao.toArray}}:=
   I1.laid (t':=s.toks) (λb o e=>WC _ e) (WR _) (show bu X.prog X.w _ _ _ (.tup ys) from ⟨hz,ao,r',IsTup.new _ _,_,WQ _ rfl⟩)
  exact⟨.ref h'.objs.size,_,I2,rfl,q _ (I1.hok.fresh (WR _))⟩
 ·obtain⟨ao,r',pl,hz⟩:=I.tuple hq;exact call_tuple_same pl ⟨.ref p,H,I,rfl,q⟩
def QK (K:WH)(T:String)(x:V)(H:Hp):Prop:=match x with
 | .str _=>T="str"
 | .int _=>T="int"
 | .ref p=>(T="list"/\∃xs,eF K H p xs)\/(T="tuple"/\((∃o,K.lookup p=some o/\o.cls=.type "tuple"/\o.dict=none)\/∃xs,H p=some (.tup xs))) \/
   (T="dict"/\((∃aK,H p=some (.dK aK))\/∃aK,H p=some (.dT aK)))\/(T="set"/\∃S n,H p=some (.set S n))
 |_=>False
theorem DH {x:V}{v:WM}(I:az X pins σ H s)(r:aN x v)(ty:QK X.K T x H) :
  s.TypeIs v T/\∀a,v=.ref a->∃ob,s.heap.get? a=some ob/\ob.dict=none:=by
 cases x with
 |str z=>
  obtain⟨t,rfl⟩:=r;cases (show T="str" from ty);exact⟨typeIs_str s z t,λ_ e=>nomatch e⟩
 |int i=>
  obtain⟨t,rfl⟩:=r;cases (show T="int" from ty);exact⟨typeIs_int s i t,λ_ e=>nomatch e⟩
 |ref p=>
  cases r;rcases ty with⟨rfl,xs,hq⟩|⟨rfl,⟨o,hk,hc,hd⟩|⟨xs,hq⟩⟩|⟨rfl,hk⟩|⟨rfl,S,n,hk⟩
  ·obtain⟨ao,_,pl,_⟩:=I.list hq;refine⟨pl.isList.typeIs,λa e=>?_⟩;cases e;obtain⟨o,n,e,c,hd,_⟩:=pl;exact⟨o,e,hd⟩
  ·refine⟨⟨o,I.kIn p o hk,hc⟩,λa e=>?_⟩;cases e;exact⟨o,I.kIn _ o hk,hd⟩
  ·obtain⟨_,ao,_,⟨o,e,c,_⟩,n2,e2⟩:=I.hok p _ hq;refine⟨⟨o,e,c⟩,λa e'=>?_⟩;cases e';exact⟨_,e2,rfl⟩
  ·have z:∃o,s.heap.get? p=some o/\o.ExactDict:=by
    rcases hk with⟨aK,hk⟩|⟨aK,hk⟩
    ·obtain⟨_,_,_,_,o,_,_,e,ex,_⟩:=I.hok p _ hk;exact⟨o,e,ex⟩
    ·obtain⟨_,_,_,_,o,_,_,e,ex,_⟩:=I.hok p _ hk;exact⟨o,e,ex⟩
   obtain⟨o,e,ex⟩:=z;refine⟨⟨o,e,ex.1⟩,λa e2=>?_⟩;cases e2;exact⟨o,e,ex.2.1⟩
  ·obtain⟨o,_,_,_,e,ex,_⟩:=I.hok p _ hk;refine⟨⟨o,e,ex.1⟩,λa e2=>?_⟩;cases e2;exact⟨o,e,ex.2.1⟩
 |_=>exact aah ty
def OA (K:WH)(T:String)(r:V->List V->Hp->VK->Prop)(to:TE):TE:=λσ H Q=>to σ H λx H1=>QK K T x H1/\r x [] H1 Q
def To (K:WH)(T:String)(r:V->List V->Hp->VK->Prop)(to:TE)(t:TA):TE:=λσ H Q=>to σ H λx H1=>QK K T x H1/\t σ H1 λxs H2=>r x xs H2 Q
variable {o e:YO}{es:List YO}{to:TE}{t:TA}{name:Str}{cI cpos:Pos}{id:String}{r:V->List V->Hp->VK->Prop}
theorem Lw (pa:PlainAttrs T)(slot:Slot T name id)(Nn:typeOf (.builtin id)=pure (.type "method_descriptor"))(hm:GL X id r)(ho:PE X o to)
  (mO:ZR o name X.env (Z4 o X.env)=Z4 o X.env:=by rfl) (mP:(cI.endLine==cpos.line)=true:=by rfl):PE X (.Call (.Attribute o name cI) [] [] cpos) (OA X.K T r to):=by
 intro pins s σ H Q I h;refine wpAny_Call_method0_late mO mP (du (ho pins s σ H _ I h) λv s1 ⟨x,H1,I1,r1,ty,q1⟩=>?_);obtain⟨h1,h2⟩:=DH I1 r1 ty;exact⟨T,id,pa,slot,Nn,h1,h2,Zk rfl (PySem.evalArgs_none (hm pins s1 σ H1 x [] v [] Q I1 r1 .nil q1))⟩
theorem Ju (pa:PlainAttrs T)(slot:Slot T name id)(Nn:typeOf (.builtin id)=pure (.type "method_descriptor"))(hm:GL X id r)(ho:PE X o to)(ha:PA X (e::es) t)
  (mO:ZR o name X.env (Z4 o X.env)=Z4 o X.env:=by rfl)
  (GA:((Zl cpos (W5 (e::es) X.env)).all (λx=> !x.1)&&(backToKw cpos (abR [] X.env)).all (λx=>x.1.isSome)
   && decide ((e::es).length+([]:List abA).length+(if ([]:List abA).isEmpty then 0 else 1)<30))=true:=by rfl)
  (mP:(cI.endLine==cpos.line)=true:=by rfl) (hs:W5 (e::es) X.env=(false,Z4 e X.env)::W5 es X.env:=by rfl) (rV:(Zl cpos (W5 es X.env)).any (·.1)=false:=by rfl) :
  PE X (.Call (.Attribute o name cI) (e::es) [] cpos) (To X.K T r to t):=by
 intro pins s σ H Q I h;refine wpAny_Call_method_late mO GA mP rfl (du (ho pins s σ H _ I h) λv s1 ⟨x,H1,I1,r1,ty,q1⟩=>?_);obtain⟨h1,h2⟩:=DH I1 r1 ty;refine⟨T,id,pa,slot,Nn,h1,h2,?_⟩;have hA:=ha cpos pins s1 σ H1 _ I1 q1;rw[hs] at hA ⊢;refine Zk (by show (false||(Zl cpos (W5 es X.env)).any (·.1))=false;rw[rV]<;>rfl) (abF ?_);exact du hA λus s2 ⟨vs,H2,I2,r2,q2⟩=>hm pins s2 σ H2 x vs v us Q I2 r1 r2 q2
end
end L2
namespace L2
def OB (X:Cx)(id:String)(r:V->List V->Hp->VK->Prop):Prop:=
 ∀(pins:List (W7×Obj)) (s:WY) (σ:St) (H:Hp) (x:V) (xs:List V) (v:WM) (us:List WM) (Q:VK),az X pins σ H s->aN x v->aQ xs us->r x xs H Q->
  W4 (Xg X.prog X.w) X.A (call (.builtin id) (v::us)) (EP X pins σ Q) X.xe s
theorem aQ.one:∀{x:V} {us:List WM},aQ [x] us->∃u,us=[u]/\aN x u
 |_,_,.cons r .nil=>⟨_,rfl,r⟩
theorem aQ.zero:∀{us:List WM},aQ [] us->us=[]
 |_,.nil=>rfl
theorem aQ.dropLast {us:List WM}(h:aQ xs us):aQ xs.dropLast us.dropLast:=by
 induction h with
 |nil=>exact .nil
 |cons r t ih=>
  cases t with
  |nil=>exact .nil
  |cons q t'=>exact .cons r ih
theorem aQ.eraseIdx:∀{xs:List V} {us:List WM} (i:Nat),aQ xs us->aQ (xs.eraseIdx i) (us.eraseIdx i)
 |_,_,_,.nil=>.nil
 |_,_,0,.cons _ t=>t
 |_,_,i+1,.cons r t=>.cons r (aQ.eraseIdx i t)
theorem yI {α:Type}(l:List α):l.eraseIdx (l.length-1)=l.dropLast:=by
 induction l with
 |nil=>rfl
 |cons a r ih=>
  cases r with
  |nil=>rfl
  |cons b r=>
   have e:(a::b::r).length-1=((b::r).length-1)+1:=by
    have h1:(a::b::r).length=r.length+2:=rfl;have h2:(b::r).length=r.length+1:=rfl;lia
   rw[e,List.eraseIdx_cons_succ,ih]
   all_goals rfl
theorem sY {α:Type}:∀(l:List α) (i:Nat),(l.eraseIdx i).length<=l.length
 | [],_=>WR _
 |_::_,0=>Nat.le_succ _
 |_::r,i+1=>Nat.succ_le_succ (sY r i)
section
variable {l:W7}{ys zs:List V}
theorem az.lset {t':Nat}{its':List WM}{f:Array WM->Array WM}(I:az X pins σ H s)(hH:H l=some (.lst xs))(e:s.heap.get? l=some {cls:=.type "list",data:=.seq ao.toArray n})(hf:f ao.toArray=its'.toArray)(hv:aQ ys its')(hz:ys.length<=WJ) :
  az X pins σ (bV H l (.lst ys)) {s with heap:=s.heap.update l (aai f),toks:=t'}:=by
 have q:=PySem.IsL.update e f;rw[hf] at q;refine I.write (x:=l) (e:=l) (by rw[hH];exact trivial) (.inl rfl) (λb' u hb hu=>(Heap.get?_update_other s.heap (aai f) (Ne.symm hb)).trans hu) ⟨_,q⟩ ?_;exact⟨hz,its',_,hv,q⟩
theorem az.lnew {t':Nat}(I:az X pins σ H s)(hv:aQ ys ao)(hz:ys.length<=WJ) :
  az X pins σ (bV H s.heap.objs.size (.lst ys)) {s with heap:=s.heap.push {cls:=.type "list",data:=.seq ao.toArray},toks:=t'}:=
 I.laid (λ_ _ q=>WC _ q) (WR _) ⟨hz,ao,0,hv,WQ _ rfl⟩
theorem az.fresh (I:az X pins σ H s):H s.heap.objs.size=none:=I.hok.fresh (WR _)
theorem az.lstM (I:az X pins σ H s)(hH:H l=some (.lst xs)):xs.length<=WJ/\∃(ao:List WM) (n:Nat),aQ xs ao/\xs.length=ao.length/\s.heap.get? l=some {cls:=.type "list",data:=.seq ao.toArray n}:=by
 obtain⟨z,ao,n,r,e⟩:=I.hok l _ hH;exact⟨z,ao,n,r,r.length,e⟩
theorem v9 (h:n<=WJ):ZL n=false:=by
 unfold ZL;exact hJ (by lia)
end
def Ho:V->List V->Hp->VK->Prop:=λx vs H Q=>∃l xs y,x=.ref l/\vs=[y]/\H l=some (.lst xs)/\xs.length<WJ/\Q .non (bV H l (.lst (xs++[y])))
theorem B8:OB X "list.append" Ho:=by
 intro pins s σ H x vs v us Q I rx rv h;obtain⟨l,xs,y,rfl,rfl,hH,hz,q⟩:=h;cases rx;obtain⟨u,rfl,ru⟩:=rv.one;obtain⟨z,ao,n,r,hl,e⟩:=I.lstM hH;refine acx F.slot_list_append ⟨_,e,rfl⟩ F.entry_list_append (F.args_list_append_2 _ _) (PySem.list_append l ao.toArray n u (by rw[WK];lia)) ⟨e,?_⟩;refine⟨.non,_,I.lset (its':=ao++[u]) hH e (by simp) (r.append (.cons ru .nil)) ?_,rfl,q⟩;rw[WN,YF];lia
def RJ:V->List V->Hp->VK->Prop:=λx vs H Q=>∃l xs y,x=.ref l/\vs=[]/\H l=some (.lst xs)/\xs[xs.length-1]? = some y/\Q y (bV H l (.lst xs.dropLast))
theorem RK:OB X "list.pop" RJ:=by
 intro pins s σ H x vs v us Q I rx rv h;obtain⟨l,xs,y,rfl,rfl,hH,hy,q⟩:=h;cases rx;have NV:=rv.zero;subst NV;obtain⟨z,ao,n,r,hl,e⟩:=I.lstM hH;obtain⟨u,hu,ru⟩:=r.get hy;have UY:ao.toArray[ao.toArray.size-1]? = some u:=by
  show ao.toArray[ao.length-1]? = some u;rw[←W9,←hl];exact hu
 refine acx F.slot_list_pop ⟨_,e,rfl⟩ F.entry_list_pop (F.args_list_pop_1 _) (MeetsSeq.list_pop_last l ao.toArray n u UY (by rw[WK];lia)) ⟨e,?_⟩;refine⟨y,_,I.lset (its':=ao.dropLast) hH e ?_ r.dropLast ?_,ru,q⟩
 ·show ao.toArray.eraseIdxIfInBounds (ao.toArray.size-1)=ao.dropLast.toArray;rw[WK,abe,yI]
 ·rw[List.length_dropLast];lia
def DJ:V->List V->Hp->VK->Prop:=λx vs H Q=>∃l xs i k y,x=.ref l/\vs=[.int i]/\H l=some (.lst xs)/\ -(2 ^ 63)<=i/\i<2 ^ 63/\acw i xs.length=some k/\xs[k]? = some y/\Q y (bV H l (.lst (xs.eraseIdx k)))
theorem DK:OB X "list.pop" DJ:=by
 intro pins s σ H x vs v us Q I rx rv h;obtain⟨l,xs,i,k,y,rfl,rfl,hH,h1,h2,hk,hy,q⟩:=h;cases rx;obtain⟨u,rfl,ru⟩:=rv.one;obtain⟨t,rfl⟩:=ru;obtain⟨z,ao,n,r,hl,e⟩:=I.lstM hH;obtain⟨w,hw,yo⟩:=r.get hy;refine acx F.slot_list_pop ⟨_,e,rfl⟩ F.entry_list_pop (F.args_list_pop_2 _ _)
  (MeetsSeq.list_pop_at l ao.toArray n i t k w (fitsIndex_both h1 h2) (by rw[WK,←hl];exact hk) (by rw[←W9];exact hw) (by rw[WK];lia)) ⟨e,?_⟩
 refine⟨y,_,I.lset (its':=ao.eraseIdx k) hH e ?_ (r.eraseIdx k) ?_,yo,q⟩
 ·show ao.toArray.eraseIdxIfInBounds k=(ao.eraseIdx k).toArray;rw[abe]
 ·have:=sY xs k;lia
def DL:V->List V->Hp->VK->Prop:=λx vs H Q=>∃l xs,x=.ref l/\vs=[]/\H l=some (.lst xs)/\Q .non (bV H l (.lst []))
theorem DM:OB X "list.clear" DL:=by
 intro pins s σ H x vs v us Q I rx rv h;obtain⟨l,xs,rfl,rfl,hH,q⟩:=h;cases rx;have NV:=rv.zero;subst NV;obtain⟨z,ao,n,r,hl,e⟩:=I.lstM hH;refine acx F.slot_list_clear ⟨_,e,rfl⟩ F.entry_list_clear (F.args_list_clear_1 _) (AutoSeq1.list_clear_list_0 l ao.toArray n (by rw[WK];lia)) ⟨e,?_⟩;exact⟨.non,_,I.lset (its':=[]) (ys:=[]) hH e rfl .nil (X5 _),rfl,q⟩
section
variable {A:XD}
set_option maxRecDepth 100000 in
end
end L2
namespace Att
open PySem.W PySem.Calls
theorem oW {P:Params}:∀(ns:List Int) (vs:List WM),WellAll P h vs (ns.map WData.int)->abc vs ns:=by
 intro ns
 induction ns with
 |nil=>
  intro vs w;rw[X0] at w;cases w;exact .nil
 |cons n ns ih=>
  intro vs w;rw[WD] at w;cases w with
  |cons a b=>
   cases a;exact .cons _ _ (ih _ b)
theorem B9 {l:OpenLaw}(hn:l.most=some n){P:Params}{args:List WData}{Np:List WM}(Jm:l.row.toRowW.claim.pre args=true)(Sw:WellAll P h Np args) :
  ∃a vs ns,Np=[Value.ref a]/\args=[WData.list (ns.map WData.int)]/\h.get? a=some {cls:=.type "list",data:=.seq vs.toArray}/\abc vs ns/\ns.length<=n:=by
 have UZ:WShape.hasAll [] args [.list .int]=true:=(pre_splitW Jm).1;have hc:l.pre.holds [] {args:=args}=true:=(pre_splitW Jm).2;obtain⟨d,r,rfl,h1,h2⟩:=hasAllW_cons UZ;obtain rfl:=hasAllW_nil h2;obtain⟨xs,rfl,h3⟩:=hasW_list h1;obtain⟨ns,rfl⟩:=items_int h3;have cJ:ns.length<=n:=by
  unfold OpenLaw.pre at hc;have h4:(WTm.not (.lt (.lit (.int (n:Int))) (.len (.arg 0)))).holds [] {args:=[.list (ns.map .int)]}=true:=by
   have h4:=(holds_andW hc).1;rw[hn] at h4;exact h4
  have h5:=condW_of h4 (w_not (w_lt w_lit (w_len_list (w_arg rfl))));rw[WA] at h5;refine Nat.le_of_not_lt λq=>?_;have q':(n:Int)<((ns.length:Nat):Int):=by lia
  first
   | (rw[hG q'] at h5;exact absurd h5 (by decide))
   | (simp at h5;lia)
 cases Sw with
 |cons w1 w2=>
  cases w2;cases w1 with
  |list ho hall=>exact⟨_,_,ns,rfl,rfl,ho,oW ns _ hall,cJ⟩
theorem B_ (l:OpenLaw)(args:List WData):l.row.toRowW.claim.post args (.bool true) args=true:=
 postW_of (r:=l.row.toRowW) (X:=(true==true))
  (show WShape.has [] (.bool true) .bool=true by first|rfl|decide|simp[WShape.has,WShape.arms,WShape.armsAll])
  (show (WTm.eq .res (.lit (.bool true))).value [] {args:=args,res:=some (.bool true),after:=args}=some (.bool (true==true)) from w_eq_bool (w_res rfl) w_lit) rfl
theorem attach_call {l:OpenLaw}{q:ZI}{d:DefRec}(hn:l.most=some n)(Qg:d.params.defaults=[])(call:∀(w:Z1) (s₀ s₁:WY) (mg mb:Str->Option WM) (fa:W7) (o:Obj) (pm cd mT:WM) (a:W7) (vs:List WM) (ns:List Int),
   Ground q loose [] XP w s₀ mg mb s₁.heap->YP w s₁.heap->
   s₁.heap.get? fa=some o->o.data=.func (docDef d.name d.params d.body d.scope pm cd mT)->s₁.heap.CodeRec cd d.name->mg d.name=some (.ref fa)->
   s₁.heap.get? a=some {cls:=.type "list",data:=.seq vs.toArray}->abc vs ns->ns.length<=n->s₁.gens=#[]->
   codeAny (Xg l.prog w) callerA (.call (.ref fa) ⟨[.ref a],[]⟩) (λr s'=>r=.ok (.ret (.bool true))/\OldK s₁.heap s'.heap/\s'.os=s₁.os/\AllBare s'.gens) s₁) :
  WalkO q loose XP YP l.row.toRowW d [] (λf vs=>PySem.call f vs):=by
 intro w s₀ s₁ mg mb G Y fa o pm cd mT dV kV ho hd lE hD Qh hg args Np as Jm U0 Wc Sw Wd;obtain rfl:dV=.none:=Dflts.none hD Qg;obtain rfl:kV=.none:=Dflts.noKw hD;obtain⟨a,vs,ns,rfl,rfl,Nq,GB,cJ⟩:=B9 hn Jm Sw;refine enter_call (abt (call w s₀ s₁ mg mb fa o pm cd mT a vs ns G Y ho (fd_plain hd) lE Qh Nq GB cJ hg) λr s' hq=>?_);obtain⟨rfl,h2,h3,h4⟩:=hq;exact⟨.inl ⟨.bool true,.bool true,[],rfl,λ_=>rfl,.bool true,B_ l _,λ_=>⟨List.Pairwise.nil,λ_ hm=>(nomatch hm)⟩⟩,h2,h3,h4⟩
end Att
namespace L2
theorem mW:∀{vs:List WM} {ns:List Int},abc vs ns->aQ (ns.map V.int) vs
 |_,_,.nil=>.nil
 |_,_,.cons n t h=>.cons ⟨t,rfl⟩ (mW h)
def Hq (H:Hp):Prop:=∀b,H b=none\/∃o xs,H b=some (.frz o (.lst xs))
theorem DP {mb:Str->Option WM}{fa:W7}{s₁:WY}{vs:List WM}(KX:K.In s₁.heap)(T9:s₁.heap.Ns XI mg)(hb:s₁.heap.Ns builtinsNs mb)(U1:∀x:Str,x≠"__name__"->mb x=XB x)(Sz:s₁.heap.NoLimit)(hg:s₁.gens=#[])(ha:s₁.heap.get? a=some {cls:=.type "list",data:=.seq vs.toArray})(hi:abc vs ns)(hl:ns.length<=WJ)(hr:eG k callerA)(F:∀base:ZG,K.In base->base.Ns XI mg->ku P w K mg base CX k fa fd [x] sp)(Qi:∀(s:WY) (u:WM),BindsTo s fd ⟨[u],[]⟩ [(x,u)])(KQ:∀H:Hp,Hq H->eF K H a (ns.map V.int)->sp [.ref a] H (λv _=>v=.bl true) λ_ _ _=>False)(SA:∀H e s',CX [] H s₁ (λ_ _ _=>False) e s'->False) :
  codeAny (Xg P w) callerA (.call (.ref fa) ⟨[.ref a],[]⟩) (λr s'=>r=.ok (.ret (.bool true))/\OldK s₁.heap s'.heap/\s'.os=s₁.os/\AllBare s'.gens) s₁:=by
 have rv:=mW hi;have SD:=hi.length;have Qj:∀H:Hp,Hq H->eF K H a (ns.map V.int)->jy P w H s₁.heap->(∀b,H b≠none->b=a)->(H a≠none->K.lookup a=none)->
   codeAny (Xg P w) callerA (.call (.ref fa) ⟨[.ref a],[]⟩) (λr s'=>r=.ok (.ret (.bool true))/\OldK s₁.heap s'.heap/\s'.os=s₁.os/\AllBare s'.gens) s₁:=by
  intro H hO hS hok hA hK;have BQ:∀{b:W7} {o:Obj},s₁.heap.get? b=some o->H b=none->(uw s₁.heap H).get? b=some o:=λe n=>Dl e n;have Qe:∀{b:W7} {o:Obj} {es:Array acH} {ep:Nat},s₁.heap.get? b=some o->o.data=.dict es ep->H b=none:=λ{b o es ep} e d=>by
   cases q:H b with
   |none=>rfl
   |some u=>
    have e':b=a:=hA b (by rw[q];simp);subst e';rw[ha] at e;cases e;have d':Data.seq vs.toArray _=Data.dict es ep:=d;cases d'
  have Q9:∀{b:W7} {m:Str->Option WM},s₁.heap.Ns b m->(uw s₁.heap H).Ns b m:=λ{b m} ⟨o,es,ep,e,d,r⟩=>⟨o,es,ep,BQ e (Qe e d),d,r⟩;have T_:K.In (uw s₁.heap H):=λb o e=>BQ (KX b o e) (by
   cases q:H b with
   |none=>rfl
   |some u=>
    have e':b=a:=hA b (by rw[q];simp);subst e';rw[hK (by rw[q];simp)] at e;cases e)
  have hM:Mod K mg (uw s₁.heap H):=⟨T_,Q9 T9,⟨mb,Q9 hb,U1⟩,let ⟨mc,h1,h2⟩:=Sz;⟨mc,Q9 h1,h2⟩⟩;have e0:He P w K mg (uw s₁.heap H) callerA [] s₁ H:=⟨rfl,hM,λb o e=>G1 e,Nat.le_of_eq (BX _ _),trivial,λb hb=>absurd (show b∈([]:List W7) from hb) (by simp),hok,.of_eq hg⟩;refine abt ((F _ T_ (Q9 T9)).run callerA [] s₁ H ⟨[.ref a],[]⟩ [.ref a] [.ref a] _ _ hr e0 (Qi s₁ (.ref a)) (.cons rfl .nil) (KQ H hO hS)) λr s' h=>?_;cases r with
  |error e=>exact (SA H e s' h).elim
  |ok fl=>
   cases fl with
   |next=>exact aah h
   |brk=>exact aah h
   |cont=>exact aah h
   |ret u=>
    obtain⟨v,H',os,bare,un,hok',r',q⟩:=h;have q':v=.bl true:=q;subst q';obtain rfl:u=Value.bool true:=r';refine⟨rfl,OldK.of_keep λb o e=>?_,os,bare⟩;cases q:H b with
    |none=>exact un.keep b o e q (by intro z;exact absurd (show b∈([]:List W7) from z) (by simp)) (by simp)
    |some u=>
     rcases hO b with z|⟨ob,xs,z⟩
     ·rw[q] at z;cases z
     ·have z2:=un.frzs b ob _ z;obtain⟨e1,_⟩:=hok b _ z;obtain⟨e2,_⟩:=hok' b _ z2;rw[e] at e1;cases e1;exact e2
 cases hk:K.lookup a with
 |some o=>
  have e:=KX a o hk;rw[ha] at e;cases e;refine Qj (λ_=>none) (λ_=>.inl rfl) (.inr ⟨_,vs.toArray,_,hk,rfl,rfl,rfl,by rw[WK,SD];exact hl,by simpa using rv⟩) (λb u z=>by have z':(none:Option HO)=some u:=z;cases z') (λb z=>absurd rfl z) λz=>absurd rfl z
 |none=>
  refine Qj (λb=>if b=a then some (.frz {cls:=.type "list",data:=.seq vs.toArray} (.lst (ns.map V.int))) else none) (λb=>?_) (.inl (.inr ⟨{cls:=.type "list",data:=.seq vs.toArray},hZ rfl⟩)) (λb u z=>?_) (λb z=>?_) λ_=>hk
  ·by_cases hb:b=a
   ·exact .inr ⟨_,_,hZ hb⟩
   ·exact .inl (hV hb)
  ·by_cases hb:b=a
   ·have z':=(hZ hb).symm.trans z;cases z';subst hb;exact⟨ha,by rw[WA];exact hl,vs,_,rv,ha⟩
   ·have z':=(hV hb).symm.trans z;cases z'
  ·by_cases hb:b=a
   ·exact hb
   ·exact absurd (hV hb) z
end L2
namespace L2
theorem walk_of {l:PySem.W.OpenLaw}{q:ZI}{d:DefRec}{K:Params->WH}{CX:Z1->CXT}{sp:Z1->Sp}(hn:l.most=some n)(NW:n<=WJ)(Qg:d.params.defaults=[])(hr:eG k callerA)(hY:∀(w:Z1) (h:ZG),YP w h->(K w.params).In h)(F:∀(w:Z1) (mg:Str->Option WM) (fa:W7) (h:ZG),(K w.params).In h->h.Ns XI mg->mg d.name=some (.ref fa)->
   ∃fd:abI,(∀(s:WY) (u:WM),BindsTo s fd ⟨[u],[]⟩ [(x,u)])/\
    ∀base:ZG,(K w.params).In base->base.Ns XI mg->ku l.prog w (K w.params) mg base (CX w) k fa fd [x] (sp w))(KQ:∀(w:Z1) (H:Hp) (a:W7) (ns:List Int),ns.length<=n->Hq H->eF (K w.params) H a (ns.map V.int)->sp w [.ref a] H (λv _=>v=.bl true) λ_ _ _=>False)(SA:∀(w:Z1) (H:Hp) (s:WY) (e:WM) (s':WY),CX w [] H s (λ_ _ _=>False) e s'->False) :
  PySem.W.WalkO q loose XP YP l.row.toRowW d [] (λf vs=>PySem.call f vs):=by
 refine Att.attach_call hn Qg λw s₀ s₁ mg mb fa o pm cd mT a vs ns G Y ho hd lE Qh Nq GB cJ hg=>?_;have KX:=hY w _ Y;obtain⟨fd,hb,hF⟩:=F w mg fa _ KX G.T.g Qh;exact DP KX G.T.g G.T.b G.T.builtins G.T.nolimit hg Nq GB (XC cJ NW) hr hF hb (λH hO hS=>KQ w H a ns cJ hO hS) λH e s'=>SA w H s₁ e s'
end L2
namespace L2
noncomputable def eJ (s:abM):Arguments:=match s with
 | .FunctionDef _ a _ _ _ _ _ _ _ _=>a
 |_=>{posonlyargs:=[],args:=[],vararg:=none,kwonlyargs:=[],kw_defaults:=[],kwarg:=none,defaults:=[]}
noncomputable def bZ (s:abM):List abM:=match s with
 | .FunctionDef _ _ b _ _ _ _ _ _ _=>b
 |_=>[]
noncomputable def ai (s:abM):Scope:=match s with
 | .FunctionDef _ _ _ _ _ _ sc _ _ _=>sc
 |_=>{kind:=.function,names:=[],isGenerator:=false,isCoroutine:=false}
abbrev v_:CXT:=λ_ _ _ _ _ _=>False
abbrev E0:XK:=λ_ _ _=>False
theorem OC:yE v_ X E0:=λ_ _ _ _ _ _ _ h=>h.elim
structure GN (K:WH)(x qual:Str)(st:abM)(f:W7)(fd:abI):Prop where
 ex:∃(oc:WM) (od:Option W7) (kV mT pm:WM) (an:Option W7) (c7 ct:WM) (KP:Array (Option WM)),
  fd=YR x qual (eJ st) (bZ st) (ai st) .none kV mT pm an c7 ct/\K.lookup f=some ⟨oc,od,.func fd,KP⟩/\acj K c7 qual=true
 kp:ZY K (.ref f)=true
section
variable {base:ZG}
theorem GN.ok (F:GN K x qual st f fd)(S:aW N ps (ai st))(len:∀vs H Q E,sp vs H Q E->vs.length=ps.length)(gT:∀(c7:WM) (A:XD) (outer:List Env) (s:WY) (H:Hp) (vs:List V) (Q:VK) (E:XK),eG k (A.deeper (ab_ qual (ai st) s.heap.objs.size f c7))->sp vs H Q E->
   ∃t,sd (oV v_ P w K mg base N qual (ai st) f c7 A outer s H E).nox (bZ st) t/\t {nx:=λ_ H'=>Q .non H',rt:=Q} (aaN N vs) H):ku P w K mg base v_ (k+1) f fd ps sp:=by
 obtain⟨oc,od,kV,mT,pm,an,c7,ct,KP,rfl,lk,lE⟩:=F.ex;refine Oo lk lE S len λA outer s H vs Q E hr KQ=>?_;obtain⟨t,h,q⟩:=gT c7 A outer s H vs Q E hr KQ;exact⟨t,h.nox,q⟩
theorem GN.binds (F:GN K x qual st f fd)(h:∀(kV mT pm:WM) (an:Option W7) (c7 ct:WM) (us:List WM),us.length=ps.length->bindArgs (YR x qual (eJ st) (bZ st) (ai st) .none kV mT pm an c7 ct) ⟨us,[]⟩=pure (ps.zip us)):sT K fd ps []:=by
 obtain⟨oc,od,kV,mT,pm,an,c7,ct,KP,rfl,lk,lE⟩:=F.ex;exact .all (h kV mT pm an c7 ct)
theorem DQ {oc:WM}{od an:Option W7}{KP:Array (Option WM)}{kV mT pm c7 ct:WM}(l:K.lookup f=some ⟨oc,od,.func (YR x qual (eJ st) (bZ st) (ai st) .none kV mT pm an c7 ct),KP⟩)(c:acj K c7 qual=true)(k:ZY K (.ref f)=true):GN K x qual st f (YR x qual (eJ st) (bZ st) (ai st) .none kV mT pm an c7 ct):=⟨⟨oc,od,kV,mT,pm,an,c7,ct,KP,rfl,l,c⟩,k⟩
end
theorem dF {A:XD}(hr:eG k A):A.units+1<YV:=Z6 (Nat.add_le_add_left (by decide:1<=64) _) hr.units
def aG (H H':Hp):Prop:=∀b o,H b=some o->H' b=some o
theorem aG.refl (H:Hp):aG H H:=λ_ _ h=>h
theorem aG.trans (a:aG H H1)(b:aG H1 H2):aG H H2:=λc o h=>b c o (a c o h)
theorem aG.seq (e:aG H H')(h:eF K H a xs):eF K H' a xs:=by
 rcases h with (h|⟨o,h⟩)|h
 ·exact .inl (.inl (e _ _ h))
 ·exact .inl (.inr ⟨o,e _ _ h⟩)
 ·exact .inr h
end L2
namespace L2
section
variable {κ:Type}[DecidableEq κ]
noncomputable def oX (aK:List (κ×V))(k:κ):Option V:=(aK.find? λkv=>decide (kv.1=k)).map (·.2)
noncomputable def lV (aK:List (κ×V))(k:κ)(v:V):List (κ×V):=
 if (aK.any λkv=>decide (kv.1=k))=true then aK.map (λkv=>if kv.1=k then (kv.1,v) else kv) else aK++[(k,v)]
theorem lW {p:κ×V}{r:List (κ×V)}{k:κ}(e:p.1=k):oX (p::r) k=some p.2:=by simp[oX,Ya,e]
theorem lX {p:κ×V}{r:List (κ×V)}{k:κ}(e:¬p.1=k):oX (p::r) k=oX r k:=by simp[oX,Ya,e]
theorem wa (k:κ):∀aK:List (κ×V),(aK.any λkv=>decide (kv.1=k))=(oX aK k).isSome
 | []=>rfl
 |p::r=>by
  rw[List.any_cons];by_cases e:p.1=k
  ·simp only[lW e,hG e,Bool.true_or,Option.isSome_some]
  ·rw[lX e,hJ e,Bool.false_or];exact wa k r
theorem nO (aK:List (κ×V))(k:κ)(v:V):(lV aK k v).length<=aK.length+1:=by
 unfold lV;split
 ·rw[WA];lia
 ·rw[WN,WT,aaR];lia
theorem kS.isSome_eq {o:Option V}{u:Option WM}(r:kS o u):o.isSome=u.isSome:=by
 cases o with
 |none=>cases u with
  |none=>rfl
  |some _=>exact (show False from r).elim
 |some _=>cases u with
  |none=>exact (show False from r).elim
  |some _=>rfl
theorem kS.getD {o:Option V}{u:Option WM}{d:V}{d':WM}(r:kS o u)(rd:aN d d'):aN (o.getD d) (u.getD d'):=by
 cases o with
 |none=>cases u with
  |none=>exact rd
  |some _=>exact (show False from r).elim
 |some _=>cases u with
  |none=>exact (show False from r).elim
  |some _=>exact r
theorem KV.val {aK:List (κ×V)}{vs:List (κ×WM)}(r:KV aK vs)(k:κ):kS (oX aK k) (valueAt vs k):=by
 unfold KV at r
 induction r with
 |nil=>exact True.intro
 | @cons p q ps qs h t ih=>
  obtain⟨h1,h2⟩:=h;by_cases e:p.1=k
  ·have e':q.1=k:=h1.symm.trans e;have b:valueAt (q::qs) k=some q.2:=by simp[valueAt,Ya,e']
   rw[lW e,b];exact h2
  ·have e':¬q.1=k:=λz=>e (h1.trans z);have b:valueAt (q::qs) k=valueAt qs k:=by simp[valueAt,Ya,e']
   rw[lX e,b];exact ih
theorem KV.any {aK:List (κ×V)}{vs:List (κ×WM)}(r:KV aK vs)(k:κ):(aK.any λkv=>decide (kv.1=k))=vs.any λkv=>decide (kv.1=k):=by
 unfold KV at r
 induction r with
 |nil=>rfl
 |cons h t ih=>rw[List.any_cons,List.any_cons,ih,h.1]
theorem KV.repl {aK:List (κ×V)}{vs:List (κ×WM)}(r:KV aK vs)(k:κ){u:WM}(ry:aN y u) :
  KV (aK.map λkv=>if kv.1=k then (kv.1,y) else kv) (vs.map λkv=>if kv.1=k then (kv.1,u) else kv):=by
 unfold KV at r ⊢
 induction r with
 |nil=>exact .nil
 | @cons p q ps qs h t ih=>
  rw[WD,WD];refine .cons ?_ ih;obtain⟨h1,h2⟩:=h;by_cases e:p.1=k
  ·rw[hZ e,hZ (h1.symm.trans e)];exact⟨h1,ry⟩
  ·rw[hV e,hV (λz=>e (h1.trans z))];exact⟨h1,h2⟩
theorem KV.put {aK:List (κ×V)}{vs:List (κ×WM)}(r:KV aK vs)(k:κ){u:WM}(ry:aN y u):KV (lV aK k y) (stored vs k u):=by
 unfold lV stored;rw[r.any k];by_cases e:(vs.any λkv=>decide (kv.1=k))=true
 ·rw[hZ e,hZ e];exact r.repl k ry
 ·rw[hV e,hV e];exact Paired.snoc r ⟨rfl,ry⟩
theorem KV.length {aK:List (κ×V)}{vs:List (κ×WM)}(r:KV aK vs):aK.length=vs.length:=aaf r
end
theorem Ao {k:Key}{u:WM}(r:aN (kV k) u):(cA P w).is k u=true:=by
 cases k with
 |inl i=>obtain⟨t,e⟩:=(show ∃t,u=Value.int i t from r);subst e;exact vX P w i t
 |inr x=>obtain⟨t,e⟩:=(show ∃t,u=Value.str x t from r);subst e;exact vY P w x t
theorem sZ {P:ZI}{w:Z1}:∀{ks:List Key} {us:List WM},aQ (ks.map kV) us->ItemsAre (cA P w) ks us
 | [],_,r=>by rw[X0] at r;cases r;exact .nil
 |k::ks,_,r=>by
  rw[WD] at r;cases r with
  |cons h t=>exact .cons (Ao h) (sZ t)
abbrev KT (H:Hp):List (List Key×V)->List (List Key×W7×WM)->Prop:=ab6 λp q=>p.1=q.1/\H q.2.1=some (.tup (p.1.map kV))/\aN p.2 q.2.2
theorem KT.val {xs:List (List Key×W7×WM)}(r:KT H aK xs)(k:List Key):kS (oX aK k) ((ab1 xs k).map (·.2)):=by
 induction r with
 |nil=>exact True.intro
 | @cons p q ps qs h t ih=>
  obtain⟨h1,_,h2⟩:=h;by_cases e:p.1=k
  ·have e':q.1=k:=h1.symm.trans e;have b:ab1 (q::qs) k=some q.2:=by simp[ab1,Ya,e']
   rw[lW e,b];exact h2
  ·have e':¬q.1=k:=λz=>e (h1.trans z);have b:ab1 (q::qs) k=ab1 qs k:=by simp[ab1,Ya,e']
   rw[lX e,b];exact ih
theorem KT.repl {xs:List (List Key×W7×WM)}(r:KT H aK xs)(k:List Key){u:WM}(ry:aN y u) :
  KT H (aK.map λkv=>if kv.1=k then (kv.1,y) else kv) (xs.map (putAt k u)):=by
 induction r with
 |nil=>exact .nil
 | @cons p q ps qs h t ih=>
  rw[WD,WD];refine .cons ?_ ih;obtain⟨h1,h2,h3⟩:=h;unfold putAt;by_cases e:p.1=k
  ·rw[hZ e,hZ (h1.symm.trans e)];exact⟨h1,h2,ry⟩
  ·rw[hV e,hV (λz=>e (h1.trans z))];exact⟨h1,h2,h3⟩
theorem KT.put {xs:List (List Key×W7×WM)}(r:KT H aK xs)(k:List Key){u:WM}(hb:H b=some (.tup (k.map kV)))(ry:aN y u) :
  KT H (lV aK k y) (storedH xs k b u):=by
 have e:(aK.any λkv=>decide (kv.1=k))=(ab1 xs k).isSome:=by
  rw[wa,(r.val k).isSome_eq,acy]
 unfold lV storedH;rw[e];by_cases q:(ab1 xs k).isSome=true
 ·rw[hZ q,hZ q];exact r.repl k ry
 ·rw[hV q,hV q];exact Paired.snoc r ⟨rfl,hb,ry⟩
theorem KT.keeps {xs:List (List Key×W7×WM)}(r:KT H aK xs)(ht:∀b ys,H b=some (.tup ys)->H' b=some (.tup ys)):KT H' aK xs:=
 Paired.mapP r λ_ _ z=>⟨z.1,ht _ _ z.2.1,z.2.2⟩
theorem Jv {u:HO}(ok:jy P w H h)(e:Rd H a u):bu P w H h a u:=e.ok ok
theorem wc {aK:List (Key×V)}(ok:jy P w H h)(e:Rd H a (.dK aK)):aK.length<=WJ/\(a==Ys)=false/\∃vs,KV aK vs/\h.DictOf (cA P w) a vs:=
 show bu P w H h a (.dK aK) from Jv ok e
theorem OD {aK:List (Key×V)}(ok:jy P w H h)(e:H a=some (.dK aK)):aK.length<=WJ/\(a==Ys)=false/\∃vs,KV aK vs/\h.DictOf (cA P w) a vs:=wc ok (.inl e)
theorem uC {ks:List Key}(ok:jy P w H h)(e:H a=some (.tup (ks.map kV))):(acr (cA P w)).is h ks a:=by
 obtain⟨_,ao,r,⟨o,h1,h2,n,h3⟩,_⟩:=(show bu P w H h a (.tup (ks.map kV)) from ok a _ e);exact⟨o,ao.toArray,n,h1,h2,h3,by simpa using sZ r⟩
theorem wd (ok:jy P w H h)(e:Rd H a (.dT aK)):aK.length<=WJ/\(a==Ys)=false/\
  ∃xs,KT H aK xs/\h.DictOfH (acr (cA P w)) a xs:=by
 obtain⟨z,y,xs,r,o,es,ep,h1,h2,h3,h4,h5⟩:=(show bu P w H h a (.dT aK) from Jv ok e);refine⟨z,y,xs,r,o,es,ep,h1,h2,h3,h4,λx hx=>?_,h5⟩;have all:∀{l:List (List Key×V)} {m:List (List Key×W7×WM)},KT H l m->∀x∈m,(acr (cA P w)).is h x.1 x.2.1:=by
  intro l m q
  induction q with
  |nil=>intro x hx;exact nomatch hx
  | @cons p q ps qs hq t ih=>
   intro x hx;rcases WV.mp hx with e|hx
   ·subst e;exact uC ok (by rw[←hq.1];exact hq.2.1)
   ·exact ih x hx
 exact all r x hx
theorem OE (ok:jy P w H h)(e:H a=some (.dT aK)):aK.length<=WJ/\(a==Ys)=false/\
  ∃xs,KT H aK xs/\h.DictOfH (acr (cA P w)) a xs:=wd ok (.inl e)
def Hr (H:Hp)(a:W7)(y:V)(r:Option V):Prop:=
 (∃aK k,Rd H a (.dK aK)/\y=kV k/\r=oX aK k)\/∃aK k b,Rd H a (.dT aK)/\y=.ref b/\H b=some (.tup (k.map kV))/\r=oX aK k
def OF (H:Hp)(a:W7)(y v:V)(H':Hp):Prop:=
 (∃aK k,H a=some (.dK aK)/\y=kV k/\aK.length<WJ/\H'=bV H a (.dK (lV aK k v))) \/
 ∃aK k b,H a=some (.dT aK)/\y=.ref b/\H b=some (.tup (k.map kV))/\aK.length<WJ/\H'=bV H a (.dT (lV aK k v))
section
variable {u r:WM}{o:Option V}{A:XD}
theorem az.big (I:az X pins σ H s):Ys<s.heap.objs.size:=by
 have h:XI<s.heap.objs.size:=(I.mod.glob.keeps I.bk).lt;exact Nat.lt_trans (by decide) h
theorem Ca (hu:A.units+1<YV)(I:az X pins σ H s)(g:Hr H a y (some v))(ry:aN y u)(h:∀w' s',az X pins σ H s'->aN v w'->Q w' s') :
  W4 (Xg X.prog X.w) A (abQ (.ref a) u) Q E s:=by
 rcases g with⟨aK,k,e,ey,l⟩|⟨aK,k,b,e,ey,eb,l⟩
 ·subst ey;obtain⟨z,hd,vs,rel,dd⟩:=wc I.hok e;obtain⟨w',hw,yo⟩:=kS.some_of (v:=v) (o:=valueAt vs k) (by rw[l];exact rel.val k);exact wpAny_getItem_of (Ao ry) dd.mapOf hw (h w' _ (I.tok _) yo)
 ·subst ey;cases (show u=Value.ref b from ry);obtain⟨z,hd,xs,rel,dd⟩:=wd I.hok e;obtain⟨w',hw,yo⟩:=kS.some_of (v:=v) (o:=(ab1 xs k).map (·.2)) (by rw[l];exact rel.val k);obtain⟨p,hp,De⟩:=Option.map_eq_some_iff.mp hw;refine wpAny_getItem_heap (aca hu) (uC I.hok eb) dd hp ?_;rw[De];exact h w' _ (I.tok _) yo
theorem pJ {t':Nat}{ob:HO}(I:az X pins σ H s)(mu:NJ (H a))(hs:Yg a s.heap h')(he:∃q,h'.get? a=some q)(new:bu X.prog X.w (bV H a ob) h' a ob) :
  az X pins σ (bV H a ob) {s with heap:=h',toks:=t'}:=
 I.write (x:=a) (e:=a) mu (.inl rfl) (λb q hb z=>(hs.2 b hb).trans z) he new
theorem Lx {aK:List (Key×V)}{vs:List (Key×WM)}(z:aK.length<=WJ)(hd:(a==Ys)=false)(rel:KV aK vs)(dd:h'.DictOf (cA P w) a vs) :
  bu P w H' h' a (.dK aK):=⟨z,hd,vs,rel,dd⟩
theorem Cb {Q:Unit->WY->Prop}(hu:A.units+1<YV)(I:az X pins σ H s)(g:OF H a y v H')(ry:aN y u)(rv:aN v r)(h:∀s',az X pins σ H' s'->Q () s') :
  W4 (Xg X.prog X.w) A (setItem (.ref a) u r) Q E s:=by
 rcases g with⟨aK,k,e,ey,l,eH⟩|⟨aK,k,b,e,ey,eb,l,eH⟩
 ·subst ey eH;obtain⟨z,hd,vs,rel,dd⟩:=OD I.hok e;have hz:vs.length<=WJ:=by rw[←rel.length];exact z
  have hl:(lV aK k v).length<=WJ:=by have:=nO aK k v;lia
  refine wpAny_setItem_pairs (hsz:=hz) (Ao ry) dd λh' KR hs=>h _ ?_;have he:∃q,h'.get? a=some q:=let ⟨q,_,_,hq,_⟩:=KR;⟨q,hq⟩
  exact pJ I (by rw[e];exact True.intro) hs he (Lx hl hd (rel.put k rv) KR)
 ·subst ey eH;cases (show u=Value.ref b from ry);obtain⟨z,hd,xs,rel,dd⟩:=OE I.hok e;have hz:xs.length<=WJ:=by rw[←aaf rel];exact z
  have hl:(lV aK k v).length<=WJ:=by have:=nO aK k v;lia
  refine wpAny_setItem_heap (hsz:=hz) (aca hu) (uC I.hok eb) dd λh' KR hs=>h _ ?_;obtain⟨q,es,ep,hq,h2,h3,h4,_,h5⟩:=KR;refine pJ I (by rw[e];exact True.intro) hs ⟨q,hq⟩ ⟨hl,hd,_,(rel.put k eb rv).keeps λc ys ec=>?_,q,es,ep,hq,h2,h3,h4,h5⟩;rw[aS (N1 ec e (λz=>nomatch z))];exact ec
end
def Ly (i:YO):Prop:=∀ov iv,subscripted i false ov iv=operate [ov,iv] (abQ ov iv)
theorem Hs {A:XD}{value slice:YO}{id:String}(hl:typeLookup (.type T) "__getitem__"=pure (some (.builtin id)))(hs:Ly slice)(h:W4 (Xg prog w) A (Z4 value env) (λo s₁=>W4 (Xg prog w) A (Z4 slice env) (λi s₂=>s₂.TypeIs o T/\W4 (Xg prog w) A (abQ o i) Q E s₂) E s₁) E s) :
  W4 (Xg prog w) A (Z4 (.Subscript value slice pos) env) Q E s:=by
 refine Subscript_ (Yc h (λo s₁ h₁=>Yc h₁ (λi s₂ h₂=>?_) λ_ _ x=>x) λ_ _ x=>x);obtain⟨hT,h₂⟩:=h₂;unfold subscriptTail;refine Wy ?_;rw[getitemInPython_of_ne hT.not_modules];refine Wy (Z9 hT hl ?_);have fin:W4 (Xg prog w) A (subscripted slice false o i) (λr s₃=>W4 (Xg prog w) A (letTemporaryGo value o r >>= λ_=>pure r) Q E s₃) E s₂:=by
  rw[hs o i];exact wpAny_operating (Yc h₂ (λr s₃ h₃=>Wy (wpAny_letTemporaryGo (WB h₃))) λ_ _ x=>x)
 first
  |exact WB (Wy fin)
  |exact Wy (WB (Wy fin))
  |exact Wy fin
theorem we {o:Option V}(I:az X pins σ H s)(g:Hr H a y o):s.TypeIs (.ref a) "dict":=by
 rcases g with⟨aK,k,e,_,_⟩|⟨aK,k,b,e,_,_,_⟩
 ·obtain⟨_,_,vs,_,dd⟩:=wc I.hok e;exact dd.typeIs
 ·obtain⟨_,_,xs,_,dd⟩:=wd I.hok e;exact dd.typeIs
theorem DR (h:ZG)(hb:Ys<h.objs.size):bu P w H (h.push {cls:=.type "dict",data:=.dict #[]}) h.objs.size (.dK []):=
 ⟨X5 _,beq_eq_false_iff_ne.mpr (Ne.symm (Xj hb)),[],.nil,Heap.DictOf.new h⟩
def Lz:TE:=λ_ H Q=>∀p,H p=none->Q (.ref p) (bV H p (.dK []))
theorem DV:PE X (.Dict [] [] pos) Lz:=λpins s σ H Q I h=>
 wpAny_Dict_empty ⟨.ref s.heap.objs.size,_,I.laid (a:=s.heap.objs.size) (o:=.dK []) (t':=s.toks) (λ_ _ q=>WC _ q) (WR _) (DR s.heap I.big),rfl,h _ (I.hok.fresh (WR _))⟩
structure M1 (X:Cx)(o:YO)(m:Str)(cI:Pos)(e:YO)(cpos:Pos):Prop where
 base:ZR o m X.env (Z4 o X.env)=Z4 o X.env
 few:((Zl cpos (W5 [e] X.env)).all (λx=> !x.1)&&(backToKw cpos (abR [] X.env)).all (λx=>x.1.isSome)
  && decide (([e]:List YO).length+([]:List abA).length+(if ([]:List abA).isEmpty then 0 else 1)<30))=true
 line:(cI.endLine==cpos.line)=true
 trees:Zl cpos (W5 [e] X.env)=[(false,Z4 e X.env)]
structure M2 (X:Cx)(o:YO)(m:Str)(cI:Pos)(e f:YO)(cpos:Pos):Prop where
 base:ZR o m X.env (Z4 o X.env)=Z4 o X.env
 few:((Zl cpos (W5 [e,f] X.env)).all (λx=> !x.1)&&(backToKw cpos (abR [] X.env)).all (λx=>x.1.isSome)
  && decide (([e,f]:List YO).length+([]:List abA).length+(if ([]:List abA).isEmpty then 0 else 1)<30))=true
 line:(cI.endLine==cpos.line)=true
 trees:Zl cpos (W5 [e,f] X.env)=[(false,Z4 e X.env),(false,Z4 f X.env)]
def Tp (H:Hp)(a:W7):Prop:=(∃aK,Rd H a (.dK aK))\/∃aK,Rd H a (.dT aK)
theorem LA (I:az X pins σ H s)(d:Tp H a) :
  s.TypeIs (.ref a) "dict"/\(∀b,Value.ref a=.ref b->∃ob,s.heap.get? b=some ob/\ob.dict=none)/\(a==Ys)=false:=by
 rcases d with⟨aK,e⟩|⟨aK,e⟩
 ·obtain⟨_,hd,vs,_,dd⟩:=wc I.hok e;refine⟨dd.typeIs,λb q=>?_,hd⟩;cases q;obtain⟨ob,_,_,h1,h2,_⟩:=dd;exact⟨ob,h1,h2.2.1⟩
 ·obtain⟨_,hd,xs,_,dd⟩:=wd I.hok e;refine⟨dd.typeIs,λb q=>?_,hd⟩;cases q;obtain⟨ob,_,_,h1,h2,_⟩:=dd;exact⟨ob,h1,h2.2.1⟩
section
variable {d:V}{u r:WM}{o:Option V}{A:XD}
theorem LB (hu:A.units+1<YV)(I:az X pins σ H s)(g:Hr H a y o)(ry:aN y u)(rd:aN d r)(h:∀w' s',az X pins σ H s'->aN (o.getD d) w'->Q w' s') :
  W4 (Xg X.prog X.w) A (call (.builtin "dict.get") [.ref a,u,r]) Q E s:=by
 rcases g with⟨aK,k,e,ey,l⟩|⟨aK,k,b,e,ey,eb,l⟩
 ·subst ey;obtain⟨z,hd,vs,rel,dd⟩:=wc I.hok e;refine call_meetsIn Z_ dd.typeIs aa7 (aaS _ _ _) (meets_dict_get_default (cA X.prog X.w) a (Ao ry) hd r) ⟨_,dd.mapOf,h _ _ (I.tok _) ?_⟩;rw[l];exact (rel.val k).getD rd
 ·subst ey;cases (show u=Value.ref b from ry);obtain⟨z,hd,xs,rel,dd⟩:=wd I.hok e;refine call_meetsIn Z_ dd.typeIs aa7 (aaS _ _ _) (meetsH_dict_get_default (acr (cA X.prog X.w)) a b hd r) ⟨aca hu,k,xs,uC I.hok eb,dd,h _ _ (I.tok _) ?_⟩;rw[l];exact (rel.val k).getD rd
end
end L2
namespace L2
end L2
namespace L2
theorem yJ (hf:∀x,(x,NameKind.free)∈scope.names->∃c,env.cells.lookup x=some c) :
  ∃cl:List (Str×W7),closureFor scope env=pure cl/\(∀x c,cl.lookup x=some c->env.cells.lookup x=some c)/\∀x,(x,NameKind.free)∈scope.names->∃c,cl.lookup x=some c:=by
 have gen:∀(names:List (Str×acG)) (cs:List (Str×W7)),(∀x,(x,NameKind.free)∈names->∃c,env.cells.lookup x=some c)->(∀x c,cs.lookup x=some c->env.cells.lookup x=some c)->
   ∃cl:List (Str×W7),(forIn names cs λ(x:Str×acG) (r:List (Str×W7))=>(match x with|(name,kind)=>if (kind==NameKind.free)=true then (do let a ←cellOf env name;pure (ForInStep.yield ((name,a)::r))) else pure (ForInStep.yield r):Sem (ForInStep (List (Str×W7)))))=(pure cl:Sem _)/\
    (∀x c,cl.lookup x=some c->env.cells.lookup x=some c)/\(∀x c,cs.lookup x=some c->∃c',cl.lookup x=some c')/\∀x,(x,NameKind.free)∈names->∃c,cl.lookup x=some c:=by
  intro names
  induction names with
  |nil=>intro cs _ h;exact⟨cs,rfl,h,λx c e=>⟨c,e⟩,λx hx=>absurd hx (by simp)⟩
  |cons p r ih=>
   intro cs hn h;obtain⟨n,k⟩:=p;by_cases hk:k=NameKind.free
   ·subst hk;obtain⟨c,hc⟩:=hn n WG;have h':∀x c',((n,c)::cs).lookup x=some c'->env.cells.lookup x=some c':=λx c' e=>by
     rw[YS] at e;by_cases hx:x==n
     ·rw[hx] at e;have:x=n:=by simpa using hx
      subst this;cases e;exact hc
     ·rw[abf.mpr hx] at e;exact h x c' e
    obtain⟨cl,e1,e2,e3,e4⟩:=ih ((n,c)::cs) (λx hx=>hn x (WI _ hx)) h';refine⟨cl,?_,e2,λx c' e=>?_,λx hx=>?_⟩
    ·rw[aaT];have:cellOf env n=pure c:=by unfold cellOf;rw[hc]
     simp only[beq_self_eq_true,if_true,this];exact e1
    ·by_cases hx:x=n
     ·subst hx;exact e3 x c (by rw[YS];simp)
     ·exact e3 x c' (by rw[YS,show (x==n)=false from by simpa using hx];exact e)
    ·rcases WV.mp hx with e|hx
     ·cases e;exact e3 n c (by rw[YS];simp)
     ·exact e4 x hx
   ·obtain⟨cl,e1,e2,e3,e4⟩:=ih cs (λx hx=>hn x (WI _ hx)) h;refine⟨cl,?_,e2,e3,λx hx=>?_⟩
    ·rw[aaT];have:(k==NameKind.free)=false:=by simpa using hk
     simp only[this,Xq,if_false];exact e1
    ·rcases WV.mp hx with e|hx
     ·cases e;exact absurd rfl hk
     ·exact e4 x hx
 obtain⟨cl,e1,e2,_,e4⟩:=gen scope.names [] hf (λx c e=>by simp at e);refine⟨cl,?_,e2,e4⟩;unfold closureFor;exact (congrArg (λm=>m >>= λr=>pure r) e1).trans rfl
structure uD where
 C:W7
 s:WY
 H:Hp
 fp:List W7
 pins:List (W7×Obj)
 cl:List (Str×W7)
noncomputable abbrev fB (X:Cx)(scope:Scope)(N:List Str)(Y:uD):Cx where
 prog:=X.prog
 w:=X.w
 K:=X.K
 mg:=X.mg
 base:=X.base
 A:=X.A
 N:=N
 s₀:=Y.s
 H₀:=Y.H
 env:=compEnvC scope Y.cl Y.C X.env
 outer:=X.stack
 stack:=X.stack
 ex:=Y.fp
 fn:=λ_=>false
 calm:=X.calm
 pn:=X.pn++Y.pins
 xe:=λ_ _=>False
noncomputable def yK (oT:Scope)(NX:List Str)(scope:Scope)(N:List Str)(js:List (Option Nat)):Bool:=
 decide (scope.kind=.function)&&scope.names.all (λy=>decide (y.2≠.cell))&&scope.names.all (λy=>decide (y.2=.local->scope.names.lookup y.1=some .local))&&decide (js.length=N.length) &&
 (js.zip N).all (λp=>match p.1 with|none=>true|some j=>decide (NX[j]? = some p.2)&&decide (scope.names.lookup p.2=some .free)) &&
 scope.names.all (λy=>decide (y.2=.free->oT.names.lookup y.1=some .cell\/oT.names.lookup y.1=some .free))
structure pK (oT:Scope)(NX:List Str)(scope:Scope)(N:List Str)(js:List (Option Nat)):Prop where
 kind:scope.kind=.function
 nocell:∀y∈scope.names,y.2≠.cell
 loc:∀y∈scope.names,y.2=.local->scope.names.lookup y.1=some .local
 len:js.length=N.length
 cap:∀(i j:Nat) (x:Str),js[i]? = some (some j)->N[i]? = some x->NX[j]? = some x/\scope.names.lookup x=some .free
 free:∀x,(x,NameKind.free)∈scope.names->oT.names.lookup x=some .cell\/oT.names.lookup x=some .free
theorem yK.to {oT:Scope}{NX:List Str}(h:yK oT NX scope N js=true):pK oT NX scope N js:=by
 unfold yK at h;simp only[W6] at h;obtain⟨⟨⟨⟨⟨h1,h2⟩,h3⟩,h4⟩,h5⟩,h6⟩:=h;refine⟨of_decide_eq_true h1,λy hy=>of_decide_eq_true (XR.mp h2 y hy),λy hy=>of_decide_eq_true (XR.mp h3 y hy),of_decide_eq_true h4,λi j x e1 e2=>?_,λx hx=>of_decide_eq_true (XR.mp h6 (x,NameKind.free) hx) rfl⟩;have hz:(js.zip N)[i]? = some (some j,x):=by
  rw[List.getElem?_zip_eq_some];exact⟨e1,e2⟩
 have q:=XR.mp h5 _ (Yh hz);simp only[W6] at q;exact⟨of_decide_eq_true q.1,of_decide_eq_true q.2⟩
noncomputable def s9 (js:List (Option Nat))(σ:St):St:=js.map λo=>match o with
 |none=>none
 |some j=>match σ[j]? with
  |some v=>v
  |none=>none
theorem lY (uq:∀y∈scope.names,y.2≠.cell)(h:(relabel scope env).names.lookup x=some .cell\/(relabel scope env).names.lookup x=some .free):(x,NameKind.free)∈scope.names:=by
 have gen:∀k,(k=NameKind.cell\/k=NameKind.free)->(relabel scope env).names.lookup x=some k->(x,NameKind.free)∈scope.names:=λk hk e=>by
  have hm:=X9 e;obtain⟨⟨n,k0⟩,hy,q⟩:=WS.mp hm;dsimp only at q;split at q
  ·rename_i c;simp only[W6,beq_iff_eq] at c;cases q;obtain⟨⟨c1,_⟩,_⟩:=c;rw[c1] at hy;exact hy
  ·cases q;rcases hk with hk|hk
   ·exact absurd hk (uq _ hy)
   ·rw[hk] at hy;exact hy
 rcases h with h|h
 ·exact gen _ (.inl rfl) h
 ·exact gen _ (.inr rfl) h
theorem dJ {env:Env}{x:Str}:∀{names:List (Str×acG)},names.lookup x=some .free->
  (names.map λ(n,k)=>if (k==NameKind.free&&env.scope.kind==.function&&env.kindOf n==some .cell) then (n,NameKind.cell) else (n,k)).lookup x=some .cell \/
  (names.map λ(n,k)=>if (k==NameKind.free&&env.scope.kind==.function&&env.kindOf n==some .cell) then (n,NameKind.cell) else (n,k)).lookup x=some .free
 | [],h=>by simp at h
 | (n,k)::r,h=>by
  rw[WD];by_cases hx:x==n
  ·rw[YS,hx] at h;cases h;by_cases c:(NameKind.free==NameKind.free&&env.scope.kind==.function&&env.kindOf n==some .cell)=true
   ·refine .inl ?_;show List.lookup x ((if (NameKind.free==NameKind.free&&env.scope.kind==.function&&env.kindOf n==some .cell)=true then (n,NameKind.cell) else (n,NameKind.free))::_)=_;rw[hZ c,YS,hx]
   ·refine .inr ?_;show List.lookup x ((if (NameKind.free==NameKind.free&&env.scope.kind==.function&&env.kindOf n==some .cell)=true then (n,NameKind.cell) else (n,NameKind.free))::_)=_;rw[hV c,YS,hx]
  ·have oQ:=abf.mpr hx;rw[YS,oQ] at h;have ih:=dJ (env:=env) (x:=x) (names:=r) h;have e:∀p:Str×acG,p.1=n->List.lookup x (p::(r.map λ(n,k)=>if (k==NameKind.free&&env.scope.kind==.function&&env.kindOf n==some .cell) then (n,NameKind.cell) else (n,k))) =
     List.lookup x (r.map λ(n,k)=>if (k==NameKind.free&&env.scope.kind==.function&&env.kindOf n==some .cell) then (n,NameKind.cell) else (n,k)):=λp hp=>by
    obtain⟨p1,p2⟩:=p;cases hp;rw[YS,oQ]
   rw[e _ (by dsimp only;split<;>rfl)];exact ih
def Ht (X:Cx)(yw:List YO)(t:TT):Prop:=
 ∀(pins:List (W7×Obj)) (s:WY) (σ:St) (H:Hp) (Q:Bool->Hp->Prop),az X pins σ H s->t σ H Q->
  W4 (Xg X.prog X.w) X.A (forIn yw true λc r=>if r=true then do let ok ←isTrue c X.env (Z4 c X.env);pure (ForInStep.yield ok) else pure (ForInStep.yield r)) (TP X pins σ Q) X.xe s
def RL:TT:=λ_ H Q=>Q true H
theorem DX:Ht X [] RL:=λ_ _ _ H _ I h=>wpAny_tests_nil ⟨H,I,h⟩
end L2
namespace L2
theorem jB {A:XD}{R:Result->WY->Prop}{z_ nI:YO}{it bz:WM}(I:Nat->WY->Prop)(turn:∀n s,I n s->W4 (Xg prog w) A (aaI it) (λr s₁=>match r with
   |none=>R (.ok .next) s₁
   |some v=>W4 (Xg prog w) A (abP nI it v) (λ_ Ua=>W4 (Xg prog w) A (assign nI env v) (λ_ s₂=>
     W4 (Xg prog w) A (forIn yw true λc r=>if r=true then do let ok ←isTrue c env (Z4 c env);pure (ForInStep.yield ok) else pure (ForInStep.yield r)) (λok s₃=>
      if ok=true then W4 (Xg prog w) A (Z4 z_ env) (λx s₄=>
       W4 (Xg prog w) A (call (.builtin "list.append") [bz,x]) (λ_ s₅=>∃m,m<n/\I m s₅) (λ_ _=>False) s₄) (λ_ _=>False) s₃
      else ∃m,m<n/\I m s₃) (λ_ _=>False) s₂) (λ_ _=>False) Ua) (λ_ _=>False) s₁) (λ_ _=>False) s)(n:Nat)(h:I n s) :
  codeAny (Xg prog w) A (.compLoop (.ListComp z_ [⟨nI,iter,yw,0⟩] scope pos) 0 it bz env) R s:=by
 refine codeAny_loop rfl I (λn s hI=>?_) n h;show W4 _ A ((compTurn (.ListComp z_ [⟨nI,iter,yw,0⟩] scope pos) 0 it bz env).onRaise (λx=>do noteFrame x env;theTreesLotGoes x)) _ _ s;refine wpAny_noted ?_;rw[compTurn_list];have fe:∀{e:WM} {s':WY} {Z:Prop},(λ(_:WM) (_:WY)=>False) e s'->Z:=λh=>h.elim;refine Wy (wpAny_standAt (Wy (Yc (turn n s hI) (λr s₁ h₁=>?_) λ_ _ h'=>h'.elim)));cases r with
 |none=>exact WB h₁
 |some v=>
  refine Wy (Yc h₁ (λ_ Ua U2=>?_) λ_ _ h'=>h'.elim);refine Wy (Yc U2 (λ_ s₂ h₂=>Wy (Yc h₂ (λok s₃ h₃=>?_) λ_ _ h'=>h'.elim)) λ_ _ h'=>h'.elim);cases ok with
  |false=>exact WB ⟨rfl,h₃⟩
  |true=>
   exact Wy (Wy (Yc h₃ (λx s₄ h₄=>Wy (Yc h₄ (λ_ s₅ h₅=>WB (WB ⟨rfl,h₅⟩)) λ_ _ h'=>h'.elim)) λ_ _ h'=>h'.elim))
def OG (J:It)(js:List (Option Nat))(g:uD->TG)(tt:uD->TT)(te:uD->TE)(σ:St)(H1:Hp)(P:List V->Hp->Prop):Prop:=
 ∀Y:uD,∃W:Nat->Nat->List V->Hp->Prop,(∃m,W 0 m [] H1)/\∀i m ys H2,W i m ys H2->
  (J.stop i H2/\P ys H2) \/
  (J.go i H2/\ys.length<WJ/\∃Nx:List V->Hp->Prop,(∀KZ H',Nx KZ H'->∃m',m'<m/\W (i+1) m' KZ H')/\∀x H3,J.yld i H2 x H3->g Y x (s9 js σ) H3 λσ4 H4=>tt Y σ4 H4 λb H5=>
   if b=true then te Y σ4 H5 λy H6=>Nx (ys++[y]) H6 else Nx ys H5)
def RM (wi:TI)(js:List (Option Nat))(g:uD->TG)(tt:uD->TT)(te:uD->TE):TE:=λσ H Q=>wi σ H λJ H1=>
 OG J js g tt te σ H1 λys H2=>∀p,H2 p=none->Q (.ref p) (bV H2 p (.lst ys))
theorem yL {E:WM->WY->Prop}{s2:WY}{z_:YO}{oT:Scope}{g:uD->TG}{tt:uD->TT}{te:uD->TE}{J:It}{tn:Nat->ZG->Prop}{P:List V->Hp->Prop}{cl:List (Str×W7)}{RR:WM->W7->Result->WY->Prop}(I:az X pins σ H s2)(hc:X.calm=true)(T:yA X.prog X.w X.K tg J fp it tn)(kr:tn 0 s2.heap)(f2:∀b∈fp,oU X pins H b)(C_:∀Y:uD,PG (fB X scope N Y) tg (g Y)/\Ht (fB X scope N Y) yw (tt Y)/\PE (fB X scope N Y) z_ (te Y))(S:pK oT X.N scope N js)(rW:X.env.scope=oT)(c1:∀x c,cl.lookup x=some c->X.env.cells.lookup x=some c)(c2:∀x,(x,NameKind.free)∈scope.names->∃c,cl.lookup x=some c)(h:OG J js g tt te σ H P)(hR:∀(bz C:W7) (ys:List V) (H':Hp) (s':WY),az X pins σ (bV H' bz (.lst ys)) s'->(∃m,s'.heap.Ns C m)->oU X pins (bV H' bz (.lst ys)) C->H' bz=none->P ys H'->RR (.ref bz) C (.ok .next) s') :
  W4 (Xg X.prog X.w) X.A (newList []) (λbz s₃=>W4 (Xg X.prog X.w) X.A (newFunctionEnv scope X.env.globals cl [] X.env.qual none .none (some X.env)) (λQk s₄=>
   codeAny (Xg X.prog X.w) X.A (.compStart (.ListComp z_ [⟨tg,iter,yw,0⟩] scope pos) 0 (.ref it) bz {Qk with scope:=relabel scope X.env}) (RR bz Qk.locals) s₄) E s₃) E s2:=by
 refine Xk (wpAny_newFunctionEnv S.nocell (by intro y hy;simp at hy) (λh₁ Nr Jn=>?_) S.kind);dsimp only at Nr Jn ⊢;generalize hH2:s2.heap.push {cls:=.type "list",dict:=none,data:=.seq ([]:List WM).toArray}=H2 at Nr Jn ⊢;have hC:H2.objs.size=s2.heap.objs.size+1:=by rw[←hH2,YW]
 have Q_:s2.heap.objs.size≠H2.objs.size:=by rw[hC];exact Xj (Nat.lt_succ_self _)
 have Jo:s2.heap.objs.size<=H2.objs.size:=by rw[hC];exact Nat.le_succ _
 have below:∀b,b<s2.heap.objs.size->b≠H2.objs.size/\b≠s2.heap.objs.size:=λb hb=>⟨by rw[hC];exact Xj (aaj hb),Xj hb⟩;have old:∀b o,s2.heap.get? b=some o->h₁.get? b=some o:=λb o e=>Jn.extBut b o (below b (WX e)).1 (WC _ (hH2▸WC _ e));have pD:h₁.PlainList s2.heap.objs.size #[]:=⟨_,Jn.extBut _ _ Q_ (WC _ (hH2▸WQ _ rfl))⟩;have SE:∀b∈fp,b<s2.heap.objs.size:=λb hb=>by
  obtain⟨o,e,_⟩:=T.obj _ _ kr b hb;exact WX e
 generalize hCg:H2.objs.size=C at *;generalize hAg:s2.heap.objs.size=bz at *
 let Y:uD:=⟨C,s2,H,fp,pins,cl⟩
 have ok:(fB X scope N Y).Ok:=by
  refine⟨I.ok.mod,S.kind,I.ok.glob,I.ok.blt,?_,λx y c e1 e2=>I.ok.inj x y c (c1 x c e1) (c1 y c e2),λx hx=>c2 x (lY S.nocell hx),λx c e=>(by cases e),I.ok.hd,I.ok.frames,.inl rfl,λb hb=>⟨?_,λx c e=>?_⟩,I.bs,XC I.ok.bsz I.sz,λb o e hb=>?_,λb hb hf=>?_,I.stack,I.stkFree⟩
  ·show s2.heap.objs.size<=C;rw[hAg];exact Jo
  ·exact (below b (SE b hb)).1
  ·exact (f2 b hb).2.2.2.2.1 x c (c1 x c e)
  ·rcases (f2 b hb).2.2.2.1 with z|z
   ·exact I.ok.noex b o e z
   ·exact absurd (Xx (WX (I.ok.bs b o e).1) z) (YH _)
  ·rcases WV.mp (I.stkSub b hf) with z|z
   ·exact (f2 b hb).2.1 z
   ·exact (f2 b hb).2.2.1 z
 have SF:∀x c,X.env.cells.lookup x=some c->c<bz:=λx c e=>by
  obtain⟨v,q⟩:=I.cell x c e;rw[←hAg];exact q.lt
 have KS:∀p∈X.pn++pins,p.1<bz:=λp hp=>by rw[←hAg];exact WX (I.pin p hp).1
 have We:X.env.locals<bz:=by rw[←hAg];exact I.lt
 have Ql:∀b∈Af X.stack,b<bz:=λb hb=>by
  obtain⟨_,o,ho,_⟩:=I.stack.mem hb;rw[←hAg];exact WX ho
 have Qm:∀p∈X.pn++pins,p.1∉Af X.stack:=λp hp hf=>by
  rcases WV.mp (I.stkSub _ hf) with z|z
  ·exact (I.pin p hp).2.2.1 z
  ·exact (I.pin p hp).2.2.2.1 z
 have BR:H bz=none:=by rw[←hAg];exact I.hok.fresh (WR _)
 have U3:H C=none:=I.hok.fresh (by rw[hAg];exact Jo);have I4:∀tk:Nat,az (fB X scope N Y) [] (s9 js σ) H {s2 with heap:=h₁,toks:=tk}:=λtk=>by
  refine⟨ok,rfl,I.bare,Un.kept old,⟨_,Nr,λi x v e1 e2 e3=>?_⟩,λx c e=>?_,U3,λx c e=>I.freeC x c (c1 x c e),λp hp=>?_,I.hok.kept old,?_⟩
  ·
   have Jp:(s9 js σ)[i]? = some (some v):=e2;unfold s9 at Jp;rw[W3] at Jp;cases hj:js[i]? with
   |none=>rw[hj] at Jp;cases Jp
   |some o=>
    rw[hj] at Jp;cases o with
    |none=>cases Jp
    |some j=>
     have e4:(match σ[j]? with|some v=>v|none=>none)=some v:=Xa Jp;obtain⟨nx,fr⟩:=S.cap i j x hj e1;have e5:σ[j]? = some (some v):=by
      cases q:σ[j]? with
      |none=>rw[q] at e4;cases e4
      |some z=>rw[q] at e4;rw[show z=some v from e4]
     obtain⟨m,hn,hl⟩:=I.loc;have kx:X.env.scope.names.lookup x=some .cell\/X.env.scope.names.lookup x=some .free:=by rw[rW];exact S.free x (X9 fr)
     obtain⟨u,r,lk⟩:=hl j x v nx e5 (.inr kx);refine⟨u,r,.inr ⟨dJ fr,?_⟩⟩;obtain⟨c,hcl⟩:=c2 x (X9 fr);rcases lk with⟨k,_⟩|⟨k,c',e',z⟩
     ·have k':X.env.scope.names.lookup x=some .local:=k;rcases kx with q|q<;>· rw[q] at k';cases k'
     ·have:c'=c:=by
       have:=c1 x c hcl;rw[e'] at this;exact Xa this
      subst this;obtain⟨o,ho,hd⟩:=z;exact⟨c',hcl,o,old _ _ ho,hd⟩
  ·obtain⟨v,o,ho,hd⟩:=I.cell x c (c1 x c e);exact⟨v,o,old _ _ ho,hd⟩
  ·have GQ:p∈X.pn++pins:=by simpa using hp
   obtain⟨q1,q2,q3,q4,q5⟩:=I.pin p GQ;exact⟨old _ _ q1,q2,λz=>absurd (KS p GQ) (by rw[z];exact Nat.not_lt.mpr Jo),Qm p GQ,q5⟩
  ·show (s9 js σ).length=N.length;unfold s9;rw[WA];exact S.len
 obtain⟨hg,ht,he⟩:=C_ Y;obtain⟨W,⟨m0,w0⟩,turn⟩:=h Y;have SG:∀{H':Hp} {pl:List (W7×Obj)},H' bz=none->(∀p∈pl,p.1≠bz)->oU (fB X scope N Y) pl H' bz:=λ{H' pl} hn hp=>by
  refine⟨hn,Q_,λz=>absurd (Ql _ z) (YH _),.inr (by show s2.heap.objs.size<=bz;rw[hAg];exact WR _),λx c e=>Xj (SF x c (c1 x c e)),λp GQ=>?_⟩;rcases W0.mp GQ with z|z
  ·exact Xj (KS p z)
  ·exact hp p z
 have SH:∀{H':Hp} {pl:List (W7×Obj)},(∀b∈fp,H' b=none)->(∀p∈pl,p.1∉fp)->∀b∈fp,oU (fB X scope N Y) pl H' b:=λ{H' pl} hn hp b hb=>by
  refine⟨hn b hb,(below b (SE b hb)).1,λz=>?_,.inl hb,λx c e=>(f2 b hb).2.2.2.2.1 x c (c1 x c e),λp GQ=>?_⟩
  ·rcases WV.mp (I.stkSub b z) with q|q
   ·exact (f2 b hb).2.1 q
   ·exact (f2 b hb).2.2.1 q
  ·rcases W0.mp GQ with z|z
   ·exact (f2 b hb).2.2.2.2.2 p z
   ·exact λe=>hp p z (by rw[e];exact hb)
 have Ub:bz∉fp:=λz=>absurd (SE bz z) (by intro q;rw[hAg] at *;exact YH _ q);have SJ:∀{i:Nat} {x:Str} {v:V},N[i]? = some x->(s9 js σ)[i]? = some (some v)->∃u c o,aN v u/\scope.names.lookup x=some .free/\cl.lookup x=some c/\s2.heap.get? c=some o/\o.data=.cell (some u):=λ{i x v} e1 e2=>by
  unfold s9 at e2;rw[W3] at e2;cases hj:js[i]? with
  |none=>rw[hj] at e2;cases e2
  |some o=>
   rw[hj] at e2;cases o with
   |none=>cases e2
   |some j=>
    have e4:(match σ[j]? with|some v=>v|none=>none)=some v:=Xa e2;obtain⟨nx,fr⟩:=S.cap i j x hj e1;have e5:σ[j]? = some (some v):=by
     cases q:σ[j]? with
     |none=>rw[q] at e4;cases e4
     |some z=>rw[q] at e4;rw[show z=some v from e4]
    obtain⟨m,hn,hl⟩:=I.loc;have kx:X.env.scope.names.lookup x=some .cell\/X.env.scope.names.lookup x=some .free:=by rw[rW];exact S.free x (X9 fr)
    obtain⟨u,r,lk⟩:=hl j x v nx e5 (.inr kx);obtain⟨c,hcl⟩:=c2 x (X9 fr);rcases lk with⟨k,_⟩|⟨k,c',e',z⟩
    ·have k':X.env.scope.names.lookup x=some .local:=k;rcases kx with q|q<;>· rw[q] at k';cases k'
    ·have:c'=c:=by
      have:=c1 x c hcl;rw[e'] at this;exact Xa this
     subst this;obtain⟨o,ho,hd⟩:=z;exact⟨u,c',o,r,fr,hcl,ho,hd⟩
 have Qn:∀{pl:List (W7×Obj)} {σ':St} {H':Hp} {s':WY},az (fB X scope N Y) pl σ' H' s'->az (fB X scope N Y) pl (s9 js σ) H' s':=λ{pl σ' H' s'} K=>by
  refine⟨K.ok,K.os,K.bare,K.base,?_,K.cell,K.free,K.freeC,K.pin,K.hok,?_⟩
  ·obtain⟨m,hn,_⟩:=K.loc;refine⟨m,hn,λi x v e1 e2 e3=>?_⟩;obtain⟨u,c,o,r,fr,hcl,ho,hd⟩:=SJ e1 e2;refine⟨u,r,.inr ⟨dJ fr,c,hcl,?_⟩⟩;obtain⟨sl,q⟩:=K.base.any ho (I.freeC x c (c1 x c hcl)) λz=>(f2 c z).2.2.2.2.1 x c (c1 x c hcl) rfl;exact⟨_,q,hd⟩
  ·show (s9 js σ).length=N.length;unfold s9;rw[WA];exact S.len
 have loop:∀tk:Nat,codeAny (Xg X.prog X.w) X.A (.compLoop (.ListComp z_ [⟨tg,iter,yw,0⟩] scope pos) 0 (.ref it) (.ref bz) (compEnvC scope cl C X.env)) (RR (.ref bz) C) {s2 with heap:=h₁,toks:=tk}:=by
  intro tk;refine jB (λn s'=>∃(i:Nat) (ys:List V) (ao:List WM) (H':Hp),az (fB X scope N Y) [] (s9 js σ) H' s'/\tn i s'.heap/\(∀b∈fp,H' b=none)/\H' bz=none/\s'.heap.PlainList bz ao.toArray/\aQ ys ao/\ys.length<=WJ/\W i n ys H') ?_ m0
   ⟨0,[],[],H,I4 tk,T.keep _ _ _ kr (λb hb o e=>old b o e),λb hb=>(f2 b hb).1,BR,pD,.nil,X5 _,w0⟩
  rintro n s3 ⟨i,ys,ao,H3,I3,GX,fr3,na3,⟨nn,ea⟩,rv3,hz3,w3⟩;have Nt:∀p∈[(bz,({cls:=.type "list",data:=.seq ao.toArray nn}:Obj))],p.1∉fp:=λp hp=>by
   have e:p=(bz,({cls:=.type "list",data:=.seq ao.toArray nn}:Obj)):=by simpa using hp
   rw[e];exact Ub
  have Ip:az (fB X scope N Y) [(bz,({cls:=.type "list",data:=.seq ao.toArray nn}:Obj))] (s9 js σ) H3 s3:=I3.pins_of λp hp=>by
   have e:p=(bz,({cls:=.type "list",data:=.seq ao.toArray nn}:Obj)):=by simpa using hp
   subst e;exact⟨ea,na3,Q_,λz=>absurd (Ql _ z) (YH _),λv z=>by cases z⟩
  rcases turn i n ys H3 w3 with⟨stop,p⟩|⟨go,sP,Nx,hNx,step⟩
  ·refine Yc (T.done (fB X scope N Y) rfl rfl rfl hc i _ s3 _ H3 (λ_ _=>False) Ip (SH fr3 Nt) GX stop) (λr s4 U4=>?_) λ_ _ z=>z;obtain⟨hr,J4⟩:=U4;subst hr;have pa:=(J4.pin (bz,({cls:=.type "list",data:=.seq ao.toArray nn}:Obj)) (WZ _ WG)).1;have u:Un (Af X.stack) fp H (bV H3 bz (.lst ys)) s2.heap s4.heap:=
    ⟨J4.base.keep,J4.base.slot,λb o e nb hx=>by rw[aS (below b (by rw[←hAg];exact WX e)).2];exact J4.base.free b o e nb hx,J4.base.there,
     λb xs e=>by rw[aS (bA e BR)];exact J4.base.tups b xs e,λb o w' e=>by rw[aS (bA e BR)];exact J4.base.frzs b o w' e,λb ps e=>by rw[aS (bA e BR)];exact J4.base.tbls b ps e⟩
   have hok:jy X.prog X.w (bV H3 bz (.lst ys)) s4.heap:=λb o e=>by
    by_cases hb:b=bz
    ·subst hb;rw[ba] at e;cases e;exact⟨hz3,ao,nn,rv3,pa⟩
    ·rw[aS hb] at e;refine (J4.hok b o e).stay (λ_ _ _ q=>q) (λc q=>?_) λc xs q=>?_
     ·rw[aS (bA q na3)];exact q
     ·rw[aS (bA q na3)];exact q
   have SK:az X pins σ (bV H3 bz (.lst ys)) s4:=I.call' (ch:=fp) J4.os u hok J4.bare λb hb=>⟨(f2 b hb).2.2.2.1,(f2 b hb).2.1,(f2 b hb).2.2.2.2.1,(f2 b hb).2.2.2.2.2⟩;have U5:∃m,s4.heap.Ns C m:=by obtain⟨m,hn,_⟩:=J4.loc;exact⟨m,hn⟩
   exact hR bz C ys H3 s4 SK U5 (I.fpOk (by rw[hAg];exact Jo) (by rw[aS (Ne.symm Q_)];exact J4.free)) na3 p
  ·refine Yc (T.item (fB X scope N Y) rfl rfl rfl hc i _ s3 _ H3 (λ_ _=>False) Ip (SH fr3 Nt) GX go) (λr s4 h4=>?_) λ_ _ z=>z;obtain⟨u,hr,h4⟩:=h4;subst hr;refine Yc h4 (λ_ s5 h5=>?_) λ_ _ z=>z;obtain⟨x,H5,I5,r5,y5,st5,fr5⟩:=h5;have Ss:=I5.pinned (SH fr5 Nt) (T.obj _ _ st5);refine Yc (hg _ s5 _ H5 x u _ Ss r5 (step x H5 y5)) (λ_ s6 h6=>?_) λ_ _ z=>z;obtain⟨σ6,H6,I6,q6⟩:=h6;refine Yc (ht _ s6 σ6 H6 _ I6 q6) (λb s7 h7=>?_) λ_ _ z=>z;obtain⟨H7,I7,q7⟩:=h7;have Qo:∀{H8:Hp} {σ8:St} {s8:WY},az (fB X scope N Y) ([(bz,({cls:=.type "list",data:=.seq ao.toArray nn}:Obj))]++p6 fp s5.heap) σ8 H8 s8->
     s8.heap.get? bz=some ({cls:=.type "list",data:=.seq ao.toArray nn}:Obj)/\H8 bz=none/\(∀b∈fp,H8 b=none)/\(∀b∈fp,∀o,s5.heap.get? b=some o->s8.heap.get? b=some o):=λ{H8 σ8 s8} K=>by
    have q:=K.pin (bz,({cls:=.type "list",data:=.seq ao.toArray nn}:Obj)) (WZ _ (Xn _ WG));refine⟨q.1,q.2.1,λb hb=>?_,λb hb o e=>(K.pin (b,o) (WZ _ (WZ _ (iY hb e)))).1⟩;obtain⟨o,e,d⟩:=T.obj _ _ st5 b hb;exact (K.pin (b,o) (WZ _ (WZ _ (iY hb e)))).2.1
   have GC:∀{H8:Hp} {σ8:St} {s8:WY} {pl:List (W7×Obj)},az (fB X scope N Y) pl σ8 H8 s8->az (fB X scope N Y) [] σ8 H8 s8:=λK=>K.pins_of λp hp=>absurd hp (by simp);cases b with
   |false=>
    rw[hV (by simp)] at q7;obtain⟨m',hm,w7⟩:=hNx _ _ q7;obtain⟨p1,p2,p3,p4⟩:=Qo I7;exact⟨m',hm,i+1,ys,ao,H7,Qn (GC I7),T.keep _ _ _ st5 p4,p3,p2,⟨nn,p1⟩,rv3,hz3,w7⟩
   |true=>
    rw[hZ rfl] at q7;refine Yc (he _ s7 σ6 H7 _ I7 q7) (λv s8 h8=>?_) λ_ _ z=>z;obtain⟨y,H8,I8,r8,q8⟩:=h8;obtain⟨m',hm,w8⟩:=hNx _ _ q8;obtain⟨p1,p2,p3,p4⟩:=Qo I8;refine wpAny_list_append_plain (items:=ao.toArray) ⟨nn,p1⟩ (λh' U6 sb=>?_) (by rw[WK,←rv3.length];exact hz3);obtain⟨f0,f1,f2',f3,f4,f5⟩:=SG (H':=H8) (pl:=[]) p2 (by simp);have I9:az (fB X scope N Y) [] σ6 H8 {s8 with heap:=h'}:=(GC I8).turned (t':=s8.toks) (λb o hb e=>(sb.2 b hb).trans e) f0 f1 f3 f4 f5;refine⟨m',hm,i+1,ys++[y],ao++[v],H8,Qn I9,T.keep _ _ _ st5 (λb hb o e=>(sb.2 b (λz=>Ub (z▸hb))).trans (p4 b hb o e)),p3,p2,?_,rv3.append (.cons r8 .nil),?_,w8⟩
    ·rw[show (ao++[v]).toArray=ao.toArray.push v from by simp];exact U6
    ·rw[WN,YF];exact sP
 exact codeAny_compStart_list (loop _) (T.self _ _ _ _ _ (T.keep _ _ _ kr (λb hb o e=>old b o e)) (loop _))
theorem yM {oT:Scope}(I:az X pins σ H s)(S:pK oT X.N scope N js)(rW:X.env.scope=oT) :
  ∃cl:List (Str×W7),closureFor scope X.env=pure cl/\(∀x c,cl.lookup x=some c->X.env.cells.lookup x=some c)/\∀x,(x,NameKind.free)∈scope.names->∃c,cl.lookup x=some c:=
 yJ λx hx=>I.ok.has x (by
  have:=S.free x hx;rw[←rW] at this;exact this)
theorem Jw {z_:YO}{wi:TI}{g:uD->TG}{tt:uD->TT}{te:uD->TE}(oT:Scope)(NX N:List Str)(js:List (Option Nat))(hc:X.calm=true)(hi:PI X tg iter wi)(C_:∀Y:uD,PG (fB X scope N Y) tg (g Y)/\Ht (fB X scope N Y) yw (tt Y)/\PE (fB X scope N Y) z_ (te Y))(rW:X.env.scope=oT:=by rfl)(Qp:X.N=NX:=by rfl)(hS:yK oT NX scope N js=true:=by decide+kernel)(hs:∀x,Za iter X.env x=pure x:=by intro _;rfl):PE X (.ListComp z_ [⟨tg,iter,yw,0⟩] scope pos) (RM wi js g tt te):=by
 intro pins s σ H Q I h;have S:pK oT X.N scope N js:=by rw[Qp];exact yK.to hS
 obtain⟨cl,e1,e2,e3⟩:=yM I S rW;rw[eval_ListComp];refine wpAny_comprehension_free (use:=none) rfl hs e1 S.kind S.loc (du (hi pins s σ H _ I h) λv s1 h1=>du h1 λSr s2 h2=>?_);obtain⟨it,fp,tn,J,H2,e,I2,T,kr,f2,q⟩:=h2;subst e;refine yL (RR:=λbz C=>compPost (Xg X.prog X.w) X.A X.xe none (EP X pins σ Q) bz C) I2 hc T kr f2 C_ S rW e2 e3 q ?_;intro bz C ys H' s' I' ns fC na p;obtain⟨m,hn⟩:=ns;obtain⟨f0,f1,f2',f3,f4,f5⟩:=fC;exact⟨m,hn,λh' sb=>⟨.ref bz,_,I'.turned (t':=s'.toks) (λb o hb e=>(sb.2 b hb).trans e) f0 f1 f3 f4 f5,rfl,p bz na⟩⟩
def OH (J:It)(g:TG)(tb:TS)(D:kT)(σ:St)(H1:Hp):Prop:=∃W:Nat->Nat->St->Hp->Prop,(∃m,W 0 m σ H1)/\∀i m σ H,W i m σ H->
 (J.stop i H/\D.nx σ H)\/(J.go i H/\∃N:St->Hp->Prop,(∀σ' H',N σ' H'->∃m',m'<m/\W (i+1) m' σ' H')/\∀x H',J.yld i H x H'->g x σ H' λσ2 H2=>tb {D with nx:=N,ct:=N,bk:=D.nx} σ2 H2)
def OI (wi:TI)(g:TG)(tb:TS):TS:=λD σ H=>wi σ H λJ H1=>OH J g tb D σ H1
theorem Ap {wi:TI}{g:TG}{tb:TS}(hp:acI (Xg X.prog X.w) X.A X.env X.xe)(hc:X.calm=true)(hi:PI X tg iter wi)(hg:PG X tg g)(hb:sd X body tb)(hs:∀x,Za iter X.env x=pure x:=by intro _;rfl):PS X (.For tg iter body [] pos) (OI wi g tb):=Lk hp hc hi hg hb hs
end L2
namespace L2
inductive D where
 |non|bl (b:Bool)|int (i:Int)|str (x:Str)|tup (xs:List D)|lst (xs:List D)
instance:Inhabited D:=⟨.non⟩
mutual
def aM (K:WH)(H:Hp):D->V->Prop
 | .non,v=>v=.non
 | .bl b,v=>v=.bl b
 | .int i,v=>v=.int i
 | .str x,v=>v=.str x
 | .tup ds,v=>∃a xs,v=.ref a/\fQ K H a xs/\fD K H ds xs
 | .lst ds,v=>∃a xs,v=.ref a/\eF K H a xs/\fD K H ds xs
def fD (K:WH)(H:Hp):List D->List V->Prop
 | [],xs=>xs=[]
 |d::ds,xs=>∃x r,xs=x::r/\aM K H d x/\fD K H ds r
end
mutual
noncomputable def lP:D->D->Bool
 | .non,.non=>true
 | .bl a,.bl b=>a==b
 | .bl a,.int b=>(if a then 1 else 0)==b
 | .int a,.bl b=>a==(if b then 1 else 0)
 | .int a,.int b=>a==b
 | .str a,.str b=>a==b
 | .tup xs,.tup ys=>mX xs ys
 | .lst xs,.lst ys=>mX xs ys
 |_,_=>false
noncomputable def mX:List D->List D->Bool
 | [],[]=>true
 |x::xs,y::ys=>lP x y&&mX xs ys
 |_,_=>false
end
mutual
noncomputable def dX:D->Nat
 | .tup xs=>ig xs+1
 | .lst xs=>ig xs+1
 |_=>0
noncomputable def ig:List D->Nat
 | []=>0
 |x::xs=>max (dX x) (ig xs)
end
theorem fD.length {K:WH}{H:Hp}:∀{ds:List D} {xs:List V},fD K H ds xs->ds.length=xs.length
 | [],_,h=>by unfold fD at h;subst h;rfl
 |d::ds,_,h=>by
  unfold fD at h;obtain⟨x,r,rfl,_,q⟩:=h;rw[WT,WT,fD.length q]
theorem fD.get {K:WH}{H:Hp}:∀{ds:List D} {xs:List V} {i:Nat} {d:D} {x:V},fD K H ds xs->ds[i]? = some d->xs[i]? = some x->aM K H d x
 | [],_,_,_,_,_,e,_=>by simp at e
 |d::ds,_,i,d',x',h,e1,e2=>by
  unfold fD at h;obtain⟨x,r,rfl,p,q⟩:=h;cases i with
  |zero=>simp at e1 e2;subst e1 e2;exact p
  |succ i=>exact fD.get q (by simpa using e1) (by simpa using e2)
theorem fg:∀{ds:List D} {i:Nat} {d:D},ds[i]? = some d->dX d<=ig ds
 | [],_,_,e=>by simp at e
 |d::ds,i,d',e=>by
  unfold ig;cases i with
  |zero=>simp at e;subst e;exact Nat.le_max_left _ _
  |succ i=>exact XC (fg (ds:=ds) (by simpa using e)) (Nat.le_max_right _ _)
noncomputable def c_ (xs ys:List D)(j:Nat):Bool:=match xs[j]?,ys[j]? with
 |some a,some b=>lP a b
 |_,_=>true
theorem fE:∀(xs ys:List D),((Xo (min xs.length ys.length)).all (c_ xs ys)&&xs.length==ys.length)=mX xs ys
 | [],[]=>by simp[mX]
 | [],_::_=>by simp[mX]
 |_::_,[]=>by simp[mX]
 |x::xs,y::ys=>by
  have ih:=fE xs ys;unfold mX;rw[←ih,WT,WT,Nat.add_min_add_right,List.range_succ_eq_map,Zr,List.all_map];have e0:c_ (x::xs) (y::ys) 0=lP x y:=rfl;have e1:(c_ (x::xs) (y::ys)∘Nat.succ)=c_ xs ys:=by funext j;simp[c_,Function.comp]
  rw[e0,e1,Bool.and_assoc];congr 1;congr 1;rw[Yu];simp
theorem p_ {xs ys:List D}(h:xs.length≠ys.length):mX xs ys=false:=by
 rw[←fE,show (xs.length==ys.length)=false from by simpa using h,abo]
mutual
theorem qb:∀d:D,lP d d=true
 | .non=>rfl
 | .bl b=>by unfold lP;simp
 | .int b=>by unfold lP;simp
 | .str b=>by unfold lP;simp
 | .tup xs=>by unfold lP;exact mY xs
 | .lst xs=>by unfold lP;exact mY xs
theorem mY:∀ds:List D,mX ds ds=true
 | []=>rfl
 |d::ds=>by unfold mX;rw[qb d,mY ds];rfl
end
theorem OJ {ys:List V}(I:az X pins σ H s)(h:eF X.K H a xs)(h':fQ X.K H a ys):False:=by
 obtain⟨ao,_,p,_⟩:=I.list h;obtain⟨its',_,q,_⟩:=I.tuple h';exact absurd rfl (SeqAt.ne_of_list_tuple p.isList q)
theorem wg (I:az X pins σ H s):∀n d1 d2 x,dX d1<=n->aM X.K H d1 x->aM X.K H d2 x->lP d1 d2=true:=by
 have lists:∀n,(∀d1 d2 x,dX d1<=n->aM X.K H d1 x->aM X.K H d2 x->lP d1 d2=true)->∀(ds es:List D) (xs:List V),ig ds<=n->fD X.K H ds xs->fD X.K H es xs->mX ds es=true:=by
  intro n ih ds
  induction ds with
  |nil=>
   intro es xs _ h1 h2;unfold fD at h1;subst h1;cases es with
   |nil=>rfl
   |cons e es=>unfold fD at h2;obtain⟨x,r,e',_⟩:=h2;cases e'
  |cons d ds ihd=>
   intro es xs hd h1 h2;unfold fD at h1;obtain⟨x,r,rfl,p,q⟩:=h1;cases es with
   |nil=>unfold fD at h2;cases h2
   |cons e es=>
    unfold fD at h2;obtain⟨x',r',e',p',q'⟩:=h2;cases e';unfold ig at hd;unfold mX;rw[ih d e x (XC (Nat.le_max_left _ _) hd) p p',ihd es r (XC (Nat.le_max_right _ _) hd) q q'];rfl
 intro n
 induction n with
 |zero=>
  intro d1 d2 x hd h1 h2;have fl:∀d,aM X.K H d x->(∃a,x=.ref a)\/(d=.non/\x=.non)\/(∃b,d=.bl b/\x=.bl b)\/(∃b,d=.int b/\x=.int b)\/∃b,d=.str b/\x=.str b:=λd h=>by
   cases d with
   |non=>unfold aM at h;exact .inr (.inl ⟨rfl,h⟩)
   |bl b=>unfold aM at h;exact .inr (.inr (.inl ⟨b,rfl,h⟩))
   |int b=>unfold aM at h;exact .inr (.inr (.inr (.inl ⟨b,rfl,h⟩)))
   |str b=>unfold aM at h;exact .inr (.inr (.inr (.inr ⟨b,rfl,h⟩)))
   |tup ds=>unfold aM at h;obtain⟨a,_,e,_⟩:=h;exact .inl ⟨a,e⟩
   |lst ds=>unfold aM at h;obtain⟨a,_,e,_⟩:=h;exact .inl ⟨a,e⟩
  have nr:¬∃a,x=.ref a:=λh00=>by
   obtain⟨a,e⟩:=h00;subst e;cases d1 with
   |tup ds=>unfold dX at hd;lia
   |lst ds=>unfold dX at hd;lia
   |_=>unfold aM at h1;cases h1
  have f1:=fl d1 h1;have f2:=fl d2 h2;rcases f1 with f1|⟨rfl,rfl⟩|⟨b,rfl,rfl⟩|⟨b,rfl,rfl⟩|⟨b,rfl,rfl⟩
  ·exact absurd f1 nr
  all_goals
   rcases f2 with f2|⟨rfl,f2⟩|⟨c,rfl,f2⟩|⟨c,rfl,f2⟩|⟨c,rfl,f2⟩
   ·exact absurd f2 nr
   all_goals first|(cases f2;exact qb _)|cases f2
 |succ n ih=>
  intro d1 d2 x hd h1 h2;cases d1 with
  |tup ds=>
   unfold aM at h1;obtain⟨a,xs,rfl,hs,hr⟩:=h1;cases d2 with
   |tup es=>
    unfold aM at h2;obtain⟨a',xs',e,hs',hr'⟩:=h2;cases e;have:=I.tuple_inj hs hs';subst this;unfold lP;exact lists n ih ds es xs (by unfold dX at hd;lia) hr hr'
   |lst es=>
    unfold aM at h2;obtain⟨a',xs',e,hs',hr'⟩:=h2;cases e;exact (OJ I hs' hs).elim
   |_=>unfold aM at h2;cases h2
  |lst ds=>
   unfold aM at h1;obtain⟨a,xs,rfl,hs,hr⟩:=h1;cases d2 with
   |lst es=>
    unfold aM at h2;obtain⟨a',xs',e,hs',hr'⟩:=h2;cases e;have:=I.list_inj hs hs';subst this;unfold lP;exact lists n ih ds es xs (by unfold dX at hd;lia) hr hr'
   |tup es=>
    unfold aM at h2;obtain⟨a',xs',e,hs',hr'⟩:=h2;cases e;exact (OJ I hs hs').elim
   |_=>unfold aM at h2;cases h2
  |_=>exact ih _ d2 x (by unfold dX;exact X5 _) h1 h2
theorem uE (I:az X pins σ H s):∀(n:Nat) (d1 d2:D) (x y:V) (u v:WM) (A:XD),dX d1<=n->A.units+n<YV->aM X.K H d1 x->aM X.K H d2 y->aN x u->aN y v->aaK A s u v (lP d1 d2):=by
 intro n
 induction n with
 |zero=>
  intro d1 d2 x y u v A hd hu h1 h2 r1 r2;have cN:A.units<YV:=by lia
  cases d1 with
  |non=>
   unfold aM at h1;subst h1;cases r1;cases d2 with
   |non=>
    unfold aM at h2;subst h2;cases r2;exact abS _
   |bl b2=>
    unfold aM at h2;subst h2;cases r2;exact SeqAt.EqAt.none_bool b2
   |int b2=>
    unfold aM at h2;subst h2;obtain⟨t2,rfl⟩:=r2;exact SeqAt.EqAt.none_int b2 t2
   |str b2=>
    unfold aM at h2;subst h2;obtain⟨t2,rfl⟩:=r2;exact SeqAt.EqAt.none_str b2 t2
   |tup b2=>
    unfold aM at h2;obtain⟨a2,xs2,rfl,bT,eV⟩:=h2;cases r2;obtain⟨its2,rv2,p2,jw⟩:=I.tuple bT;exact SeqAt.EqAt.none_tuple p2 cN
   |lst b2=>
    unfold aM at h2;obtain⟨a2,xs2,rfl,bT,eV⟩:=h2;cases r2;obtain⟨its2,rv2,p2,jw⟩:=I.list bT;exact SeqAt.EqAt.none_list p2.isList cN
  |bl b1=>
   unfold aM at h1;subst h1;cases r1;cases d2 with
   |non=>
    unfold aM at h2;subst h2;cases r2;exact SeqAt.EqAt.bool_none b1
   |bl b2=>
    unfold aM at h2;subst h2;cases r2;exact SeqAt.EqAt.bool_bool b1 b2
   |int b2=>
    unfold aM at h2;subst h2;obtain⟨t2,rfl⟩:=r2;exact SeqAt.EqAt.bool_int b1 b2 t2
   |str b2=>
    unfold aM at h2;subst h2;obtain⟨t2,rfl⟩:=r2;exact SeqAt.EqAt.bool_str b1 b2 t2
   |tup b2=>
    unfold aM at h2;obtain⟨a2,xs2,rfl,bT,eV⟩:=h2;cases r2;obtain⟨its2,rv2,p2,jw⟩:=I.tuple bT;exact SeqAt.EqAt.bool_tuple b1 p2 cN
   |lst b2=>
    unfold aM at h2;obtain⟨a2,xs2,rfl,bT,eV⟩:=h2;cases r2;obtain⟨its2,rv2,p2,jw⟩:=I.list bT;exact SeqAt.EqAt.bool_list b1 p2.isList cN
  |int b1=>
   unfold aM at h1;subst h1;obtain⟨t1,rfl⟩:=r1;cases d2 with
   |non=>
    unfold aM at h2;subst h2;cases r2;exact SeqAt.EqAt.int_none b1 t1
   |bl b2=>
    unfold aM at h2;subst h2;cases r2;exact SeqAt.EqAt.int_bool b1 t1 b2
   |int b2=>
    unfold aM at h2;subst h2;obtain⟨t2,rfl⟩:=r2;exact SeqAt.EqAt.int_int b1 t1 b2 t2
   |str b2=>
    unfold aM at h2;subst h2;obtain⟨t2,rfl⟩:=r2;exact SeqAt.EqAt.int_str b1 t1 b2 t2
   |tup b2=>
    unfold aM at h2;obtain⟨a2,xs2,rfl,bT,eV⟩:=h2;cases r2;obtain⟨its2,rv2,p2,jw⟩:=I.tuple bT;exact SeqAt.EqAt.int_tuple b1 t1 p2 cN
   |lst b2=>
    unfold aM at h2;obtain⟨a2,xs2,rfl,bT,eV⟩:=h2;cases r2;obtain⟨its2,rv2,p2,jw⟩:=I.list bT;exact SeqAt.EqAt.int_list b1 t1 p2.isList cN
  |str b1=>
   unfold aM at h1;subst h1;obtain⟨t1,rfl⟩:=r1;cases d2 with
   |non=>
    unfold aM at h2;subst h2;cases r2;exact SeqAt.EqAt.str_none b1 t1
   |bl b2=>
    unfold aM at h2;subst h2;cases r2;exact SeqAt.EqAt.str_bool b1 t1 b2
   |int b2=>
    unfold aM at h2;subst h2;obtain⟨t2,rfl⟩:=r2;exact SeqAt.EqAt.str_int b1 t1 b2 t2
   |str b2=>
    unfold aM at h2;subst h2;obtain⟨t2,rfl⟩:=r2;exact SeqAt.EqAt.str_str b1 t1 b2 t2
   |tup b2=>
    unfold aM at h2;obtain⟨a2,xs2,rfl,bT,eV⟩:=h2;cases r2;obtain⟨its2,rv2,p2,jw⟩:=I.tuple bT;exact SeqAt.EqAt.str_tuple b1 t1 p2 cN
   |lst b2=>
    unfold aM at h2;obtain⟨a2,xs2,rfl,bT,eV⟩:=h2;cases r2;obtain⟨its2,rv2,p2,jw⟩:=I.list bT;exact SeqAt.EqAt.str_list b1 t1 p2.isList cN
  |tup ds=>unfold dX at hd;lia
  |lst ds=>unfold dX at hd;lia
 |succ n ih=>
  intro d1 d2 x y u v A hd hu h1 h2 r1 r2;have cN:A.units<YV:=by lia
  cases d1 with
  |tup ds=>
   unfold aM at h1;obtain⟨a1,xs1,rfl,lL,hr1⟩:=h1;cases r1;obtain⟨its1,rv1,p1,hz1⟩:=I.tuple lL;cases d2 with
   |non=>
    unfold aM at h2;subst h2;cases r2;exact SeqAt.EqAt.tuple_none p1 cN
   |bl b2=>
    unfold aM at h2;subst h2;cases r2;exact SeqAt.EqAt.tuple_bool b2 p1 cN
   |int b2=>
    unfold aM at h2;subst h2;obtain⟨t2,rfl⟩:=r2;exact SeqAt.EqAt.tuple_int b2 t2 p1 cN
   |str b2=>
    unfold aM at h2;subst h2;obtain⟨t2,rfl⟩:=r2;exact SeqAt.EqAt.tuple_str b2 t2 p1 cN
   |tup es=>
    unfold aM at h2;obtain⟨a2,xs2,rfl,bT,eV⟩:=h2;cases r2;obtain⟨its2,rv2,p2,jw⟩:=I.tuple bT;by_cases uu:a1=a2
    ·subst uu;rw[wg I (n+1) (.tup ds) (.tup es) (.ref a1) hd (by unfold aM;exact⟨a1,xs1,rfl,lL,hr1⟩) (by unfold aM;exact⟨a1,xs2,rfl,bT,eV⟩)];exact abS _
    ·refine acb uu ?_;have l1:its1.toArray.size=ds.length:=by rw[WK,←rv1.length,hr1.length]
     have l2:its2.toArray.size=es.length:=by rw[WK,←rv2.length,eV.length]
     have k1:xs1.length=ds.length:=hr1.length.symm;have k2:xs2.length=es.length:=eV.length.symm;have he:∀j (h1:j<its1.toArray.size) (h2:j<its2.toArray.size),aaK A.in1 s its1.toArray[j] its2.toArray[j] (c_ ds es j):=λj g1 g2=>by
      have q1:ds[j]? = some ds[j]:=Wz (by lia);have q2:es[j]? = some es[j]:=Wz (by lia);have e1:xs1[j]? = some xs1[j]:=Wz (by lia);have e2:xs2[j]? = some xs2[j]:=Wz (by lia);obtain⟨u1,z1,w1⟩:=rv1.get e1;obtain⟨u2,z2,w2⟩:=rv2.get e2;have y1:its1.toArray[j]=u1:=by
       have:=WL.mp z1;obtain⟨_,q⟩:=this;simpa using q
      have y2:its2.toArray[j]=u2:=by
       have:=WL.mp z2;obtain⟨_,q⟩:=this;simpa using q
      rw[y1,y2];have:c_ ds es j=lP ds[j] es[j]:=by unfold c_;rw[q1,q2]
      rw[this];refine ih ds[j] es[j] xs1[j] xs2[j] u1 u2 A.in1 ?_ (by show A.units+1+n<YV;lia) (hr1.get q1 e1) (eV.get q2 e2) w1 w2;have:=fg q1;unfold dX at hd;lia
     have q:=acz (A:=A) p1 p2 cN he;rw[l1,l2,fE] at q;unfold lP;exact q
   |lst es=>
    unfold aM at h2;obtain⟨a2,xs2,rfl,bT,eV⟩:=h2;cases r2;obtain⟨its2,rv2,p2,jw⟩:=I.list bT;exact SeqAt.EqAt.tuple_list p1 p2.isList cN
  |lst ds=>
   unfold aM at h1;obtain⟨a1,xs1,rfl,lL,hr1⟩:=h1;cases r1;obtain⟨its1,rv1,p1,hz1⟩:=I.list lL;cases d2 with
   |non=>
    unfold aM at h2;subst h2;cases r2;exact SeqAt.EqAt.list_none p1.isList cN
   |bl b2=>
    unfold aM at h2;subst h2;cases r2;exact SeqAt.EqAt.list_bool b2 p1.isList cN
   |int b2=>
    unfold aM at h2;subst h2;obtain⟨t2,rfl⟩:=r2;exact SeqAt.EqAt.list_int b2 t2 p1.isList cN
   |str b2=>
    unfold aM at h2;subst h2;obtain⟨t2,rfl⟩:=r2;exact SeqAt.EqAt.list_str b2 t2 p1.isList cN
   |tup es=>
    unfold aM at h2;obtain⟨a2,xs2,rfl,bT,eV⟩:=h2;cases r2;obtain⟨its2,rv2,p2,jw⟩:=I.tuple bT;exact SeqAt.EqAt.list_tuple p1.isList p2 cN
   |lst es=>
    unfold aM at h2;obtain⟨a2,xs2,rfl,bT,eV⟩:=h2;cases r2;obtain⟨its2,rv2,p2,jw⟩:=I.list bT;by_cases uu:a1=a2
    ·subst uu;rw[wg I (n+1) (.lst ds) (.lst es) (.ref a1) hd (by unfold aM;exact⟨a1,xs1,rfl,lL,hr1⟩) (by unfold aM;exact⟨a1,xs2,rfl,bT,eV⟩)];exact abS _
    ·refine acb uu ?_;have l1:its1.toArray.size=ds.length:=by rw[WK,←rv1.length,hr1.length]
     have l2:its2.toArray.size=es.length:=by rw[WK,←rv2.length,eV.length]
     have k1:xs1.length=ds.length:=hr1.length.symm;have k2:xs2.length=es.length:=eV.length.symm;have he:∀j (h1:j<its1.toArray.size) (h2:j<its2.toArray.size),aaK A.in1 s its1.toArray[j] its2.toArray[j] (c_ ds es j):=λj g1 g2=>by
      have q1:ds[j]? = some ds[j]:=Wz (by lia);have q2:es[j]? = some es[j]:=Wz (by lia);have e1:xs1[j]? = some xs1[j]:=Wz (by lia);have e2:xs2[j]? = some xs2[j]:=Wz (by lia);obtain⟨u1,z1,w1⟩:=rv1.get e1;obtain⟨u2,z2,w2⟩:=rv2.get e2;have y1:its1.toArray[j]=u1:=by
       have:=WL.mp z1;obtain⟨_,q⟩:=this;simpa using q
      have y2:its2.toArray[j]=u2:=by
       have:=WL.mp z2;obtain⟨_,q⟩:=this;simpa using q
      rw[y1,y2];have:c_ ds es j=lP ds[j] es[j]:=by unfold c_;rw[q1,q2]
      rw[this];refine ih ds[j] es[j] xs1[j] xs2[j] u1 u2 A.in1 ?_ (by show A.units+1+n<YV;lia) (hr1.get q1 e1) (eV.get q2 e2) w1 w2;have:=fg q1;unfold dX at hd;lia
     unfold lP;by_cases hl:ds.length=es.length
     ·have q:=SeqAt.RcAt.lists (A:=A) p1.isList p2.isList (by rw[l1,l2,hl]) cN he;rw[l1] at q;have z:=fE ds es;rw[hl,acd,beq_self_eq_true,Bool.and_true] at z;rw[hl,z] at q;exact q
     ·rw[p_ hl];exact acA (A:=A) p1.isList p2.isList (by rw[l1,l2];simpa using hl) cN
  |non=>exact ih _ d2 x y u v A (by unfold dX;exact X5 _) (by lia) h1 h2 r1 r2
  |bl b1=>exact ih _ d2 x y u v A (by unfold dX;exact X5 _) (by lia) h1 h2 r1 r2
  |int b1=>exact ih _ d2 x y u v A (by unfold dX;exact X5 _) (by lia) h1 h2 r1 r2
  |str b1=>exact ih _ d2 x y u v A (by unfold dX;exact X5 _) (by lia) h1 h2 r1 r2
theorem LC (I:az X pins σ H s)(n:Nat)(d1 d2:D)(x y:V)(u v:WM)(A:XD)(hd:dX d1<=n)(hu:A.units+n<YV)(h1:aM X.K H d1 x)(h2:aM X.K H d2 y)(r1:aN x u)(r2:aN y v):SeqAt.RcAt A s u v (lP d1 d2):=by
  have cN:A.units<YV:=by lia
  cases d1 with
  |non=>
   unfold aM at h1;subst h1;cases r1;cases d2 with
   |non=>
    unfold aM at h2;subst h2;cases r2;exact SeqAt.RcAt.none_none
   |bl b2=>
    unfold aM at h2;subst h2;cases r2;exact SeqAt.RcAt.none_bool b2
   |int b2=>
    unfold aM at h2;subst h2;obtain⟨t2,rfl⟩:=r2;exact SeqAt.RcAt.none_int b2 t2
   |str b2=>
    unfold aM at h2;subst h2;obtain⟨t2,rfl⟩:=r2;exact SeqAt.RcAt.none_str b2 t2
   |tup es=>
    unfold aM at h2;obtain⟨a2,xs2,rfl,bT,eV⟩:=h2;cases r2;obtain⟨its2,rv2,p2,jw⟩:=I.tuple bT;exact SeqAt.RcAt.none_tuple p2 cN
   |lst es=>
    unfold aM at h2;obtain⟨a2,xs2,rfl,bT,eV⟩:=h2;cases r2;obtain⟨its2,rv2,p2,jw⟩:=I.list bT;exact SeqAt.RcAt.none_list p2.isList cN
  |bl b1=>
   unfold aM at h1;subst h1;cases r1;cases d2 with
   |non=>
    unfold aM at h2;subst h2;cases r2;exact SeqAt.RcAt.bool_none b1
   |bl b2=>
    unfold aM at h2;subst h2;cases r2;exact SeqAt.RcAt.bool_bool b1 b2
   |int b2=>
    unfold aM at h2;subst h2;obtain⟨t2,rfl⟩:=r2;exact SeqAt.RcAt.bool_int b1 b2 t2
   |str b2=>
    unfold aM at h2;subst h2;obtain⟨t2,rfl⟩:=r2;exact SeqAt.RcAt.bool_str b1 b2 t2
   |tup es=>
    unfold aM at h2;obtain⟨a2,xs2,rfl,bT,eV⟩:=h2;cases r2;obtain⟨its2,rv2,p2,jw⟩:=I.tuple bT;exact SeqAt.RcAt.bool_tuple b1 p2 cN
   |lst es=>
    unfold aM at h2;obtain⟨a2,xs2,rfl,bT,eV⟩:=h2;cases r2;obtain⟨its2,rv2,p2,jw⟩:=I.list bT;exact SeqAt.RcAt.bool_list b1 p2.isList cN
  |int b1=>
   unfold aM at h1;subst h1;obtain⟨t1,rfl⟩:=r1;cases d2 with
   |non=>
    unfold aM at h2;subst h2;cases r2;exact SeqAt.RcAt.int_none b1 t1
   |bl b2=>
    unfold aM at h2;subst h2;cases r2;exact SeqAt.RcAt.int_bool b1 t1 b2
   |int b2=>
    unfold aM at h2;subst h2;obtain⟨t2,rfl⟩:=r2;exact SeqAt.RcAt.int_int b1 t1 b2 t2
   |str b2=>
    unfold aM at h2;subst h2;obtain⟨t2,rfl⟩:=r2;exact SeqAt.RcAt.int_str b1 t1 b2 t2
   |tup es=>
    unfold aM at h2;obtain⟨a2,xs2,rfl,bT,eV⟩:=h2;cases r2;obtain⟨its2,rv2,p2,jw⟩:=I.tuple bT;exact SeqAt.RcAt.int_tuple b1 t1 p2 cN
   |lst es=>
    unfold aM at h2;obtain⟨a2,xs2,rfl,bT,eV⟩:=h2;cases r2;obtain⟨its2,rv2,p2,jw⟩:=I.list bT;exact SeqAt.RcAt.int_list b1 t1 p2.isList cN
  |str b1=>
   unfold aM at h1;subst h1;obtain⟨t1,rfl⟩:=r1;cases d2 with
   |non=>
    unfold aM at h2;subst h2;cases r2;exact SeqAt.RcAt.str_none b1 t1
   |bl b2=>
    unfold aM at h2;subst h2;cases r2;exact SeqAt.RcAt.str_bool b1 t1 b2
   |int b2=>
    unfold aM at h2;subst h2;obtain⟨t2,rfl⟩:=r2;exact SeqAt.RcAt.str_int b1 t1 b2 t2
   |str b2=>
    unfold aM at h2;subst h2;obtain⟨t2,rfl⟩:=r2;exact SeqAt.RcAt.str_str b1 t1 b2 t2
   |tup es=>
    unfold aM at h2;obtain⟨a2,xs2,rfl,bT,eV⟩:=h2;cases r2;obtain⟨its2,rv2,p2,jw⟩:=I.tuple bT;exact SeqAt.RcAt.str_tuple b1 t1 p2 cN
   |lst es=>
    unfold aM at h2;obtain⟨a2,xs2,rfl,bT,eV⟩:=h2;cases r2;obtain⟨its2,rv2,p2,jw⟩:=I.list bT;exact SeqAt.RcAt.str_list b1 t1 p2.isList cN
  |tup ds=>
   unfold aM at h1;obtain⟨a1,xs1,rfl,lL,hr1⟩:=h1;cases r1;obtain⟨its1,rv1,p1,hz1⟩:=I.tuple lL;cases d2 with
   |non=>
    unfold aM at h2;subst h2;cases r2;exact SeqAt.RcAt.tuple_none p1 cN
   |bl b2=>
    unfold aM at h2;subst h2;cases r2;exact SeqAt.RcAt.tuple_bool b2 p1 cN
   |int b2=>
    unfold aM at h2;subst h2;obtain⟨t2,rfl⟩:=r2;exact SeqAt.RcAt.tuple_int b2 t2 p1 cN
   |str b2=>
    unfold aM at h2;subst h2;obtain⟨t2,rfl⟩:=r2;exact SeqAt.RcAt.tuple_str b2 t2 p1 cN
   |tup es=>
    unfold aM at h2;obtain⟨a2,xs2,rfl,bT,eV⟩:=h2;cases r2;obtain⟨its2,rv2,p2,jw⟩:=I.tuple bT;have l1:its1.toArray.size=ds.length:=by rw[WK,←rv1.length,hr1.length]
    have l2:its2.toArray.size=es.length:=by rw[WK,←rv2.length,eV.length]
    have k1:xs1.length=ds.length:=hr1.length.symm;have k2:xs2.length=es.length:=eV.length.symm;have he:∀j (h1:j<its1.toArray.size) (h2:j<its2.toArray.size),aaK A.in1 s its1.toArray[j] its2.toArray[j] (c_ ds es j):=λj g1 g2=>by
     have q1:ds[j]? = some ds[j]:=Wz (by lia);have q2:es[j]? = some es[j]:=Wz (by lia);have e1:xs1[j]? = some xs1[j]:=Wz (by lia);have e2:xs2[j]? = some xs2[j]:=Wz (by lia);obtain⟨u1,z1,w1⟩:=rv1.get e1;obtain⟨u2,z2,w2⟩:=rv2.get e2;have y1:its1.toArray[j]=u1:=by
      obtain⟨_,q⟩:=WL.mp z1;simpa using q
     have y2:its2.toArray[j]=u2:=by
      obtain⟨_,q⟩:=WL.mp z2;simpa using q
     rw[y1,y2];have:c_ ds es j=lP ds[j] es[j]:=by unfold c_;rw[q1,q2]
     rw[this];have dl:=fg q1;unfold dX at hd;exact uE I (n-1) ds[j] es[j] xs1[j] xs2[j] u1 u2 A.in1 (by lia) (by show A.units+1+(n-1)<YV;lia) (hr1.get q1 e1) (eV.get q2 e2) w1 w2
    have q:=acz (A:=A) p1 p2 cN he;rw[l1,l2,fE] at q;unfold lP;exact q
   |lst es=>
    unfold aM at h2;obtain⟨a2,xs2,rfl,bT,eV⟩:=h2;cases r2;obtain⟨its2,rv2,p2,jw⟩:=I.list bT;exact SeqAt.RcAt.tuple_list p1 p2.isList cN
  |lst ds=>
   unfold aM at h1;obtain⟨a1,xs1,rfl,lL,hr1⟩:=h1;cases r1;obtain⟨its1,rv1,p1,hz1⟩:=I.list lL;cases d2 with
   |non=>
    unfold aM at h2;subst h2;cases r2;exact SeqAt.RcAt.list_none p1.isList cN
   |bl b2=>
    unfold aM at h2;subst h2;cases r2;exact SeqAt.RcAt.list_bool b2 p1.isList cN
   |int b2=>
    unfold aM at h2;subst h2;obtain⟨t2,rfl⟩:=r2;exact SeqAt.RcAt.list_int b2 t2 p1.isList cN
   |str b2=>
    unfold aM at h2;subst h2;obtain⟨t2,rfl⟩:=r2;exact SeqAt.RcAt.list_str b2 t2 p1.isList cN
   |tup es=>
    unfold aM at h2;obtain⟨a2,xs2,rfl,bT,eV⟩:=h2;cases r2;obtain⟨its2,rv2,p2,jw⟩:=I.tuple bT;exact SeqAt.RcAt.list_tuple p1.isList p2 cN
   |lst es=>
    unfold aM at h2;obtain⟨a2,xs2,rfl,bT,eV⟩:=h2;cases r2;obtain⟨its2,rv2,p2,jw⟩:=I.list bT;have l1:its1.toArray.size=ds.length:=by rw[WK,←rv1.length,hr1.length]
    have l2:its2.toArray.size=es.length:=by rw[WK,←rv2.length,eV.length]
    have k1:xs1.length=ds.length:=hr1.length.symm;have k2:xs2.length=es.length:=eV.length.symm;have he:∀j (h1:j<its1.toArray.size) (h2:j<its2.toArray.size),aaK A.in1 s its1.toArray[j] its2.toArray[j] (c_ ds es j):=λj g1 g2=>by
     have q1:ds[j]? = some ds[j]:=Wz (by lia);have q2:es[j]? = some es[j]:=Wz (by lia);have e1:xs1[j]? = some xs1[j]:=Wz (by lia);have e2:xs2[j]? = some xs2[j]:=Wz (by lia);obtain⟨u1,z1,w1⟩:=rv1.get e1;obtain⟨u2,z2,w2⟩:=rv2.get e2;have y1:its1.toArray[j]=u1:=by
      obtain⟨_,q⟩:=WL.mp z1;simpa using q
     have y2:its2.toArray[j]=u2:=by
      obtain⟨_,q⟩:=WL.mp z2;simpa using q
     rw[y1,y2];have:c_ ds es j=lP ds[j] es[j]:=by unfold c_;rw[q1,q2]
     rw[this];have dl:=fg q1;unfold dX at hd;exact uE I (n-1) ds[j] es[j] xs1[j] xs2[j] u1 u2 A.in1 (by lia) (by show A.units+1+(n-1)<YV;lia) (hr1.get q1 e1) (eV.get q2 e2) w1 w2
    unfold lP;by_cases hl:ds.length=es.length
    ·have q:=SeqAt.RcAt.lists (A:=A) p1.isList p2.isList (by rw[l1,l2,hl]) cN he;rw[l1] at q;have z:=fE ds es;rw[hl,acd,beq_self_eq_true,Bool.and_true] at z;rw[hl,z] at q;exact q
    ·rw[p_ hl];exact acA (A:=A) p1.isList p2.isList (by rw[l1,l2];simpa using hl) cN
theorem DY (I:az X pins σ H s)(n:Nat)(d1 d2:D)(x y:V)(u v:WM)(A:XD)(hd:dX d1<=n)(hu:A.units+n<YV)(h1:aM X.K H d1 x)(h2:aM X.K H d2 y)(r1:aN x u)(r2:aN y v):SeqAt.RcNeAt A s u v (!lP d1 d2):=by
  have cN:A.units<YV:=by lia
  cases d1 with
  |non=>
   unfold aM at h1;subst h1;cases r1;cases d2 with
   |non=>
    unfold aM at h2;subst h2;cases r2;exact SeqAt.RcNeAt.none_none
   |bl b2=>
    unfold aM at h2;subst h2;cases r2;exact SeqAt.RcNeAt.none_bool b2
   |int b2=>
    unfold aM at h2;subst h2;obtain⟨t2,rfl⟩:=r2;exact SeqAt.RcNeAt.none_int b2 t2
   |str b2=>
    unfold aM at h2;subst h2;obtain⟨t2,rfl⟩:=r2;exact SeqAt.RcNeAt.none_str b2 t2
   |tup es=>
    unfold aM at h2;obtain⟨a2,xs2,rfl,bT,eV⟩:=h2;cases r2;obtain⟨its2,rv2,p2,jw⟩:=I.tuple bT;exact SeqAt.RcNeAt.none_tuple p2 cN
   |lst es=>
    unfold aM at h2;obtain⟨a2,xs2,rfl,bT,eV⟩:=h2;cases r2;obtain⟨its2,rv2,p2,jw⟩:=I.list bT;exact SeqAt.RcNeAt.none_list p2.isList cN
  |bl b1=>
   unfold aM at h1;subst h1;cases r1;cases d2 with
   |non=>
    unfold aM at h2;subst h2;cases r2;exact SeqAt.RcNeAt.bool_none b1
   |bl b2=>
    unfold aM at h2;subst h2;cases r2;exact SeqAt.RcNeAt.bool_bool b1 b2
   |int b2=>
    unfold aM at h2;subst h2;obtain⟨t2,rfl⟩:=r2;exact SeqAt.RcNeAt.bool_int b1 b2 t2
   |str b2=>
    unfold aM at h2;subst h2;obtain⟨t2,rfl⟩:=r2;exact SeqAt.RcNeAt.bool_str b1 b2 t2
   |tup es=>
    unfold aM at h2;obtain⟨a2,xs2,rfl,bT,eV⟩:=h2;cases r2;obtain⟨its2,rv2,p2,jw⟩:=I.tuple bT;exact SeqAt.RcNeAt.bool_tuple b1 p2 cN
   |lst es=>
    unfold aM at h2;obtain⟨a2,xs2,rfl,bT,eV⟩:=h2;cases r2;obtain⟨its2,rv2,p2,jw⟩:=I.list bT;exact SeqAt.RcNeAt.bool_list b1 p2.isList cN
  |int b1=>
   unfold aM at h1;subst h1;obtain⟨t1,rfl⟩:=r1;cases d2 with
   |non=>
    unfold aM at h2;subst h2;cases r2;exact SeqAt.RcNeAt.int_none b1 t1
   |bl b2=>
    unfold aM at h2;subst h2;cases r2;exact SeqAt.RcNeAt.int_bool b1 t1 b2
   |int b2=>
    unfold aM at h2;subst h2;obtain⟨t2,rfl⟩:=r2;exact SeqAt.RcNeAt.int_int b1 t1 b2 t2
   |str b2=>
    unfold aM at h2;subst h2;obtain⟨t2,rfl⟩:=r2;exact SeqAt.RcNeAt.int_str b1 t1 b2 t2
   |tup es=>
    unfold aM at h2;obtain⟨a2,xs2,rfl,bT,eV⟩:=h2;cases r2;obtain⟨its2,rv2,p2,jw⟩:=I.tuple bT;exact SeqAt.RcNeAt.int_tuple b1 t1 p2 cN
   |lst es=>
    unfold aM at h2;obtain⟨a2,xs2,rfl,bT,eV⟩:=h2;cases r2;obtain⟨its2,rv2,p2,jw⟩:=I.list bT;exact SeqAt.RcNeAt.int_list b1 t1 p2.isList cN
  |str b1=>
   unfold aM at h1;subst h1;obtain⟨t1,rfl⟩:=r1;cases d2 with
   |non=>
    unfold aM at h2;subst h2;cases r2;exact SeqAt.RcNeAt.str_none b1 t1
   |bl b2=>
    unfold aM at h2;subst h2;cases r2;exact SeqAt.RcNeAt.str_bool b1 t1 b2
   |int b2=>
    unfold aM at h2;subst h2;obtain⟨t2,rfl⟩:=r2;exact SeqAt.RcNeAt.str_int b1 t1 b2 t2
   |str b2=>
    unfold aM at h2;subst h2;obtain⟨t2,rfl⟩:=r2;exact SeqAt.RcNeAt.str_str b1 t1 b2 t2
   |tup es=>
    unfold aM at h2;obtain⟨a2,xs2,rfl,bT,eV⟩:=h2;cases r2;obtain⟨its2,rv2,p2,jw⟩:=I.tuple bT;exact SeqAt.RcNeAt.str_tuple b1 t1 p2 cN
   |lst es=>
    unfold aM at h2;obtain⟨a2,xs2,rfl,bT,eV⟩:=h2;cases r2;obtain⟨its2,rv2,p2,jw⟩:=I.list bT;exact SeqAt.RcNeAt.str_list b1 t1 p2.isList cN
  |tup ds=>
   unfold aM at h1;obtain⟨a1,xs1,rfl,lL,hr1⟩:=h1;cases r1;obtain⟨its1,rv1,p1,hz1⟩:=I.tuple lL;cases d2 with
   |non=>
    unfold aM at h2;subst h2;cases r2;exact SeqAt.RcNeAt.tuple_none p1 cN
   |bl b2=>
    unfold aM at h2;subst h2;cases r2;exact SeqAt.RcNeAt.tuple_bool b2 p1 cN
   |int b2=>
    unfold aM at h2;subst h2;obtain⟨t2,rfl⟩:=r2;exact SeqAt.RcNeAt.tuple_int b2 t2 p1 cN
   |str b2=>
    unfold aM at h2;subst h2;obtain⟨t2,rfl⟩:=r2;exact SeqAt.RcNeAt.tuple_str b2 t2 p1 cN
   |tup es=>
    unfold aM at h2;obtain⟨a2,xs2,rfl,bT,eV⟩:=h2;cases r2;obtain⟨its2,rv2,p2,jw⟩:=I.tuple bT;have l1:its1.toArray.size=ds.length:=by rw[WK,←rv1.length,hr1.length]
    have l2:its2.toArray.size=es.length:=by rw[WK,←rv2.length,eV.length]
    have k1:xs1.length=ds.length:=hr1.length.symm;have k2:xs2.length=es.length:=eV.length.symm;have he:∀j (h1:j<its1.toArray.size) (h2:j<its2.toArray.size),aaK A.in1 s its1.toArray[j] its2.toArray[j] (c_ ds es j):=λj g1 g2=>by
     have q1:ds[j]? = some ds[j]:=Wz (by lia);have q2:es[j]? = some es[j]:=Wz (by lia);have e1:xs1[j]? = some xs1[j]:=Wz (by lia);have e2:xs2[j]? = some xs2[j]:=Wz (by lia);obtain⟨u1,z1,w1⟩:=rv1.get e1;obtain⟨u2,z2,w2⟩:=rv2.get e2;have y1:its1.toArray[j]=u1:=by
      obtain⟨_,q⟩:=WL.mp z1;simpa using q
     have y2:its2.toArray[j]=u2:=by
      obtain⟨_,q⟩:=WL.mp z2;simpa using q
     rw[y1,y2];have:c_ ds es j=lP ds[j] es[j]:=by unfold c_;rw[q1,q2]
     rw[this];have dl:=fg q1;unfold dX at hd;exact uE I (n-1) ds[j] es[j] xs1[j] xs2[j] u1 u2 A.in1 (by lia) (by show A.units+1+(n-1)<YV;lia) (hr1.get q1 e1) (eV.get q2 e2) w1 w2
    have q:=SeqAt.RcNeAt.tuples (A:=A) p1 p2 cN he;rw[l1,l2,fE] at q;unfold lP;exact q
   |lst es=>
    unfold aM at h2;obtain⟨a2,xs2,rfl,bT,eV⟩:=h2;cases r2;obtain⟨its2,rv2,p2,jw⟩:=I.list bT;exact SeqAt.RcNeAt.tuple_list p1 p2.isList cN
  |lst ds=>
   unfold aM at h1;obtain⟨a1,xs1,rfl,lL,hr1⟩:=h1;cases r1;obtain⟨its1,rv1,p1,hz1⟩:=I.list lL;cases d2 with
   |non=>
    unfold aM at h2;subst h2;cases r2;exact SeqAt.RcNeAt.list_none p1.isList cN
   |bl b2=>
    unfold aM at h2;subst h2;cases r2;exact SeqAt.RcNeAt.list_bool b2 p1.isList cN
   |int b2=>
    unfold aM at h2;subst h2;obtain⟨t2,rfl⟩:=r2;exact SeqAt.RcNeAt.list_int b2 t2 p1.isList cN
   |str b2=>
    unfold aM at h2;subst h2;obtain⟨t2,rfl⟩:=r2;exact SeqAt.RcNeAt.list_str b2 t2 p1.isList cN
   |tup es=>
    unfold aM at h2;obtain⟨a2,xs2,rfl,bT,eV⟩:=h2;cases r2;obtain⟨its2,rv2,p2,jw⟩:=I.tuple bT;exact SeqAt.RcNeAt.list_tuple p1.isList p2 cN
   |lst es=>
    unfold aM at h2;obtain⟨a2,xs2,rfl,bT,eV⟩:=h2;cases r2;obtain⟨its2,rv2,p2,jw⟩:=I.list bT;have l1:its1.toArray.size=ds.length:=by rw[WK,←rv1.length,hr1.length]
    have l2:its2.toArray.size=es.length:=by rw[WK,←rv2.length,eV.length]
    have k1:xs1.length=ds.length:=hr1.length.symm;have k2:xs2.length=es.length:=eV.length.symm;have he:∀j (h1:j<its1.toArray.size) (h2:j<its2.toArray.size),aaK A.in1 s its1.toArray[j] its2.toArray[j] (c_ ds es j):=λj g1 g2=>by
     have q1:ds[j]? = some ds[j]:=Wz (by lia);have q2:es[j]? = some es[j]:=Wz (by lia);have e1:xs1[j]? = some xs1[j]:=Wz (by lia);have e2:xs2[j]? = some xs2[j]:=Wz (by lia);obtain⟨u1,z1,w1⟩:=rv1.get e1;obtain⟨u2,z2,w2⟩:=rv2.get e2;have y1:its1.toArray[j]=u1:=by
      obtain⟨_,q⟩:=WL.mp z1;simpa using q
     have y2:its2.toArray[j]=u2:=by
      obtain⟨_,q⟩:=WL.mp z2;simpa using q
     rw[y1,y2];have:c_ ds es j=lP ds[j] es[j]:=by unfold c_;rw[q1,q2]
     rw[this];have dl:=fg q1;unfold dX at hd;exact uE I (n-1) ds[j] es[j] xs1[j] xs2[j] u1 u2 A.in1 (by lia) (by show A.units+1+(n-1)<YV;lia) (hr1.get q1 e1) (eV.get q2 e2) w1 w2
    unfold lP;by_cases hl:ds.length=es.length
    ·have q:=SeqAt.RcNeAt.lists (A:=A) p1.isList p2.isList (by rw[l1,l2,hl]) cN he;rw[l1] at q;have z:=fE ds es;rw[hl,acd,beq_self_eq_true,Bool.and_true] at z;rw[hl,z] at q;exact q
    ·rw[p_ hl];exact SeqAt.RcNeAt.lists_lengths (A:=A) p1.isList p2.isList (by rw[l1,l2];simpa using hl) cN
def LD (K:WH)(f:Bool->Bool):R2:=λx y H Q=>∃d1 d2,aM K H d1 x/\aM K H d2 y/\dX d1<=30/\Q (.bl (f (lP d1 d2))) H
theorem RN (hu:X.A.units+64<YV):lM X (Z7 .Eq) (LD X.K id):=by
 intro pins s σ H x y v u Q I rx ry h;obtain⟨d1,d2,h1,h2,hd,q⟩:=h;exact LC I 30 d1 d2 x y v u X.A hd (by lia) h1 h2 rx ry X.prog X.w X.xe _ ⟨.bl _,H,I,rfl,q⟩
theorem LF (hu:X.A.units+64<YV):lM X (Z7 .NotEq) (LD X.K not):=by
 intro pins s σ H x y v u Q I rx ry h;obtain⟨d1,d2,h1,h2,hd,q⟩:=h;exact DY I 30 d1 d2 x y v u X.A hd (by lia) h1 h2 rx ry X.prog X.w X.xe _ ⟨.bl _,H,I,rfl,q⟩
end L2
namespace L2
noncomputable def d8 (n m:String):Bool:=(n==m)||(n=="bool"&&m=="int")
theorem DZ (K:WH){n m:String}(hn:n∈["NoneType","bool","int","str","list","tuple","dict"])(hm:m∈["bool","int","str","list","tuple","dict"]) :
  PySem.W.kitOne K (.type n) (.type m)=some (d8 n m):=by
 simp only[WV,Y1,or_false] at hn hm;rcases hn with rfl|rfl|rfl|rfl|rfl|rfl|rfl<;>rcases hm with rfl|rfl|rfl|rfl|rfl|rfl<;>kernel_rfl
inductive sf (K:WH)(H:Hp):V->String->Prop where
 |non:sf K H .non "NoneType"
 |bl (x:Bool):sf K H (.bl x) "bool"
 |int (i:Int):sf K H (.int i) "int"
 |str (x:Str):sf K H (.str x) "str"
 |lst {a:W7} {xs:List V} (e:H a=some (.lst xs)):sf K H (.ref a) "list"
 |frz {a:W7} {o:Obj} {xs:List V} (e:H a=some (.frz o (.lst xs))):sf K H (.ref a) "list"
 |tup {a:W7} {xs:List V} (e:H a=some (.tup xs)):sf K H (.ref a) "tuple"
 |dK {a:W7} {aK:List (Key×V)} (e:H a=some (.dK aK)):sf K H (.ref a) "dict"
 |dT {a:W7} {aK:List (List Key×V)} (e:H a=some (.dT aK)):sf K H (.ref a) "dict"
theorem sf.mem {x:V}{n:String}(h:sf K H x n):n∈["NoneType","bool","int","str","list","tuple","dict"]:=by
 cases h<;>simp
theorem sf.ty {x:V}{n:String}(h:sf K H x n):mV K H x (.type n):=by
 cases h with
 |non=>exact .non
 |bl=>exact .bl _
 |int=>exact .int _
 |str=>exact .str _
 |lst e=>exact .lst e
 |frz e=>exact .frz e
 |tup e=>exact .tup e
 |dK e=>exact .dK e
 |dT e=>exact .dT e
theorem wj {m:String}(hm:m∈["bool","int","str","list","tuple","dict"]):dE X (.builtin "isinstance") (λxs H Q=>∃x n,xs=[x,.ty m]/\sf X.K H x n/\Q (.bl (d8 n m)) H):=by
 intro pins s σ H xs us Q I r h;obtain⟨x,n,rfl,ty,q⟩:=h;obtain⟨u,w',rfl,rx,rt⟩:=v5 r;cases rt;exact B6 I rx ty.ty (DZ X.K ty.mem hm) λtk=>⟨.bl _,H,I.tok tk,rfl,q⟩
theorem nP:dE X (.type "range") (λxs H Q=>∃j,xs=[.int j]/\∀p,H p=none->Q (.ref p) (bV H p (.rng 0 j))):=by
 intro pins s σ H xs us Q I r h;obtain⟨j,rfl,q⟩:=h;obtain⟨u,rfl,rx⟩:=iM r;obtain⟨t,rfl⟩:=rx;refine call_range_1 ⟨.ref s.heap.objs.size,bV H s.heap.objs.size (.rng 0 j),I.laid (λb u e=>WC _ e) (WR _) ?_,rfl,q _ (I.hok.fresh (WR _))⟩;exact⟨_,_,_,WQ _ rfl⟩
theorem qc {a:Int}{bz:Array WM}(h:ItemsOf (λi v=>∃t,v=Value.int (a+i*1) t) bz n):aQ ((Xo n).map λi=>V.int (a+(i:Nat))) bz.toList:=by
 obtain⟨hs,hi⟩:=h;have gen:∀(l:List WM) (k:Nat),(∀(i:Nat) v,l[i]? = some v->∃t,v=Value.int (a+((k+i:Nat):Int)*1) t)->aQ ((List.range' k l.length).map λi=>V.int (a+(i:Nat))) l:=by
  intro l
  induction l with
  |nil=>intro k _;exact .nil
  |cons v r ih=>
   intro k hk;rw[WT,List.range'_succ,WD];refine .cons ?_ (ih (k+1) λi v e=>?_)
   ·obtain⟨t,e⟩:=hk 0 v rfl;exact⟨t,by rw[e];simp⟩
   ·obtain⟨t,e'⟩:=hk (i+1) v (by simpa using e);refine⟨t,?_⟩;rw[e',show k+(i+1)=k+1+i by lia]
 have q:=gen bz.toList 0 (λi v e=>by
  obtain⟨t,e'⟩:=hi i v (by simpa using e);exact⟨t,by rw[e',Zs]⟩)
 rw[WO,hs] at q;rw[List.range_eq_range'];exact q
theorem sh (hc:X.calm=true):dE X (.type "list") (λxs H Q=>∃p lo hi,xs=[.ref p]/\H p=some (.rng lo hi)/\(-(2 ^ 62)<=lo/\lo<2 ^ 62/\ -(2 ^ 62)<=hi/\hi<2 ^ 62)/\(hi-lo).toNat<=2 ^ 20/\
  ∀l,H l=none->Q (.ref l) (bV H l (.lst ((Xo (hi-lo).toNat).map λi=>V.int (lo+(i:Nat)))))):=by
 intro pins s σ H xs us Q I r h;obtain⟨p,lo,hi,rfl,hp,⟨h1,h2,h3,h4⟩,hz,q⟩:=h;obtain⟨u,rfl,rx⟩:=iM r;cases rx;obtain⟨t,u,v,e⟩:=I.hok p _ hp;refine call_list_range (n:=(hi-lo).toNat) (I.ok.hd hc) (c:=1) (show IsRange s.heap p lo hi 1 t u v from e) (small_one h1 h2 h3 h4) (by rw[rangeSize_one];split<;>lia) (by lia) λh' tk Nu c' hk Nv pD=>?_;have hl:((Xo (hi-lo).toNat).map λi=>V.int (lo+(i:Nat))).length<=WJ:=by
  rw[WA,XJ,YI];lia
 refine⟨.ref s.heap.objs.size,_,I.laid hk (WR _) (show bu X.prog X.w _ _ _ (.lst _) from ⟨hl,Nu.toList,c',qc pD,by simpa using Nv⟩),rfl,q _ (I.hok.fresh (WR _))⟩
def D0 (i j:Int):Prop:=0<j/\j<18446744073709551616
theorem yN (h:n<18446744073709551616):n.log2<9000:=by
 by_cases h0:n=0
 ·subst h0;decide
 ·have:=(Nat.log2_lt h0 (k:=64)).mpr (by lia);lia
theorem dw:lM X (aax .FloorDiv) (rI D0 λi j=>.int (i / j)):=QJ λi j _ _ _ _ _ hc q=>by
 refine floordiv_int (by have:=hc.1;lia) ?_ (.inl (PyProof.noPylong_of_log2 (yN (by have:=hc.1;have:=hc.2;lia))));rw[Int.fdiv_eq_ediv_of_nonneg _ (by have:=hc.1;lia)];exact q
theorem lZ:XB "list"=some (.type "list"):=by decide+kernel
theorem cU:XB "tuple"=some (.type "tuple"):=by decide+kernel
theorem Aq:XB "bool"=some (.type "bool"):=by decide+kernel
theorem wm:XB "range"=some (.type "range"):=by decide+kernel
theorem kW:XB "len"=some (.builtin "len"):=by decide+kernel
theorem LG:XB "max"=some (.builtin "max"):=by decide+kernel
theorem D3:XB "min"=some (.builtin "min"):=by decide+kernel
theorem uF:XB "abs"=some (.builtin "abs"):=by decide+kernel
theorem kI:XB "isinstance"=some (.builtin "isinstance"):=by decide+kernel
theorem mZ:XB "sorted"=some (.builtin "sorted"):=by decide+kernel
theorem LH:XB "all"=some (.builtin "all"):=by decide+kernel
theorem LJ:XB "sum"=some (.builtin "sum"):=by decide+kernel
end L2
namespace HT
open L2
section
variable {A:XD}
theorem getItem_tuple_whole {t sl:W7}{items:Array WM}{vl vu:WM}{lo:Option Int}(ht:IsTup s.heap t items)(hs:s.heap.IsSliceOf sl vl vu .none)(pl:IsPart vl lo)(pu:IsPart vu hi)(hw:sIx items.size 0 lo=0/\sIx items.size items.size hi=items.size)(h:Q (.ref t) s):W4 (Xg prog w) A (abQ (.ref t) (.ref sl)) Q E s:=by
 obtain⟨os,G0,hcs,hds⟩:=id hs;have Su:s.TypeIs (.ref sl) "slice":=⟨os,G0,hcs⟩;unfold abQ
 try with_reducible refine Yl ?_
 first|refine Wy (WB ?_)|skip
 refine Wy (wpAny_sequenceKey ht.typeIs (by decide) ?_);refine Wy (Xy (name:=YC "__getitem__") ht.typeIs YU
  (Xr YU ht.typeIs entry_tuple_getitem ?_ (args_tuple_getitem _ _)))
 show W4 _ _ (aan (.ref t) >>= _) _ _ s;refine Wy (tupleItemsOf_ ht ?_);refine Wy (abv Su ?_);rw[hZ (by decide)];refine Wy (iN hs pl pu ?_);obtain⟨w1,w2⟩:=hw;rw[w1,w2];show W4 _ _ (if (((0:Nat):Int)==0&&(1:Int)==1&&(items.size-0)==items.size)=true then _ else _) _ _ s;rw[hZ (by simp)];have GR:W4 (Xg prog w) A.in1 (ab2 (.ref t)) (λb s'=>b=true/\s'=s) E s:=by
  unfold ab2;exact Wy (abv ht.typeIs (WB ⟨by decide,rfl⟩))
 refine Wy (Yc GR (λb s' hb=>?_) λ_ _ e=>e);obtain⟨rfl,rfl⟩:=hb;rw[hZ rfl];exact Wy (Y_ (WB ⟨_,rfl,WB h⟩))
end
end HT
namespace L2
theorem qd (h:H p=none)(o:HO):aG H (bV H p o):=λb u q=>by rw[aS (bA q h)];exact q
section
open AutoSeq1 (wpAny_loadPart')
theorem ky {A:XD}{Q:List WM->WY->Prop}{r:W7}{a b c:Int}{t u v:Tok}(hh:A.handled=none)(hr:IsRange s.heap r a b c t u v)(Aa:Builtin.Range.small a b c=true)(hn:aaO a b c=n)(cJ:n<=2 ^ 24)(hQ:∀h' tk (bz:Array WM),(∀b o',s.heap.get? b=some o'->h'.get? b=some o')->ItemsOf (λi v=>∃t,v=.int (a+i*c) t) bz n->Q bz.toList {s with heap:=h',toks:=tk}) :
  W4 (Xg prog w) A (collect (.ref r)) Q E s:=by
 unfold collect;refine Wy (wpAny_runValue (Zf F.entry_proto_collect ?_));rw[YQ F.plain_proto_collect _];show W4 _ A.in1 (newList [] >>= λl=>again (.builtin "list.__iadd__" ⟨[l,.ref r],[]⟩)) _ _ s;refine Wy (Xk ?_);refine WB ⟨plainId_quiet F.plain_list_iadd _,Zf F.entry_list_iadd ?_⟩;rw[YQ F.plain_list_iadd _];have hS:(s.heap.push {cls:=.type "list",data:=.seq ([]:List WM).toArray}).get? s.heap.objs.size=some {cls:=.type "list",data:=.seq #[] 0}:=WQ _ rfl;show W4 _ A.in1 (abT (.ref s.heap.objs.size) (.ref r) (.ref s.heap.objs.size)) _ _ _;refine Yc (wpAny_extend_range (A:=A) (R:=λres s'=>res=.ok (.ret (.ref s.heap.objs.size))/\W4 (Xg prog w) A (load s.heap.objs.size >>= λo=>match o.data with|.seq xs _=>pure xs.toList|_=>aaC "internal:collect") Q E s')
  hh (WC _ hr) Aa hn cJ s.heap.objs.size _ 0 hS λh' tk Nu c' hk Nv pD=>⟨rfl,?_⟩) (λfin s' h=>?_) λe s' h=>absurd h.1 (by simp)
 ·refine Wy (wpAny_load Nv (WB ?_));exact hQ h' tk Nu (λb o' hb=>hk b o' (Xj (WX hb)) (WC _ hb)) pD
 ·cases fin with
  |done f=>
   obtain⟨e,q⟩:=h;cases e;exact q
  |again c'=>exact⟨h.1,abt h.2 λr NU hr=>by obtain⟨rfl,q⟩:=hr;exact q⟩
theorem jr (l:W7)(a b c:Int)(t u v:Tok)(n:Nat)(Aa:Builtin.Range.small a b c=true)(hn:aaO a b c=n)(cJ:n<=2 ^ 20) :
  Meets (Builtin.«tuple.__new__» ⟨[.type "tuple",.ref l],[]⟩)
   (λA R s=>A.handled=none/\IsRange s.heap l a b c t u v/\∀(h':ZG) (tk:Nat) (bz:Array WM),(∀b o',s.heap.get? b=some o'->h'.get? b=some o')->ItemsOf (λi v=>∃t,v=.int (a+i*c) t) bz n->
    R (.ok (.ret (.ref h'.objs.size))) {s with heap:=h'.push {cls:=.type "tuple",data:=.seq bz},toks:=tk}):=
 .of_wp λprog w A R s h=>by
  obtain⟨hp,g,d,tk,os⟩:=s;obtain⟨hh,ht,h⟩:=h;have U7:=sub_tuple_self;have Uc:=init_tuple_lookup;have Wf:=madeHere_tuple;have hT:Shared.TypeIs ⟨hp,g,d,tk,os⟩ (.ref l) "range":=⟨_,ht,rfl⟩;wp_walk using abv hT,ky (A:=A.in1) hh ht Aa hn (by lia);intro h' SM bz hk pD;show W4 _ _ (YD bz.toList.toArray >>= λv=>ret v) _ _ _;unfold YD;refine Wy (Xk ?_ (by show bz.toList.toArray.size<=WJ;rw[YI];simp;have:=pD.1;lia));refine WB ⟨_,rfl,?_⟩;have e:bz.toList.toArray=bz:=by simp
  rw[e];exact h h' SM bz hk pD
theorem qe (hc:X.calm=true):dE X (.type "tuple") (λxs H Q=>∃p lo hi,xs=[.ref p]/\H p=some (.rng lo hi)/\(-(2 ^ 62)<=lo/\lo<2 ^ 62/\ -(2 ^ 62)<=hi/\hi<2 ^ 62)/\(hi-lo).toNat<=2 ^ 20/\
  ∀l,H l=none->Q (.ref l) (bV H l (.tup ((Xo (hi-lo).toNat).map λi=>V.int (lo+(i:Nat)))))):=by
 intro pins s σ H xs us Q I r h;obtain⟨p,lo,hi,rfl,hp,⟨h1,h2,h3,h4⟩,hz,q⟩:=h;obtain⟨u,rfl,rx⟩:=iM r;cases rx;obtain⟨t,u,v,e⟩:=I.hok p _ hp;refine callType_new F.called_tuple (by decide) (F.typeCall_tuple_1 _) (F.newCall_tuple_1 _) (λobj=>F.args_object_init_2 obj _) F.entry_tuple_new
  (jr p lo hi 1 t u v (hi-lo).toNat (small_one h1 h2 h3 h4) (by rw[rangeSize_one];split<;>lia) hz) ⟨I.ok.hd hc,e,λh' tk bz hk pD=>⟨⟨_,WQ _ rfl,rfl⟩,?_⟩⟩
 have hl:((Xo (hi-lo).toNat).map λi=>V.int (lo+(i:Nat))).length<=WJ:=by
  rw[WA,XJ,YI];lia
 have I1:az X pins σ H {s with heap:=h',toks:=tk}:=I.kept hk;refine⟨.ref h'.objs.size,_,I1.laid (t':=tk) (λb o e=>WC _ e) (WR _) (show bu X.prog X.w _ _ _ (.tup _) from ⟨hl,bz.toList,qc pD,by simpa using IsTup.new h' bz,0,by simpa using WQ h' rfl⟩),rfl,q _ (I1.hok.fresh (WR _))⟩
end
end L2
namespace HT
open L2
end HT
namespace L2
def wq:V->List V->Hp->VK->Prop:=λx vs H Q=>∃l b xs zs,x=.ref l/\vs=[.ref b]/\H l=some (.lst xs)/\H b=some (.tup zs)/\xs.length+zs.length<=WJ/\Q .non (bV H l (.lst (xs++zs)))
theorem yO:OB X "list.extend" wq:=by
 intro pins s σ H x vs v us Q I rx rv h;obtain⟨l,b,xs,zs,rfl,rfl,hH,hB,hz,q⟩:=h;cases rx;obtain⟨u,rfl,ru⟩:=rv.one;cases ru;obtain⟨z,ao,n,r,hl,e⟩:=I.lstM hH;obtain⟨z2,its2,r2,_,n2,e2⟩:=I.hok b _ hB;have Dd:=r2.length;have hsz:ao.toArray.size+its2.toArray.size<=WJ:=by rw[WK,WK];lia
 have GD:¬(!ao.toArray.isEmpty&&ZL (ao.toArray.size+its2.toArray.size))=true:=by
  rw[v9 hsz,abo];exact WE
 refine acx F.slot_list_extend ⟨_,e,rfl⟩ F.entry_list_extend (F.args_list_extend_2 _ _)
  (AutoSeq1.list_extend_list_tuple_0 l ao.toArray n b its2.toArray n2 GD (by rw[WK];lia) (by lia)) ⟨e,e2,?_⟩
 refine⟨.non,_,I.lset (its':=ao++its2) hH e (by simp) (r.append r2) ?_,rfl,q⟩;rw[WN];lia
theorem uG:dE X (.builtin "sorted") (λxs H Q=>∃(p:W7) (ns:List Int),xs=[.ref p]/\(eF X.K H p (ns.map V.int)\/fQ X.K H p (ns.map V.int))/\ns.length<64/\
  ∀(l:W7) (ur:List Int),H l=none->ur.Perm ns->ur.Pairwise (·<=·)->Q (.ref l) (bV H l (.lst (ur.map V.int)))):=by
 intro pins s σ H xs us Q I r h;obtain⟨p,ns,rfl,hq,h64,q⟩:=h;obtain⟨u,rfl,rx⟩:=iM r;cases rx;have Qq:∃(T:String) (o:Obj) (ao:List WM) (n:Nat),(T="list"\/T="tuple")/\s.heap.get? p=some o/\o.cls=.type T/\o.data=.seq ao.toArray n/\abc ao ns:=by
  rcases hq with hq|hq
  ·obtain⟨ao,rv,pl,hz⟩:=I.list hq;obtain⟨o,e,c,n,d⟩:=pl.isList;exact⟨"list",o,ao,n,.inl rfl,e,c,d,gz rv⟩
  ·obtain⟨ao,rv,pl,hz⟩:=I.tuple hq;obtain⟨o,e,c,n,d⟩:=pl;exact⟨"tuple",o,ao,n,.inr rfl,e,c,d,gz rv⟩
 obtain⟨T,o,ao,n,hT,ho,hc,hd,hI⟩:=Qq;have cJ:ao.length=ns.length:=hI.length;refine ack kind_sorted plain_sorted entry_sorted (args_sorted1 _) ?_;unfold Builtin.«sorted»;refine Wy (m:=checkCount "sorted" 1 1 _) (WB ?_);refine Wy (acB p hT ho hc hd (λh1 k1=>?_) (by rw[WK,YI];lia));refine Wy (wpAny_newList ?_);have Nw:(h1.push (ace "list" ao.toArray 0)).get? h1.objs.size=some (ace "list" ao.toArray 0):=WQ _ rfl;have Ny:(h1.push {cls:=.type "list",data:=.seq (ao.toArray.toList).toArray}).get? h1.objs.size=some (ace "list" ao.toArray 0):=by simpa using Nw
 refine Wy (Yl (Xr slot_list_sort ⟨_,Ny,rfl⟩ entry_list_sort (list_sort_tree Ny hI (by lia) λout ur a1 a2 a3=>⟨_,rfl,?_⟩) (args_list_sort _)));refine WB ⟨_,rfl,?_⟩;obtain⟨e,he⟩:=sortedHeap_at (out:=out) Ny;have keep:∀b o,h1.get? b=some o->(sortedHeap (h1.push {cls:=.type "list",data:=.seq (ao.toArray.toList).toArray}) h1.objs.size ao out).get? b=some o:=λb o e=>by
  have hb:=WX e;rw[sortedHeap_old (Xj hb) (by rw[YW];exact aaj hb)];exact WC _ e
 have I1:az X pins σ H {s with heap:=h1}:=I.kept (t':=s.toks) k1;have Dd:(ur.map V.int).length<=WJ:=by rw[WA,a2.length_eq,YI];lia
 exact⟨.ref h1.objs.size,_,I1.laid (t':=s.toks) keep (WR _) (show bu X.prog X.w _ _ _ (.lst _) from ⟨Dd,out.toList,e,mW a1,by simpa using he⟩),rfl,q _ ur (I1.hok.fresh (WR _)) a2 a3⟩
theorem Cc {bs:List Bool}{us:List WM}(r:aQ (bs.map V.bl) us){v:WM}(h:us[i]? = some v):v=.bool (bs.getD i true):=by
 have hl:=r.length;rw[WA] at hl;obtain⟨hi,_⟩:=WL.mp h;have e:(bs.map V.bl)[i]? = some (V.bl (bs.getD i true)):=by
  rw[W3,Wz (by lia)];simp[abw,Wz (show i<bs.length by lia)]
 obtain⟨u,hu,ru⟩:=r.get e;rw[h] at hu;cases hu;exact ru
theorem Cd (bs:List Bool):((Xo bs.length).all λi=>bs.getD i true)=bs.all id:=by
 induction bs with
 |nil=>rfl
 |cons b bs ih=>
  rw[WT,List.range_succ_eq_map,Zr,List.all_map,Zr];congr 1
theorem Ce (hc:X.calm=true):dE X (.builtin "all") (λxs H Q=>∃(p:W7) (bs:List Bool),xs=[.ref p]/\eF X.K H p (bs.map V.bl)/\Q (.bl (bs.all id)) H):=by
 intro pins s σ H xs us Q I r h;obtain⟨p,bs,rfl,hq,q⟩:=h;obtain⟨u,rfl,rx⟩:=iM r;cases rx;obtain⟨ao,rv,pl,hz⟩:=I.list hq;have hl:=pl.isList;have sP:p<s.heap.objs.size:=by obtain⟨_,e,_⟩:=hl;exact WX e
 refine call_all_walk (aa_ hl ?_);refine⟨s.heap.objs.size,_,_,_,_,_,λi=>bs.getD i true,rfl,Walks.list (A:=X.A.in1) (I.ok.hd hc) _ p (Xj sP) ao.toArray,⟨⟨_,WQ _ rfl,rfl,rfl⟩,hl.push _⟩,?_,λh' tk hk=>?_⟩
 ·intro i v s' Q' E' hP U8;have e:=Cc rv (i:=i) (v:=v) (by simpa using hP);subst e;exact ZJ U8
 ·have e:(Xo ao.toArray.size).all (λi=>bs.getD i true)=bs.all id:=by
   rw[WK,←rv.length,WA];exact Cd bs
  rw[e];refine⟨.bl _,H,I.kept λb o e=>hk b o (λhm=>?_) (WC _ e),rfl,q⟩;rcases WV.mp hm with e1|hm
  ·exact absurd (e1▸WX e) (YH _)
  ·cases hm
def D4 (K:WH):V->Option Int->Option Int->Hp->VK->Prop:=λx lo hi H Q=>∃a xs,x=.ref a/\H a=some (.tup xs)/\∀r H',aG H H'->H' r=some (.tup (p9 xs lo hi))->Q (.ref r) H'
theorem Hu:DB X (D4 X.K):=by
 have base:DB X (Ot X.K):=Ls;intro pins s σ H x v vl vu lo hi sl Q I rx hs pl pu h;obtain⟨a,xs,rfl,oQ,q⟩:=h;have hx:fQ X.K H a xs:=fQ.of oQ;by_cases hw:HT.sIx xs.length 0 lo=0/\HT.sIx xs.length xs.length hi=xs.length
 ·cases rx;obtain⟨ao,r,ht,hz⟩:=I.tuple hx;have hl:ao.toArray.size=xs.length:=by rw[WK,r.length]
  refine⟨"tuple",_,PyProof.Rows.slot_tuple_getitem.lookup,ht.typeIs,HT.getItem_tuple_whole ht hs pl pu (by rw[hl];exact hw) ⟨.ref a,H,I,rfl,q a H (aG.refl _) ?_⟩⟩;have e:p9 xs lo hi=xs:=by unfold p9;rw[hw.1,hw.2];simp
  rw[e];exact oQ
 ·exact base pins s σ H _ v vl vu lo hi sl Q I rx hs pl pu ⟨a,xs,rfl,hx,hw,λp hp=>q p _ (qd hp _) ba⟩
def D5:R2:=λx y H Q=>∃a b xs ys,x=.ref a/\y=.ref b/\H a=some (.tup xs)/\H b=some (.tup ys)/\xs.length+ys.length<=WJ/\∀r H',aG H H'->H' r=some (.tup (xs++ys))->Q (.ref r) H'
theorem D6:lM X (aax .Add) D5:=by
 intro pins s σ H x y v u Q I rx ry h;obtain⟨a,b,xs,ys,rfl,rfl,Ac,pZ,hz,q⟩:=h;have ha:fQ X.K H a xs:=fQ.of Ac;have hb:fQ X.K H b ys:=fQ.of pZ;by_cases hx:xs=[]
 ·subst hx;cases rx;cases ry;obtain⟨ao,r1,p1,_⟩:=I.tuple ha;obtain⟨its2,r2,p2,_⟩:=I.tuple hb;have e1:ao=[]:=(aQ.nil_iff r1).mpr rfl;subst e1;obtain⟨⟨cls,dd,data,sl⟩,ho,hc,n,hd⟩:=id p1;obtain⟨⟨cls2,dd2,data2,sl2⟩,ho2,hc2,n2,BU⟩:=id p2;simp only at hc hd hc2 BU;subst hc hd hc2 BU;exact concat_meets ⟨_,ho,rfl⟩ ⟨_,ho2,rfl⟩ noFill_tuple_add seq_tuple_add aa6 aaQ (aaJ _ _)
   (tuple_addW0 a b ([]:List WM).toArray its2.toArray n n2 dd dd2 sl sl2 (by simp)) ⟨ho,ho2,⟨.ref b,H,I,rfl,q b H (aG.refl _) (by simpa using pZ)⟩⟩
 ·refine Hk pins s σ H _ _ v u Q I rx ry ⟨a,b,xs,ys,rfl,rfl,ha,hb,hx,hz,λe=>?_,λ_ p hp=>q p _ (qd hp _) ba⟩;subst e;exact q a H (aG.refl _) (by simpa using Ac)
end L2
namespace L2
structure Fn (P:ZI)(w:Z1)(K:WH)(mg:Str->Option WM)(base:ZG)(x:Str)(k:Nat)(ps:List Str)(sp:Sp):Prop where
 ex:∃(f:W7) (fd:abI),mg x=some (.ref f)/\ZY K (.ref f)=true/\sT K fd ps []/\ku P w K mg base v_ k f fd ps sp
structure Df (K:WH)(mg:Str->Option WM)(x:Str)(st:abM):Prop where
 ex:∃(f:W7) (fd:abI),mg x=some (.ref f)/\GN K x x st f fd
section
variable {base:ZG}
theorem Df.fn (d:Df K mg x st)(S:aW N ps (ai st))(hb:∀(kV mT pm:WM) (an:Option W7) (c7 ct:WM) (us:List WM),us.length=ps.length->bindArgs (YR x x (eJ st) (bZ st) (ai st) .none kV mT pm an c7 ct) ⟨us,[]⟩=pure (ps.zip us))(len:∀vs H Q E,sp vs H Q E->vs.length=ps.length)(gT:∀(f:W7) (c7:WM) (A:XD) (outer:List Env) (s:WY) (H:Hp) (vs:List V) (Q:VK) (E:XK),eG k (A.deeper (ab_ x (ai st) s.heap.objs.size f c7))->sp vs H Q E->
   ∃t,sd (oV v_ P w K mg base N x (ai st) f c7 A outer s H E).nox (bZ st) t/\t {nx:=λ_ H'=>Q .non H',rt:=Q} (aaN N vs) H):Fn P w K mg base x (k+1) ps sp:=by
 obtain⟨f,fd,m,F⟩:=d.ex;exact⟨f,fd,m,F.kp,F.binds hb,F.ok S len (gT f)⟩
end
section
variable {p:Pos}{e:YO}{es:List YO}{t:TA}
theorem wu (F:Fn X.prog X.w X.K X.mg X.base x k ps sp)(hr:eG k X.A)(ha:PA X (e::es) t)(hg:Gl X x:=by rfl)(z9:(x==("__debug__":Str))=false:=by decide)
  (he:W5 (e::es) X.env=(false,Z4 e X.env)::W5 es X.env:=by rfl) (oR:(Zl pos (W5 es X.env)).any (·.1)=false:=by rfl) :
  PE X (.Call (.Name x p) (e::es) [] pos) (Jt sp [] E0 t):=by
 obtain⟨f,fd,hm,hk,hb,G⟩:=F.ex;exact Hg G hr hg hm hk hb .nil OC ha z9 he oR
end
theorem aG.seqT (e:aG H H')(h:fQ K H a xs):fQ K H' a xs:=by
 rcases h with (h|⟨o,h⟩)|h
 ·exact .inl (.inl (e _ _ h))
 ·exact .inl (.inr ⟨o,e _ _ h⟩)
 ·exact .inr h
mutual
theorem aG.rep {K:WH}{H H':Hp}(e:aG H H'):∀{d:D} {v:V},aM K H d v->aM K H' d v
 | .non,v,h=>by unfold aM at h ⊢;exact h
 | .bl b,v,h=>by unfold aM at h ⊢;exact h
 | .int b,v,h=>by unfold aM at h ⊢;exact h
 | .str b,v,h=>by unfold aM at h ⊢;exact h
 | .tup ds,v,h=>by
  unfold aM at h ⊢;obtain⟨a,xs,r,q,z⟩:=h;exact⟨a,xs,r,e.seqT q,aG.reps e z⟩
 | .lst ds,v,h=>by
  unfold aM at h ⊢;obtain⟨a,xs,r,q,z⟩:=h;exact⟨a,xs,r,e.seq q,aG.reps e z⟩
theorem aG.reps {K:WH}{H H':Hp}(e:aG H H'):∀{ds:List D} {vs:List V},fD K H ds vs->fD K H' ds vs
 | [],vs,h=>by unfold fD at h ⊢;exact h
 |d::ds,vs,h=>by
  unfold fD at h ⊢;obtain⟨x,r,q,p,z⟩:=h;exact⟨x,r,q,aG.rep e p,aG.reps e z⟩
end
end L2
namespace L2
inductive U where
 |non|bl (b:Bool)|int (i:Int)|str (x:Str)|tup (xs:List U)|lst (xs:List U)|dct (ks vs:List U)|scr (xs:List U)
instance:Inhabited U:=⟨.non⟩
inductive R (α:Type) where
 |ok (a:α)|exc (c:String) (u:U)|stk
noncomputable def R.bind {α β:Type}:R α->(α->R β)->R β
 | .ok a,f=>f a
 | .exc c u,_=>.exc c u
 | .stk,_=>.stk
noncomputable abbrev Ev:=List (Option U)
inductive SR where
 |nx (ρ:Ev)|rt (u:U) (ρ:Ev)|bk (ρ:Ev)|ct (ρ:Ev)|exc (c:String) (u:U)|stk
end L2
variable {us ks:List L2.U}{u s1 u':L2.U}{es:List (List L2.U×W7×L2.V)}{ρ:L2.Ev}{sg:L2.U->L2.Ev->L2.R L2.Ev}{o5:Option L2.U}
namespace L2
open Sem (wp)
mutual
noncomputable def uH:U->U->Bool
 | .non,.non=>true
 | .bl a,.bl b=>decide (a=b)
 | .int a,.int b=>decide (a=b)
 | .str a,.str b=>decide (a=b)
 | .tup a,.tup b=>m4 a b
 | .lst a,.lst b=>m4 a b
 | .dct a b,.dct c d=>m4 a c&&m4 b d
 | .scr a,.scr b=>m4 a b
 |_,_=>false
noncomputable def m4:List U->List U->Bool
 | [],[]=>true
 |x::xs,y::ys=>uH x y&&m4 xs ys
 |_,_=>false
end
mutual
theorem D7:∀{a b:U},uH a b=true->a=b
 | .non,b,h=>by cases b<;>first|rfl|(unfold uH at h;cases h)
 | .bl a,b,h=>by cases b<;>unfold uH at h<;>first|(cases h;done)|rw[of_decide_eq_true h]
 | .int a,b,h=>by cases b<;>unfold uH at h<;>first|(cases h;done)|rw[of_decide_eq_true h]
 | .str a,b,h=>by cases b<;>unfold uH at h<;>first|(cases h;done)|rw[of_decide_eq_true h]
 | .tup a,b,h=>by cases b<;>unfold uH at h<;>first|(cases h;done)|rw[j5 h]
 | .lst a,b,h=>by cases b<;>unfold uH at h<;>first|(cases h;done)|rw[j5 h]
 | .scr a,b,h=>by cases b<;>unfold uH at h<;>first|(cases h;done)|rw[j5 h]
 | .dct a c,b,h=>by
  cases b<;>unfold uH at h<;>first|(cases h;done)|skip
  rw[W6] at h;rw[j5 h.1,j5 h.2]
theorem j5:∀{a b:List U},m4 a b=true->a=b
 | [],[],_=>rfl
 | [],_::_,h=>by unfold m4 at h;cases h
 |_::_,[],h=>by unfold m4 at h;cases h
 |x::xs,y::ys,h=>by
  unfold m4 at h;rw[W6] at h;rw[D7 h.1,j5 h.2]
end
mutual
theorem wx:∀(a:U),uH a a=true
 | .non=>rfl
 | .bl a=>by unfold uH;exact hG rfl
 | .int a=>by unfold uH;exact hG rfl
 | .str a=>by unfold uH;exact hG rfl
 | .tup a=>by unfold uH;exact gm a
 | .lst a=>by unfold uH;exact gm a
 | .scr a=>by unfold uH;exact gm a
 | .dct a b=>by unfold uH;rw[gm a,gm b];rfl
theorem gm:∀(a:List U),m4 a a=true
 | []=>by unfold m4;rfl
 |x::xs=>by unfold m4;rw[wx x,gm xs];rfl
end
noncomputable instance UH:DecidableEq U:=λa b=>if h:uH a b=true then .isTrue (D7 h) else .isFalse λe=>h (by rw[e];exact wx b)
mutual
def fF (h:ZG):U->WM->Prop
 | .int i,v=>∃t,v=.int i t
 | .tup us,v=>∃a items,v=.ref a/\h.IsTuple a items/\cO h us items.toList
 |_,_=>False
def cO (h:ZG):List U->List WM->Prop
 | [],vs=>vs=[]
 |u::us,vs=>∃v r,vs=v::r/\fF h u v/\cO h us r
end
mutual
noncomputable def hK:U->Int
 | .int i=>hashInt i
 | .tup us=>reduceHash (Yw (vU us))
 |_=>0
noncomputable def vU:List U->List Int
 | []=>[]
 |u::us=>hK u::vU us
end
mutual
noncomputable def Dh:U->Nat
 | .tup us=>m6 us+1
 |_=>1
noncomputable def m6:List U->Nat
 | []=>0
 |u::us=>Dh u+m6 us
end
mutual
noncomputable def yr:U->Nat
 | .tup us=>su us+1
 |_=>0
noncomputable def su:List U->Nat
 | []=>0
 |u::us=>max (yr u) (su us)
end
theorem yP {x y:Array WM}(h1:h.IsTuple a x)(h2:h.IsTuple a y):x=y:=by
 obtain⟨o,e,_,n,d⟩:=h1;obtain⟨o',e',_,n',d'⟩:=h2;rw[e] at e';cases e';rw[d] at d';cases d';rfl
mutual
theorem fF.inj {h:ZG}:∀{x y:U} {v:WM},fF h x v->fF h y v->x=y
 | .int i,y,v,h1,h2=>by
  unfold fF at h1;obtain⟨t,rfl⟩:=h1;cases y<;>unfold fF at h2<;>first|exact h2.elim|skip
  ·obtain⟨u,e⟩:=h2;cases e;rfl
  ·obtain⟨_,_,e,_⟩:=h2;cases e
 | .str i,y,v,h1,h2=>by unfold fF at h1;exact h1.elim
 | .tup us,y,v,h1,h2=>by
  unfold fF at h1;obtain⟨a,ao,rfl,q,z⟩:=h1;cases y<;>unfold fF at h2<;>first|exact h2.elim|skip
  ·obtain⟨u,e⟩:=h2;cases e
  ·obtain⟨a',its',e,q',z'⟩:=h2;cases e;have:=yP q q';subst this;rw[cO.inj z z']
 | .non,y,v,h1,h2=>by unfold fF at h1;exact h1.elim
 | .bl _,y,v,h1,h2=>by unfold fF at h1;exact h1.elim
 | .lst _,y,v,h1,h2=>by unfold fF at h1;exact h1.elim
 | .dct _ _,y,v,h1,h2=>by unfold fF at h1;exact h1.elim
 | .scr _,y,v,h1,h2=>by unfold fF at h1;exact h1.elim
theorem cO.inj {h:ZG}:∀{x y:List U} {vs:List WM},cO h x vs->cO h y vs->x=y
 | [],y,vs,h1,h2=>by
  unfold cO at h1;subst h1;cases y with
  |nil=>rfl
  |cons=>unfold cO at h2;obtain⟨_,_,e,_⟩:=h2;cases e
 |u::us,y,vs,h1,h2=>by
  unfold cO at h1;obtain⟨v,r,rfl,p,q⟩:=h1;cases y with
  |nil=>unfold cO at h2;cases h2
  |cons=>
   unfold cO at h2;obtain⟨v',r',e,p',q'⟩:=h2;cases e;rw[fF.inj p p',cO.inj q q']
end
mutual
theorem fF.keep {h h':ZG}(k:∀a ao,h.IsTuple a ao->h'.IsTuple a ao):∀{x:U} {v:WM},fF h x v->fF h' x v
 | .int i,v,h1=>by unfold fF at h1 ⊢;exact h1
 | .str i,v,h1=>by unfold fF at h1;exact h1.elim
 | .tup us,v,h1=>by
  unfold fF at h1 ⊢;obtain⟨a,ao,e,q,z⟩:=h1;exact⟨a,ao,e,k a ao q,cO.keep k z⟩
 | .non,v,h1=>by unfold fF at h1;exact h1.elim
 | .bl _,v,h1=>by unfold fF at h1;exact h1.elim
 | .lst _,v,h1=>by unfold fF at h1;exact h1.elim
 | .dct _ _,v,h1=>by unfold fF at h1;exact h1.elim
 | .scr _,v,h1=>by unfold fF at h1;exact h1.elim
theorem cO.keep {h h':ZG}(k:∀a ao,h.IsTuple a ao->h'.IsTuple a ao):∀{x:List U} {vs:List WM},cO h x vs->cO h' x vs
 | [],vs,h1=>by unfold cO at h1 ⊢;exact h1
 |u::us,vs,h1=>by
  unfold cO at h1 ⊢;obtain⟨v,r,e,p,q⟩:=h1;exact⟨v,r,e,fF.keep k p,cO.keep k q⟩
end
theorem cO.length {h:ZG}:∀{us:List U} {vs:List WM},cO h us vs->us.length=vs.length
 | [],vs,h1=>by unfold cO at h1;subst h1;rfl
 |u::us,vs,h1=>by
  unfold cO at h1;obtain⟨v,r,rfl,p,q⟩:=h1;rw[WT,WT,cO.length q]
theorem cO.get {h:ZG}:∀{us:List U} {vs:List WM} {i:Nat} {u:U} {v:WM},cO h us vs->us[i]? = some u->vs[i]? = some v->fF h u v
 | [],_,_,_,_,_,e,_=>by simp at e
 |w::us,_,i,u,v,h,e1,e2=>by
  unfold cO at h;obtain⟨x,r,rfl,p,q⟩:=h;cases i with
  |zero=>simp at e1 e2;subst e1 e2;exact p
  |succ i=>exact cO.get q (by simpa using e1) (by simpa using e2)
theorem l0:∀{us:List U} {i:Nat} {u:U},us[i]? = some u->yr u<=su us
 | [],_,_,e=>by simp at e
 |w::us,i,u,e=>by
  unfold su;cases i with
  |zero=>simp at e;subst e;exact Nat.le_max_left _ _
  |succ i=>exact XC (l0 (us:=us) (by simpa using e)) (Nat.le_max_right _ _)
theorem qf:∀(a b:List U),vU (a++b)=vU a++vU b
 | [],b=>by unfold vU;rfl
 |x::a,b=>by rw[aaz,vU,vU,qf a b];rfl
theorem nQ:∀(a b:List U),m6 (a++b)=m6 a+m6 b
 | [],b=>by rw[YJ];show _=0+_;lia
 |x::a,b=>by rw[aaz,m6,m6,nQ a b];lia
theorem LK:∀(n:Nat) (u:U) (v:WM) (A:XD) (E:WM->WY->Prop) (s:WY) (Q:Int->WY->Prop),yr u<=n->A.units+n<YV->fF s.heap u v->Q (hK u) {s with toks:=s.toks+Dh u} ->
  W4 (Xg prog w) A (pyHash v) Q E s:=by
 intro n
 induction n with
 |zero=>
  intro u v A E s Q hd hu hk h;cases u<;>unfold fF at hk<;>first|exact hk.elim|skip
  ·obtain⟨t,rfl⟩:=hk;unfold hK Dh at h;exact wpAny_pyHash_int h
  ·unfold yr at hd;lia
 |succ n ih=>
  intro u v A E s Q hd hu hk h;cases u<;>unfold fF at hk<;>first|exact hk.elim|skip
  ·obtain⟨t,rfl⟩:=hk;unfold hK Dh at h;exact wpAny_pyHash_int h
  ·rename_i us;unfold yr at hd;obtain⟨a,items,rfl,ht,hi⟩:=hk;have hT:s.TypeIs (.ref a) "tuple":=let ⟨o,e,c,_⟩:=ht;⟨o,e,c⟩
   obtain⟨o,ho,_,nn,hdat⟩:=ht;unfold pyHash
   first|unfold pyHashByItsType|skip
   first|refine Wy (wpAny_cRoomFor_or (.inr (by lia)) ?_)|skip
   refine Wy (Z9 hT F.slot_tuple_hash.lookup ?_);show W4 _ _ (if (some (Value.builtin "tuple.__hash__")==some Value.none)=true then _ else _) Q E s;rw[hV (by rw[beq_builtin_none];exact WE)];refine Wy (Z9 hT F.slot_tuple_hash.lookup ?_);show W4 _ _ (callSpecialIfBoundUnlessNone? (.ref a) "__hash__" _ >>= _) Q E s;refine Wy (wpAny_callSpecialIfBoundUnlessNone?_slot hT F.slot_tuple_hash (Xr F.slot_tuple_hash hT F.entry_tuple_hash ?_ (F.args_tuple_hash_1 _)));show W4 _ _ (aan (.ref a) >>= _) _ _ s;refine Wy (wpAny_tupleItemsOf ho hdat ?_);refine Wy ?_;rw[←acf];refine wpAny_forIn_list _
    (λrest (b:Array Int) s'=>∃done left,us=done++left/\cO s.heap left rest/\b.toList=vU done/\s'={s with toks:=s.toks+m6 done})
    _ ?_ ?_ _ _ ⟨[],us,rfl,hi,by unfold vU;rfl,by unfold m6;rfl⟩
   ·rintro x rest b s' ⟨done,left,rfl,hl,hb,rfl⟩;cases left with
    |nil=>unfold cO at hl;cases hl
    |cons k ks'=>
     unfold cO at hl;obtain⟨v',r',e,h1,hl'⟩:=hl;cases e;have SN:yr k<=n:=by
      have:=l0 (us:=done++k::ks') (i:=done.length) (u:=k) (by simp);lia
     refine Wy (ih k x A.in1 E _ _ SN (by show A.units+1+n<YV;lia) h1 ?_);have e2:vU (done++[k])=vU done++[hK k]:=by rw[qf];unfold vU vU;rfl
     have e3:m6 (done++[k])=m6 done+Dh k:=by rw[nQ];show _+(Dh k+m6 [])=_;unfold m6;lia
     first
      |exact WB ⟨done++[k],ks',by simp,hl',by simp[hb,e2],by simp[e3,ZS]⟩
      |exact Wy (WB (WB ⟨done++[k],ks',by simp,hl',by simp[hb,e2],by simp[e3,ZS]⟩))
   ·rintro b s' ⟨done,left,rfl,hl,hb,rfl⟩;cases left with
    |cons k ks'=>unfold cO at hl;obtain⟨_,_,e,_⟩:=hl;cases e
    |nil=>
     rw[Xt] at h;show W4 _ _ (retInt (Yw b.toList)) _ _ _;rw[hb];refine wpAny_ret_mkInt ?_;show W4 _ _ (if (decide (-(2:Int) ^ 63<=Yw (vU done))&&decide (Yw (vU done)<2 ^ 63))=true then _ else _) Q E _;unfold hK Dh reduceHash at h;by_cases hr:(decide (-(2:Int) ^ 63<=Yw (vU done))&&decide (Yw (vU done)<2 ^ 63))=true
     ·rw[hZ hr];rw[hZ hr] at h;exact WB (by simpa [ZS] using h)
     ·rw[hV hr];rw[hV hr] at h;exact Wy (Y_ (WB (by simpa [ZS] using h)))
theorem RO:∀(n:Nat) (x y:U) (u v:WM) (A:XD),yr x<=n->A.units+n<YV->fF s.heap x u->fF s.heap y v->aaK A s u v (decide (x=y)):=by
 intro n
 induction n with
 |zero=>
  intro x y u v A hd hu h1 h2;have cN:A.units<YV:=by lia
  cases x<;>(try (unfold fF at h1;exact h1.elim))
  case int i=>
   unfold fF at h1;obtain⟨t,rfl⟩:=h1;cases y<;>(try (unfold fF at h2;exact h2.elim))
   case int j=>
    unfold fF at h2;obtain⟨t',rfl⟩:=h2;have:=SeqAt.EqAt.int_int (A:=A) (s:=s) i t j t';have e:decide (U.int i=U.int j)=(i==j):=by rw[Yu];simp
    rw[e];exact this
   case tup us=>
    unfold fF at h2;obtain⟨a,ao,rfl,ht,_⟩:=h2;rw[hJ (by intro z;cases z)];exact SeqAt.EqAt.int_tuple i t ht cN
  case tup us=>unfold yr at hd;lia
 |succ n ih=>
  intro x y u v A hd hu h1 h2;have cN:A.units<YV:=by lia
  cases x<;>(try (unfold fF at h1;exact h1.elim))
  case int i=>exact ih _ y u v A (by unfold yr;lia) (by lia) h1 h2
  case tup us=>
   unfold yr at hd;have KU:=h1;unfold fF at h1;obtain⟨a,ao,rfl,p1,z1⟩:=h1;cases y<;>(try (unfold fF at h2;exact h2.elim))
   case int j=>
    unfold fF at h2;obtain⟨t',rfl⟩:=h2;rw[hJ (by intro z;cases z)];exact SeqAt.EqAt.tuple_int j t' p1 cN
   case tup ws=>
    have KW:=h2;unfold fF at h2;obtain⟨b,its2,rfl,p2,z2⟩:=h2;by_cases uu:a=b
    ·subst uu;rw[fF.inj KU KW,hG rfl];exact abS _
    ·refine acb uu ?_;have l1:ao.size=us.length:=by rw[z1.length,WO]
     have l2:its2.size=ws.length:=by rw[z2.length,WO]
     have he:∀j (g1:j<ao.size) (g2:j<its2.size),aaK A.in1 s ao[j] its2[j] (decide (us[j]? = ws[j]?)):=λj g1 g2=>by
      have q1:us[j]? = some us[j]:=Wz (by lia);have q2:ws[j]? = some ws[j]:=Wz (by lia);have y1:ao.toList[j]? = some ao[j]:=by rw[W9];exact Xf g1
      have y2:its2.toList[j]? = some its2[j]:=by rw[W9];exact Xf g2
      have e:decide (us[j]? = ws[j]?)=decide (us[j]=ws[j]):=by rw[q1,q2,Yu];simp
      rw[e];refine ih us[j] ws[j] ao[j] its2[j] A.in1 ?_ (by show A.units+1+n<YV;lia) (z1.get q1 y1) (z2.get q2 y2);have:=l0 q1;lia
     have q:=acz (A:=A) p1 p2 cN he;rw[l1,l2] at q;have fin:((Xo (min us.length ws.length)).all (λj=>decide (us[j]? = ws[j]?))&&us.length==ws.length)=decide (U.tup us=U.tup ws):=by
      rw[Yu,W6,XR,decide_eq_true_eq];constructor
      ·rintro⟨ha,hl⟩;have hl:us.length=ws.length:=by simpa using hl
       congr 1;refine aak λj=>?_;by_cases hj:j<us.length
       ·exact of_decide_eq_true (ha j (XF.mpr (by lia)))
       ·rw[XY.mpr (by lia),XY.mpr (by lia)]
      ·intro e;cases e;exact⟨λj _=>hG rfl,by simp⟩
     rw[←fin];exact q
theorem Hv:∀(n:Nat) (x:U) (v:WM) (A:XD) (E:WM->WY->Prop) (s:WY) (Q:Bool->WY->Prop),yr x<=n->fF s.heap x v->Q true s->W4 (Xg prog w) A (eqIsQuiet n v) Q E s:=by
 intro n
 induction n with
 |zero=>
  intro x v A E s Q hd hk h;cases x<;>unfold fF at hk<;>first|exact hk.elim|skip
  ·obtain⟨t,rfl⟩:=hk;rw[eqIsQuiet_byValue _ rfl];exact WB h
  ·unfold yr at hd;lia
 |succ n ih=>
  intro x v A E s Q hd hk h;cases x<;>unfold fF at hk<;>first|exact hk.elim|skip
  ·obtain⟨t,rfl⟩:=hk;rw[eqIsQuiet_byValue _ rfl];exact WB h
  ·rename_i us;unfold yr at hd;obtain⟨a,items,rfl,ht,hi⟩:=hk;have hT:s.TypeIs (.ref a) "tuple":=let ⟨o,e,c,_⟩:=ht;⟨o,e,c⟩
   obtain⟨o,ho,_,nn,hdat⟩:=ht;unfold eqIsQuiet;refine Wy (Z9 hT F.slot_tuple_eq.lookup ?_);show W4 _ _ (isInstance (.ref a) (.type "tuple") >>= _) _ _ s;refine Wy (ZV hT isSubtype_tuple_tuple ?_);simp only[Zt,Xq,if_false];refine Wy (Y8 ho hdat ?_);refine Wy ?_;show W4 _ _ (forIn items _ _) _ _ s;rw[←acf];refine wpAny_forIn_list _ (λrest r s'=>r.1=none/\s'=s/\∃done left,us=done++left/\cO s.heap left rest) _ ?_ ?_ _ _ ⟨rfl,rfl,[],us,rfl,hi⟩
   ·rintro v rest r s' ⟨hr,rfl,done,left,rfl,hl⟩;cases left with
    |nil=>unfold cO at hl;cases hl
    |cons k ks'=>
     unfold cO at hl;obtain⟨v',r',e,h1,hl'⟩:=hl;cases e;have SN:yr k<=n:=by
      have:=l0 (us:=done++k::ks') (i:=done.length) (u:=k) (by simp);lia
     refine Wy (ih k v A E _ _ SN h1 ?_);simp only[Zt,Xq,if_false];exact WB ⟨rfl,rfl,done++[k],ks',by simp,hl'⟩
   ·rintro⟨r1,r2⟩ s' ⟨hr,rfl,_⟩;simp only at hr;subst hr;exact WB h
def TK (h:ZG)(us:List U)(a:W7):Prop:=su us<=6/\∃items,h.IsTuple a items/\cO h us items.toList
theorem TK.is (x:TK h us a):yr (.tup us)<=7/\fF h (.tup us) (.ref a):=by
 obtain⟨l,ao,t,z⟩:=x;exact⟨by unfold yr;lia,by unfold fF;exact⟨a,ao,rfl,t,z⟩⟩
theorem iZ {x y:List U}:(U.tup x=U.tup y)↔x=y:=⟨λh=>by cases h;rfl,λh=>by rw[h]⟩
noncomputable def bF (prog:ZI)(w:Z1):aaU prog w (List U) where
 is:=TK
 hash:=λus=>hK (.tup us)
 draws:=λus=>Dh (.tup us)
 room:=λA=>A.units+20<YV
 inj:=λhx hy=>iZ.mp (fF.inj hx.is.2 hy.is.2)
 keeps:=λ{h h' k a d o es ep} x ho hd hs=>by
  have kp:∀b ao,h.IsTuple b ao->h'.IsTuple b ao:=λb ao h00=>by
   obtain⟨o',e,c,n,z⟩:=h00;have KY:b≠d:=by
    rintro rfl;obtain rfl:o'=o:=Xa (e.symm.trans ho);rw[hd] at z;exact nomatch z
   exact⟨o',(hs.2 b KY).trans e,c,n,z⟩
  obtain⟨l,ao,t,z⟩:=x;exact⟨l,ao,kp _ _ t,z.keep kp⟩
 pyHash:=λ{A E s k a Q} hu hk h=>LK 7 (.tup k) (.ref a) A E s Q hk.is.1 (by lia) hk.is.2 h
 eqBool:=λ{A E s x y a b Q} hu hx hy h=>RO 7 (.tup x) (.tup y) (.ref a) (.ref b) A hx.is.1 (by lia) hx.is.2 hy.is.2 prog w E Q (by
  have e:decide (U.tup x=U.tup y)=decide (x=y):=by rw[Yu,decide_eq_true_eq,decide_eq_true_eq];exact iZ
  rw[e];exact h)
 quiet:=λ{A E s k a Q} hk h=>Hv 8 (.tup k) (.ref a) A E s Q (XC hk.is.1 (by lia)) hk.is.2 h
def LL (p:List U×W7×V)(q:List U×W7×WM):Prop:=p.1=q.1/\p.2.1=q.2.1/\aN p.2.2 q.2.2
noncomputable def OL (e:List U×W7×WM):acH:=⟨hK (.tup e.1),.ref e.2.1,e.2.2⟩
def OM (a:W7)(ep:Nat)(es:List (List U×W7×V))(h:ZG):Prop:=(a==Ys)=false/\∃o ds,∃xs:List (List U×W7×WM),h.get? a=some o/\o.ExactDict/\o.data=.dict ds ep/\ab6 LL es xs/\ds.toList=xs.map OL
noncomputable def DN (a:W7)(ep:Nat)(es:List (List U×W7×V)):HO:=.ext (OM a ep es)
mutual
def KH (H:Hp):U->V->Prop
 | .int i,v=>v=.int i
 | .tup us,v=>∃b ys,v=.ref b/\H b=some (.tup ys)/\us.length<=WJ/\qg H us ys
 |_,_=>False
def qg (H:Hp):List U->List V->Prop
 | [],vs=>vs=[]
 |u::us,vs=>∃v r,vs=v::r/\KH H u v/\qg H us r
end
mutual
theorem KH.to {H H':Hp}(e:∀b ys,H b=some (.tup ys)->H' b=some (.tup ys)):∀{u:U} {v:V},KH H u v->KH H' u v
 | .int i,v,h=>by unfold KH at h ⊢;exact h
 | .tup us,v,h=>by
  unfold KH at h ⊢;obtain⟨b,ys,r,q,l,z⟩:=h;exact⟨b,ys,r,e b ys q,l,qg.to e z⟩
 | .non,v,h=>by unfold KH at h;exact h.elim
 | .bl _,v,h=>by unfold KH at h;exact h.elim
 | .str _,v,h=>by unfold KH at h;exact h.elim
 | .lst _,v,h=>by unfold KH at h;exact h.elim
 | .dct _ _,v,h=>by unfold KH at h;exact h.elim
 | .scr _,v,h=>by unfold KH at h;exact h.elim
theorem qg.to {H H':Hp}(e:∀b ys,H b=some (.tup ys)->H' b=some (.tup ys)):∀{us:List U} {vs:List V},qg H us vs->qg H' us vs
 | [],vs,h=>by unfold qg at h ⊢;exact h
 |u::us,vs,h=>by
  unfold qg at h ⊢;obtain⟨v,r,q,p,z⟩:=h;exact⟨v,r,q,KH.to e p,qg.to e z⟩
end
mutual
theorem KH.is (ok:jy P w H h):∀{u:U} {v:V} {x:WM},KH H u v->aN v x->fF h u x
 | .int i,v,x,k,r=>by
  unfold KH at k;subst k;obtain⟨t,rfl⟩:=r;unfold fF;exact⟨t,rfl⟩
 | .tup us,v,x,k,r=>by
  unfold KH at k;obtain⟨b,ys,rfl,q,_,z⟩:=k;cases r;obtain⟨_,ao,rv,it,_⟩:=ok b _ q;unfold fF;exact⟨b,ao.toArray,rfl,it,by simpa using qg.is ok z rv⟩
 | .non,v,x,k,r=>by unfold KH at k;exact k.elim
 | .bl _,v,x,k,r=>by unfold KH at k;exact k.elim
 | .str _,v,x,k,r=>by unfold KH at k;exact k.elim
 | .lst _,v,x,k,r=>by unfold KH at k;exact k.elim
 | .dct _ _,v,x,k,r=>by unfold KH at k;exact k.elim
 | .scr _,v,x,k,r=>by unfold KH at k;exact k.elim
theorem qg.is (ok:jy P w H h):∀{us:List U} {vs:List V} {xs:List WM},qg H us vs->aQ vs xs->cO h us xs
 | [],vs,xs,k,r=>by
  unfold qg at k;subst k;cases r;unfold cO;rfl
 |u::us,vs,xs,k,r=>by
  unfold qg at k;obtain⟨v,vr,rfl,p,z⟩:=k;cases r with
  |cons r1 r2=>
   unfold cO;exact⟨_,_,rfl,KH.is ok p r1,qg.is ok z r2⟩
end
def r6 (H:Hp)(us:List U)(b:W7):Prop:=su us<=6/\∃ys,H b=some (.tup ys)/\us.length<=WJ/\qg H us ys
theorem r6.tk (ok:jy P w H h)(k:r6 H us b):TK h us b:=by
 obtain⟨l,ys,q,_,z⟩:=k;obtain⟨_,ao,rv,it,_⟩:=ok b _ q;exact⟨l,ao.toArray,it,by simpa using qg.is ok z rv⟩
theorem r6.to (e:∀b ys,H b=some (.tup ys)->H' b=some (.tup ys))(k:r6 H us b):r6 H' us b:=by
 obtain⟨l,ys,q,n,z⟩:=k;exact⟨l,ys,e b ys q,n,z.to e⟩
structure dM (H:Hp)(a:W7)(es:List (List U×W7×V)):Prop where
 ob:(∃ep,H a=some (DN a ep es))\/(es=[]/\H a=some (.dK []))
 nd:(es.map (·.1)).Nodup
 key:∀e∈es,r6 H e.1 e.2.1
theorem qh {α β:Type}{R:α->β->Prop}:∀{xs:List α} {ys:List β} {y:β},ab6 R xs ys->y∈ys->∃x∈xs,R x y
 |_,_,_,.nil,h=>by cases h
 |x::xs,y'::ys,y,.cons r t,h=>by
  rcases WV.mp h with e|h
  ·subst e;exact⟨x,WG,r⟩
  ·obtain⟨x',m,q⟩:=qh t h;exact⟨x',WI _ m,q⟩
theorem qi:∀{es:List (List U×W7×V)} {xs:List (List U×W7×WM)},ab6 LL es xs->es.map (·.1)=xs.map (·.1)
 |_,_,.nil=>rfl
 |_::_,_::_,.cons r t=>by rw[WD,WD,qi t,r.1]
theorem dM.of (ok:jy P w H h)(d:dM H a es):∃xs,ab6 LL es xs/\h.DictOfH (bF P w) a xs:=by
 rcases d.ob with⟨ep,q⟩|⟨e,q⟩
 ·obtain⟨⟨_,o,ds,xs,h1,h2,h3,h4,h5⟩,_⟩:=ok a _ q;refine⟨xs,h4,o,ds,ep,h1,h2,h3,h5,λx hx=>?_,by rw[←qi h4];exact d.nd⟩;obtain⟨e,he,r⟩:=qh h4 hx;have:=(d.key e he).tk ok;rw[r.1,r.2.1] at this;exact this
 ·subst e;obtain⟨_,_,vs,rel,dd⟩:=ok a _ q;cases rel;obtain⟨o,ds,ep,h1,h2,h3,h4,h5,h6⟩:=dd;have e0:ds.toList=[]:=by
   generalize ds.toList=l at h5;cases h5;rfl
  exact⟨[],.nil,o,ds,ep,h1,h2,h3,by rw[e0];rfl,(λx hx=>by cases hx),Y9⟩
theorem dM.lo (ok:jy P w H h)(d:dM H a es):(a==Ys)=false:=by
 rcases d.ob with⟨ep,q⟩|⟨e,q⟩
 ·obtain⟨⟨l,_⟩,_⟩:=ok a _ q;exact l
 ·obtain⟨_,l,_⟩:=ok a _ q;exact l
noncomputable def eK (es:List (List U×W7×V))(k:List U):Option V:=(es.find? λe=>decide (e.1=k)).map (·.2.2)
noncomputable def iC (es:List (List U×W7×V))(k:List U)(b:W7)(v:V):List (List U×W7×V):=
 if (eK es k).isSome then es.map (λe=>if e.1=k then (e.1,e.2.1,v) else e) else es++[(k,b,v)]
theorem iO (k:List U):∀{es:List (List U×W7×V)} {xs:List (List U×W7×WM)},ab6 LL es xs->kS (eK es k) ((ab1 xs k).map (·.2))
 |_,_,.nil=>trivial
 |e::es,x::xs,.cons r t=>by
  have ih:=iO k t;unfold eK ab1 at ih ⊢;rw[Ya,Ya];by_cases c:e.1=k
  ·have c':x.1=k:=by rw[←r.1];exact c
   rw[hG c,hG c'];exact r.2.2
  ·have c':¬x.1=k:=by rw[←r.1];exact c
   rw[hJ c,hJ c'];exact ih
theorem wy (k:List U){u:WM}(rv:aN v u){xs:List (List U×W7×WM)}(p:ab6 LL es xs):ab6 LL (iC es k b v) (storedH xs k b u):=by
 have e:(eK es k).isSome=(ab1 xs k).isSome:=by
  have:=(iO k p).isSome_eq;rw[acy] at this;exact this
 unfold iC storedH;rw[e];split
 ·rename_i hh;clear hh e
  induction p with
  |nil=>exact .nil
  | @cons q x es xs r t ih=>
   refine .cons ?_ ih;unfold putAt;dsimp only;by_cases c:q.1=k
   ·have c':x.1=k:=by rw[←r.1];exact c
    rw[hZ c,hZ c'];exact⟨r.1,r.2.1,rv⟩
   ·have c':¬x.1=k:=by rw[←r.1];exact c
    rw[hV c,hV c'];exact r
 ·rename_i hh;clear hh e
  induction p with
  |nil=>exact .cons ⟨rfl,rfl,rv⟩ .nil
  |cons r t ih=>exact .cons r ih
section
variable {d:V}{r:WM}{k:List U}{A:XD}
theorem uI (hu:A.units+64<YV):(bF X.prog X.w).room A.in1:=by show A.units+1+20<YV;lia
theorem Cf (hu:A.units+64<YV)(I:az X pins σ H s)(g:dM H a es)(kb:r6 H k b)(e:eK es k=some v)(h:∀w' s',az X pins σ H s'->aN v w'->Q w' s') :
  W4 (Xg X.prog X.w) A (abQ (.ref a) (.ref b)) Q E s:=by
 obtain⟨xs,rel,dd⟩:=g.of I.hok;obtain⟨w',hw,yo⟩:=kS.some_of (v:=v) (o:=(ab1 xs k).map (·.2)) (by rw[←e];exact iO k rel);obtain⟨p,hp,De⟩:=Option.map_eq_some_iff.mp hw;refine wpAny_getItem_heap (uI hu) (kb.tk I.hok) dd hp ?_;rw[De];exact h w' _ (I.tok _) yo
theorem LM (hu:A.units+64<YV)(I:az X pins σ H s)(g:dM H a es)(kb:r6 H k b)(rd:aN d r)(h:∀w' s',az X pins σ H s'->aN ((eK es k).getD d) w'->Q w' s') :
  W4 (Xg X.prog X.w) A (call (.builtin "dict.get") [.ref a,.ref b,r]) Q E s:=by
 obtain⟨xs,rel,dd⟩:=g.of I.hok;exact call_meetsIn Z_ dd.typeIs aa7 (aaS _ _ _) (meetsH_dict_get_default (bF X.prog X.w) a b (g.lo I.hok) r) ⟨uI hu,k,xs,kb.tk I.hok,dd,h _ _ (I.tok _) ((iO k rel).getD rd)⟩
theorem dM.typeIs (I:az X pins σ H s)(g:dM H a es):s.TypeIs (.ref a) "dict":=by
 obtain⟨xs,rel,dd⟩:=g.of I.hok;exact dd.typeIs
theorem dM.noDict (I:az X pins σ H s)(g:dM H a es):∀b,Value.ref a=.ref b->∃ob,s.heap.get? b=some ob/\ob.dict=none:=λb q=>by
 cases q;obtain⟨xs,rel,ob,_,_,h1,h2,_⟩:=g.of I.hok;exact⟨ob,h1,h2.2.1⟩
theorem dM.mut (g:dM H a es):NJ (H a):=by
 rcases g.ob with⟨ep,q⟩|⟨_,q⟩<;>(rw[q];exact True.intro)
theorem Cg {Q:Unit->WY->Prop}(hu:A.units+64<YV)(I:az X pins σ H s)(g:dM H a es)(kb:r6 H k b)(hz:es.length<=WJ)(rv:aN v r)(h:∀ep s',az X pins σ (bV H a (DN a ep (iC es k b v))) s'->Q () s') :
  W4 (Xg X.prog X.w) A (setItem (.ref a) (.ref b) r) Q E s:=by
 obtain⟨xs,rel,dd⟩:=g.of I.hok;refine wpAny_setItem_heap (hsz:=by rw[←aaf rel];exact hz) (uI hu) (kb.tk I.hok) dd λh' KR hs=>?_;obtain⟨q,ds,ep,hq,h2,h3,h4,_,h5⟩:=KR;refine h ep _ ?_;refine pJ I g.mut hs ⟨q,hq⟩ ⟨⟨g.lo I.hok,q,ds,_,hq,h2,h3,wy k rv rel,h4⟩,⟨q,hq⟩,λg1 g2 ⟨l,o,ds,xs,z1,z2⟩ kp=>⟨l,o,ds,xs,kp _ z1,z2⟩⟩
end
end L2
namespace L2
noncomputable def kU:Key->U
 | .inl i=>.int i
 | .inr x=>.str x
def uJ (H:Hp)(a:W7)(ks:List U)(xs:List V):Prop:=
 (∃aK:List (Key×V),H a=some (.dK aK)/\ks=aK.map (λp=>kU p.1)/\xs=aK.map (·.2)) \/
 ∃es:List (List U×W7×V),es≠[]/\dM H a es/\ks=es.map (λp=>.tup p.1)/\xs=es.map (·.2.2)
noncomputable abbrev ON:=uJ
theorem uJ.at (h:ON H a ks xs):uJ H a ks xs:=h
theorem dM.ne (h:dM H a es)(n:es≠[]):∃ep,H a=some (DN a ep es):=by
 rcases h.ob with q|⟨e,_⟩
 ·exact q
 ·exact absurd e n
def Hw (K:WH)(H:Hp)(a:W7)(xs:List V):Prop:=(∃o,H a=some (.frz o (.lst xs))) \/
  ∃(o:Obj) (ao:Array WM) (n:Nat),K.lookup a=some o/\o.cls=.type "list"/\o.dict=none/\o.data=.seq ao n/\ao.size<=WJ/\aQ xs ao.toList
theorem Hw.sq (h:Hw K H a xs):eF K H a xs:=by
 rcases h with⟨o,h⟩|h
 ·exact .inl (.inr ⟨o,h⟩)
 ·exact .inr h
theorem Hw.to (h:Hw K H a xs)(e:∀o y,H a=some (.frz o y)->H' a=some (.frz o y)):Hw K H' a xs:=by
 rcases h with⟨o,h⟩|h
 ·exact .inl ⟨o,e _ _ h⟩
 ·exact .inr h
mutual
def Rp (K:WH)(H:Hp)(A:W7->Prop):U->V->Prop
 | .non,v=>v=.non
 | .bl b,v=>v=.bl b
 | .int i,v=>v=.int i
 | .str x,v=>v=.str x
 | .tup us,v=>∃a xs,v=.ref a/\H a=some (.tup xs)/\us.length<=WJ/\aC K H A us xs
 | .lst us,v=>∃a xs,v=.ref a/\¬A a/\H a=some (.lst xs)/\us.length<=WJ/\aC K H A us xs
 | .dct ks us,v=>∃a xs,v=.ref a/\¬A a/\uJ H a ks xs/\us.length<=WJ/\aC K H A us xs
 | .scr us,v=>∃a xs,v=.ref a/\Hw K H a xs/\us.length<=WJ/\aC K H A us xs
def aC (K:WH)(H:Hp)(A:W7->Prop):List U->List V->Prop
 | [],xs=>xs=[]
 |u::us,xs=>∃x r,xs=x::r/\Rp K H A u x/\aC K H A us r
end
def jt (K:WH)(H:Hp)(A:W7->Prop):U->W7->Prop
 | .lst us,a=>∃xs,H a=some (.lst xs)/\us.length<=WJ/\aC K H A us xs
 | .dct ks us,a=>∃xs,ON H a ks xs/\us.length<=WJ/\aC K H A us xs
 |_,_=>False
def Pk (K:WH)(H:Hp)(A:W7->Prop):U->V->Prop
 | .non,v=>v=.non
 | .bl b,v=>v=.bl b
 | .int i,v=>v=.int i
 | .str x,v=>v=.str x
 | .tup us,v=>∃a xs,v=.ref a/\H a=some (.tup xs)/\us.length<=WJ/\aC K H A us xs
 | .lst us,v=>∃a xs,v=.ref a/\H a=some (.lst xs)/\us.length<=WJ/\aC K H A us xs
 | .dct ks us,v=>∃a xs,v=.ref a/\uJ H a ks xs/\us.length<=WJ/\aC K H A us xs
 | .scr us,v=>∃a xs,v=.ref a/\Hw K H a xs/\us.length<=WJ/\aC K H A us xs
def Mu:Option HO->Prop
 |some (.lst _)=>True
 |some (.dK _)=>True
 |some (.dT _)=>True
 |some (.ext _)=>True
 |_=>False
theorem Mu.ex {o:Option HO}(h:Mu o):∃x,o=.some x:=by
 cases o with
 |none=>exact h.elim
 |some x=>exact⟨x,rfl⟩
def dR (A:W7->Prop)(H H':Hp):Prop:=∀b o,¬A b->H b=some o->H' b=some o
theorem dR.refl:dR A H H:=λ_ _ _ h=>h
theorem dR.trans (a:dR A H H1)(b:dR A H1 H2):dR A H H2:=λc o n h=>b c o n (a c o n h)
theorem dR.same (h:aG H H'):dR A H H':=λb o _ e=>h b o e
section
variable {A':W7->Prop}
theorem uJ.ex (h:uJ H a ks xs):∃o,H a=some o:=by
 rcases h with⟨k,h,_⟩|⟨k,n,h,_⟩
 ·exact⟨_,h⟩
 ·obtain⟨ep,q⟩:=h.ne n;exact⟨_,q⟩
theorem uJ.to (h:uJ H a ks xs)(e:∀o,H a=some o->H' a=some o)(t:∀b ys,H b=some (.tup ys)->H' b=some (.tup ys)):uJ H' a ks xs:=by
 rcases h with⟨k,h,z⟩|⟨k,n,h,z⟩
 ·exact .inl ⟨k,e _ h,z⟩
 ·exact .inr ⟨k,n,⟨h.ob.imp (fun⟨ep,q⟩=>⟨ep,e _ q⟩) (λq=>⟨q.1,e _ q.2⟩),h.nd,λy hy=>(h.key y hy).to t⟩,z⟩
mutual
theorem Rp.re (m:∀b,A b->Mu (H b))(e:dR A H H')(n:∀b,A' b->A b\/H b=none):∀{u:U} {v:V},Rp K H A u v->Rp K H' A' u v
 | .non,v,h=>by unfold Rp at h ⊢;exact h
 | .bl b,v,h=>by unfold Rp at h ⊢;exact h
 | .int b,v,h=>by unfold Rp at h ⊢;exact h
 | .str b,v,h=>by unfold Rp at h ⊢;exact h
 | .tup us,v,h=>by
  unfold Rp at h ⊢;obtain⟨a,xs,r,q,l,z⟩:=h;exact⟨a,xs,r,e a _ (λz=>by have:=m a z;rw[q] at this;exact this) q,l,aC.re m e n z⟩
 | .lst us,v,h=>by
  unfold Rp at h ⊢;obtain⟨a,xs,r,na,q,l,z⟩:=h;refine⟨a,xs,r,λy=>?_,e a _ na q,l,aC.re m e n z⟩;rcases n a y with y|y
  ·exact na y
  ·rw[q] at y;cases y
 | .scr us,v,h=>by
  unfold Rp at h ⊢;obtain⟨a,xs,r,q,l,z⟩:=h;exact⟨a,xs,r,q.to λo y w=>e a _ (λz=>by have:=m a z;rw[w] at this;exact this) w,l,aC.re m e n z⟩
 | .dct ks us,v,h=>by
  unfold Rp at h ⊢;obtain⟨a,xs,r,na,q,l,z⟩:=h;refine⟨a,xs,r,λy=>?_,q.to (λo w=>e a o na w) (λb ys w=>e b _ (λy=>by have:=m b y;rw[w] at this;exact this) w),l,aC.re m e n z⟩;obtain⟨o,w⟩:=q.ex;rcases n a y with y|y
  ·exact na y
  ·rw[w] at y;cases y
theorem aC.re (m:∀b,A b->Mu (H b))(e:dR A H H')(n:∀b,A' b->A b\/H b=none):∀{us:List U} {vs:List V},aC K H A us vs->aC K H' A' us vs
 | [],vs,h=>by unfold aC at h ⊢;exact h
 |u::us,vs,h=>by
  unfold aC at h ⊢;obtain⟨x,r,q,p,z⟩:=h;exact⟨x,r,q,Rp.re m e n p,aC.re m e n z⟩
end
mutual
theorem Rp.mono (n:∀b,A' b->A b):∀{u:U} {v:V},Rp K H A u v->Rp K H A' u v
 | .non,v,h=>by unfold Rp at h ⊢;exact h
 | .bl b,v,h=>by unfold Rp at h ⊢;exact h
 | .int b,v,h=>by unfold Rp at h ⊢;exact h
 | .str b,v,h=>by unfold Rp at h ⊢;exact h
 | .tup us,v,h=>by
  unfold Rp at h ⊢;obtain⟨a,xs,r,q,l,z⟩:=h;exact⟨a,xs,r,q,l,aC.mono n z⟩
 | .lst us,v,h=>by
  unfold Rp at h ⊢;obtain⟨a,xs,r,na,q,l,z⟩:=h;exact⟨a,xs,r,λy=>na (n a y),q,l,aC.mono n z⟩
 | .scr us,v,h=>by
  unfold Rp at h ⊢;obtain⟨a,xs,r,q,l,z⟩:=h;exact⟨a,xs,r,q,l,aC.mono n z⟩
 | .dct ks us,v,h=>by
  unfold Rp at h ⊢;obtain⟨a,xs,r,na,q,l,z⟩:=h;exact⟨a,xs,r,λy=>na (n a y),q,l,aC.mono n z⟩
theorem aC.mono (n:∀b,A' b->A b):∀{us:List U} {vs:List V},aC K H A us vs->aC K H A' us vs
 | [],vs,h=>by unfold aC at h ⊢;exact h
 |u::us,vs,h=>by
  unfold aC at h ⊢;obtain⟨x,r,q,p,z⟩:=h;exact⟨x,r,q,Rp.mono n p,aC.mono n z⟩
end
mutual
theorem Rp.same (e:aG H H'):∀{u:U} {v:V},Rp K H A u v->Rp K H' A u v
 | .non,v,h=>by unfold Rp at h ⊢;exact h
 | .bl b,v,h=>by unfold Rp at h ⊢;exact h
 | .int b,v,h=>by unfold Rp at h ⊢;exact h
 | .str b,v,h=>by unfold Rp at h ⊢;exact h
 | .tup us,v,h=>by
  unfold Rp at h ⊢;obtain⟨a,xs,r,q,l,z⟩:=h;exact⟨a,xs,r,e a _ q,l,aC.same e z⟩
 | .lst us,v,h=>by
  unfold Rp at h ⊢;obtain⟨a,xs,r,na,q,l,z⟩:=h;exact⟨a,xs,r,na,e a _ q,l,aC.same e z⟩
 | .scr us,v,h=>by
  unfold Rp at h ⊢;obtain⟨a,xs,r,q,l,z⟩:=h;exact⟨a,xs,r,q.to λo y w=>e a _ w,l,aC.same e z⟩
 | .dct ks us,v,h=>by
  unfold Rp at h ⊢;obtain⟨a,xs,r,na,q,l,z⟩:=h;exact⟨a,xs,r,na,q.to (λo w=>e a o w) (λb ys w=>e b _ w),l,aC.same e z⟩
theorem aC.same (e:aG H H'):∀{us:List U} {vs:List V},aC K H A us vs->aC K H' A us vs
 | [],vs,h=>by unfold aC at h ⊢;exact h
 |u::us,vs,h=>by
  unfold aC at h ⊢;obtain⟨x,r,q,p,z⟩:=h;exact⟨x,r,q,Rp.same e p,aC.same e z⟩
end
theorem aC.length:∀{us:List U} {vs:List V},aC K H A us vs->us.length=vs.length
 | [],_,h=>by unfold aC at h;subst h;rfl
 |u::us,_,h=>by
  unfold aC at h;obtain⟨x,r,rfl,_,q⟩:=h;rw[WT,WT,aC.length q]
theorem aC.get:∀{us:List U} {vs:List V} {i:Nat} {u:U},aC K H A us vs->us[i]? = some u->∃v,vs[i]? = some v/\Rp K H A u v
 | [],_,_,_,_,e=>by simp at e
 |w::us,_,i,u,h,e=>by
  unfold aC at h;obtain⟨x,r,rfl,p,q⟩:=h;cases i with
  |zero=>simp at e;subst e;exact⟨x,by simp,p⟩
  |succ i=>
   obtain⟨v,a,b⟩:=aC.get q (i:=i) (by simpa using e);exact⟨v,by simpa using a,b⟩
theorem aC.nil:aC K H A [] []:=by unfold aC;rfl
theorem aC.cons (h:Rp K H A u v)(t:aC K H A us vs):aC K H A (u::us) (v::vs):=by unfold aC;exact⟨v,vs,rfl,h,t⟩
theorem aC.append:∀{us ws:List U} {vs xs:List V},aC K H A us vs->aC K H A ws xs->aC K H A (us++ws) (vs++xs)
 | [],ws,vs,xs,h,t=>by unfold aC at h;subst h;exact t
 |u::us,ws,vs,xs,h,t=>by
  unfold aC at h;obtain⟨x,r,rfl,p,q⟩:=h;exact aC.cons p (aC.append q t)
theorem aC.take:∀{us:List U} {vs:List V} (n:Nat),aC K H A us vs->aC K H A (us.take n) (vs.take n)
 | [],vs,n,h=>by unfold aC at h;subst h;simp;exact aC.nil
 |u::us,vs,0,h=>by simp;exact aC.nil
 |u::us,vs,n+1,h=>by
  unfold aC at h;obtain⟨x,r,rfl,p,q⟩:=h;exact aC.cons p (aC.take n q)
theorem aC.drop:∀{us:List U} {vs:List V} (n:Nat),aC K H A us vs->aC K H A (us.drop n) (vs.drop n)
 | [],vs,n,h=>by unfold aC at h;subst h;simp;exact aC.nil
 |u::us,vs,0,h=>h
 |u::us,vs,n+1,h=>by
  unfold aC at h;obtain⟨x,r,rfl,p,q⟩:=h;exact aC.drop n q
theorem aC.set:∀{us:List U} {vs:List V} (n:Nat) {u:U} {v:V},Rp K H A u v->aC K H A us vs->aC K H A (us.set n u) (vs.set n v)
 | [],vs,n,_,_,_,h=>by unfold aC at h;subst h;simp;exact aC.nil
 |u::us,vs,0,_,_,p',h=>by
  unfold aC at h;obtain⟨x,r,rfl,p,q⟩:=h;exact aC.cons p' q
 |u::us,vs,n+1,_,_,p',h=>by
  unfold aC at h;obtain⟨x,r,rfl,p,q⟩:=h;exact aC.cons p (aC.set n p' q)
theorem Rp.pk (h:Rp K H A u v):Pk K H A u v:=by
 cases u<;>(unfold Rp at h;unfold Pk)
 case lst us=>obtain⟨a,xs,r,na,q⟩:=h;exact⟨a,xs,r,q⟩
 case dct ks us=>obtain⟨a,xs,r,na,q⟩:=h;exact⟨a,xs,r,q⟩
 all_goals exact h
theorem Pk.same (e:aG H H')(h:Pk K H A u v):Pk K H' A u v:=by
 cases u<;>(unfold Pk at h ⊢)
 case tup us=>obtain⟨a,xs,r,q,l,z⟩:=h;exact⟨a,xs,r,e a _ q,l,z.same e⟩
 case lst us=>obtain⟨a,xs,r,q,l,z⟩:=h;exact⟨a,xs,r,e a _ q,l,z.same e⟩
 case scr us=>obtain⟨a,xs,r,q,l,z⟩:=h;exact⟨a,xs,r,q.to λo y w=>e a _ w,l,z.same e⟩
 case dct ks us=>obtain⟨a,xs,r,q,l,z⟩:=h;exact⟨a,xs,r,q.to (λo w=>e a o w) (λb ys w=>e b _ w),l,z.same e⟩
 all_goals exact h
theorem jt.pk (h:jt K H A u a):Pk K H A u (.ref a):=by
 cases u<;>(unfold jt at h;unfold Pk)
 case lst us=>obtain⟨xs,q,l,z⟩:=h;exact⟨a,xs,rfl,q,l,z⟩
 case dct ks us=>obtain⟨xs,q,l,z⟩:=h;exact⟨a,xs,rfl,q.at,l,z⟩
 all_goals exact h.elim
theorem jt.rp (h:jt K H A u a)(n:∀b,A' b->A b)(na:¬A' a):Rp K H A' u (.ref a):=by
 cases u<;>(unfold jt at h;unfold Rp)
 case lst us=>obtain⟨xs,q,l,z⟩:=h;exact⟨a,xs,rfl,na,q,l,z.mono n⟩
 case dct ks us=>obtain⟨xs,q,l,z⟩:=h;exact⟨a,xs,rfl,na,q.at,l,z.mono n⟩
 all_goals exact h.elim
theorem jt.re (m:∀b,A b->Mu (H b))(e:dR A H H')(n:∀b,A' b->A b\/H b=none)(ea:∀o,H a=some o->H' a=some o)(h:jt K H A u a):jt K H' A' u a:=by
 cases u<;>(unfold jt at h ⊢)
 case lst us=>obtain⟨xs,q,l,z⟩:=h;exact⟨xs,ea _ q,l,z.re m e n⟩
 case dct ks us=>obtain⟨xs,q,l,z⟩:=h;exact⟨xs,q.to ea (λb ys w=>e b _ (λy=>by have:=m b y;rw[w] at this;exact this) w),l,z.re m e n⟩
 all_goals exact h.elim
theorem jt.mu (h:jt K H A u a):Mu (H a):=by
 cases u<;>(unfold jt at h)
 case lst us=>obtain⟨xs,q,_⟩:=h;rw[q];trivial
 case dct ks us=>
  obtain⟨xs,q,_⟩:=h;rcases q with⟨k,q,_⟩|⟨k,n,q,_⟩
  ·rw[q];trivial
  ·obtain⟨ep,q⟩:=q.ne n;rw[q];trivial
 all_goals exact h.elim
end
structure Pkg where
 A0:W7->Prop
 B:Hp
 a0:W7
structure Gm where
 own:List Bool
 io:Bool
 W:Hp->Prop
noncomputable def Gm.is (G:Gm)(i:Nat):Bool:=G.own.getD i false
structure b_ (K:WH)(G:Gm)(Z:Pkg)(A:W7->Prop)(ρ:Ev)(σ:St)(H:Hp):Prop where
 slot:∀i u,ρ[i]? = some (some u)->∃v,σ[i]? = some (some v)/\if G.is i=true then (∃a,v=.ref a/\A a/\Z.B a=none/\(¬Z.A0 a\/(G.io=true/\i=0))/\jt K H A u a) else Rp K H A u v
 dis:∀i j u w a,G.is i=true->G.is j=true->i≠j->ρ[i]? = some (some u)->ρ[j]? = some (some w)->σ[i]? = some (some (.ref a))->σ[j]? = some (some (.ref a))->False
 mu:∀a,A a->Mu (H a)
 sup:∀a,Z.A0 a->A a
 out:∀a,A a->Z.A0 a\/Z.B a=none
 bas:∀a o,Z.B a=some o->H a=some o
 io0:G.io=true->σ[0]? = some (some (.ref Z.a0))/\G.is 0=true
 len:ρ.length=σ.length
section
variable {A':W7->Prop}{G:Gm}{Z:Pkg}{ρ':Ev}
theorem b_.same (r:b_ K G Z A ρ σ H)(e:aG H H'):b_ K G Z A ρ σ H' where
 slot:=λi u h=>by
  obtain⟨v,h1,h2⟩:=r.slot i u h;refine⟨v,h1,?_⟩;by_cases c:G.is i=true
  ·rw[hZ c] at h2 ⊢;obtain⟨a,e1,e2,e3,e4,e5⟩:=h2;exact⟨a,e1,e2,e3,e4,e5.re r.mu (dR.same e) (λb z=>.inl z) λo w=>e a o w⟩
  ·rw[hV c] at h2 ⊢;exact h2.same e
 dis:=r.dis
 mu:=λa h=>by
  have m:=r.mu a h;obtain⟨o,q⟩:=m.ex;rw[e a o q,←q];exact m
 sup:=r.sup
 out:=r.out
 bas:=λa o h=>e a o (r.bas a o h)
 io0:=r.io0
 len:=r.len
theorem b_.add (r:b_ K G Z A ρ σ H)(e:aG H H')(n:H a=none)(m:Mu (H' a)):b_ K G Z (λb=>A b\/b=a) ρ σ H' where
 slot:=λi u h=>by
  have q:∀b,(A b\/b=a)->A b\/H b=none:=λb z=>by
   rcases z with z|z
   ·exact .inl z
   ·subst z;exact .inr n
  obtain⟨v,h1,h2⟩:=r.slot i u h;refine⟨v,h1,?_⟩;by_cases c:G.is i=true
  ·rw[hZ c] at h2 ⊢;obtain⟨b,e1,e2,e3,e4,e5⟩:=h2;exact⟨b,e1,.inl e2,e3,e4,e5.re r.mu (dR.same e) q λo w=>e b o w⟩
  ·rw[hV c] at h2 ⊢;exact h2.re r.mu (dR.same e) q
 dis:=r.dis
 mu:=λb h=>by
  rcases h with h|h
  ·exact (r.same e).mu b h
  ·subst h;exact m
 sup:=λb h=>.inl (r.sup b h)
 out:=λb h=>by
  rcases h with h|h
  ·exact r.out b h
  ·subst h;refine .inr ?_;cases q:Z.B b with
   |none=>rfl
   |some o=>rw[r.bas b o q] at n;cases n
 bas:=λa o h=>e a o (r.bas a o h)
 io0:=r.io0
 len:=r.len
theorem b_.notA (r:b_ K G Z A ρ σ H)(n:H a=none):¬A a:=λz=>by
 have:=r.mu a z;rw[n] at this;exact this
theorem b_.notB (r:b_ K G Z A ρ σ H)(n:H a=none):Z.B a=none:=by
 cases q:Z.B a with
 |none=>rfl
 |some o=>rw[r.bas a o q] at n;cases n
theorem b_.val (r:b_ K G Z A ρ σ H)(c:G.is i=false)(h:ρ[i]? = some (some u)):∃v,σ[i]? = some (some v)/\Rp K H A u v:=by
 obtain⟨v,h1,h2⟩:=r.slot i u h;rw[hV (by rw[c];exact WE)] at h2;exact⟨v,h1,h2⟩
theorem b_.own (r:b_ K G Z A ρ σ H)(c:G.is i=true)(h:ρ[i]? = some (some u)):∃a,σ[i]? = some (some (.ref a))/\A a/\Z.B a=none/\(¬Z.A0 a\/(G.io=true/\i=0))/\jt K H A u a:=by
 obtain⟨v,h1,h2⟩:=r.slot i u h;rw[hZ c] at h2;obtain⟨a,rfl,z⟩:=h2;exact⟨a,h1,z⟩
end
end L2
variable {Z:L2.Pkg}{G:L2.Gm}
namespace L2
inductive Md where
 |S|O|P
 deriving DecidableEq
def vV (K:WH)(G:Gm)(Z:Pkg)(m:Md)(A:W7->Prop)(ρ:Ev)(σ:St)(H:Hp)(u:U)(v:V):Prop:=match m with
 | .S=>Rp K H A u v
 | .P=>Pk K H A u v
 | .O=>∃a,v=.ref a/\¬A a/\Z.B a=none/\b_ K G Z (λb=>A b\/b=a) ρ σ H/\jt K H (λb=>A b\/b=a) u a
def Ci (K:WH)(m:Md)(A:W7->Prop)(H H':Hp)(u:U)(v:V):Prop:=match m with
 | .S=>Rp K H' A u v
 | .P=>Pk K H' A u v
 | .O=>∃a,v=.ref a/\H a=none/\jt K H' (λb=>A b\/b=a) u a
def Hx (K:WH)(G:Gm)(Z:Pkg)(A:W7->Prop)(b:Bool)(m:Md)(ρ:Ev)(σ:St)(H:Hp):R (U×Ev)->VK->Prop
 | .ok (u,ρ'),Q=>∀v H',b_ K G Z A ρ' σ H'->dR A H H'->(b=false->ρ'=ρ/\aG H H')->vV K G Z m A ρ' σ H' u v->Q v H'
 |_,_=>False
def tD (K:WH)(G:Gm)(b:Bool)(m:Md)(g:Ev->R (U×Ev)):TE:=λσ H Q=>∃Z A ρ,b_ K G Z A ρ σ H/\Hx K G Z A b m ρ σ H (g ρ) Q
structure DE (X:Cx)(G:Gm)(e:YO)(b:Bool)(m:Md)(g:Ev->R (U×Ev)):Prop where
 un:PE X e (tD X.K G b m g)
def Hy (K:WH)(G:Gm)(Z:Pkg)(A:W7->Prop)(b:Bool)(ρ:Ev)(σ:St)(H:Hp):R (Bool×Ev)->(Bool->Hp->Prop)->Prop
 | .ok (c,ρ'),Q=>∀H',b_ K G Z A ρ' σ H'->dR A H H'->(b=false->ρ'=ρ/\aG H H')->Q c H'
 |_,_=>False
def Hz (K:WH)(G:Gm)(b:Bool)(g:Ev->R (Bool×Ev)):TT:=λσ H Q=>∃Z A ρ,b_ K G Z A ρ σ H/\Hy K G Z A b ρ σ H (g ρ) Q
structure DT (X:Cx)(G:Gm)(e:YO)(b:Bool)(g:Ev->R (Bool×Ev)):Prop where
 un:PT X e (Hz X.K G b g)
def yQ (K:WH)(H:Hp)(A:W7->Prop):List U->List V->Prop
 | [],vs=>vs=[]
 |u::us,vs=>∃x r,vs=x::r/\Pk K H A u x/\yQ K H A us r
def HA (K:WH)(p:Bool)(A:W7->Prop)(H:Hp)(us:List U)(vs:List V):Prop:=if p=true then yQ K H A us vs else aC K H A us vs
def HB (K:WH)(G:Gm)(Z:Pkg)(A:W7->Prop)(b p:Bool)(ρ:Ev)(σ:St)(H:Hp):R (List U×Ev)->(List V->Hp->Prop)->Prop
 | .ok (us,ρ'),Q=>∀vs H',b_ K G Z A ρ' σ H'->dR A H H'->(b=false->ρ'=ρ/\aG H H')->HA K p A H' us vs->Q vs H'
 |_,_=>False
def RP (K:WH)(G:Gm)(b p:Bool)(g:Ev->R (List U×Ev)):TA:=λσ H Q=>∃Z A ρ,b_ K G Z A ρ σ H/\HB K G Z A b p ρ σ H (g ρ) Q
structure DA (X:Cx)(G:Gm)(es:List YO)(b p:Bool)(g:Ev->R (List U×Ev)):Prop where
 un:PA X es (RP X.K G b p g)
section
variable {e:YO}{t t':TE}
theorem PE.to (h:PE X e t)(i:∀σ H Q,t' σ H Q->t σ H Q):PE X e t':=λpins s σ H Q I q=>h pins s σ H Q I (i _ _ _ q)
theorem PT.to {t t':TT}(h:PT X e t)(i:∀σ H Q,t' σ H Q->t σ H Q):PT X e t':=λpins s σ H Q I q=>h pins s σ H Q I (i _ _ _ q)
theorem PW.to {t t':TT}(h:PW X e t)(i:∀σ H Q,t' σ H Q->t σ H Q):PW X e t':=λmQ pins s σ H Q I q=>h mQ pins s σ H Q I (i _ _ _ q)
theorem PA.to {es:List YO}{t t':TA}(h:PA X es t)(i:∀σ H Q,t' σ H Q->t σ H Q):PA X es t':=λpos pins s σ H Q I q=>h pos pins s σ H Q I (i _ _ _ q)
theorem PS.to {t t':TS}(h:PS X st t)(i:∀D σ H,t' D σ H->t D σ H):PS X st t':=λpins s σ H D I q=>h pins s σ H D I (i _ _ _ q)
theorem sd.to {st:List abM}{t t':TS}(h:sd X st t)(i:∀D σ H,t' D σ H->t D σ H):sd X st t':=λpins s σ H D I q=>h pins s σ H D I (i _ _ _ q)
theorem PG.to {t t':TG}(h:PG X e t)(i:∀v σ H Q,t' v σ H Q->t v σ H Q):PG X e t':=λpins s σ H v u Q I r q=>h pins s σ H v u Q I r (i _ _ _ _ q)
end
section
variable {A':W7->Prop}{ρ':Ev}{m:Md}{b:Bool}
theorem vV.rp (h:vV K G Z m A ρ σ H u v)(n:m≠.P):Rp K H A u v:=by
 cases m with
 |S=>exact h
 |O=>
  obtain⟨a,rfl,na,_,_,t⟩:=h;exact t.rp (λb z=>.inl z) na
 |P=>exact absurd rfl n
theorem vV.pk (h:vV K G Z m A ρ σ H u v):Pk K H A u v:=by
 by_cases c:m=.P
 ·subst c;exact h
 ·exact (h.rp c).pk
theorem Ci.e (r:b_ K G Z A ρ σ H)(s:aG H H')(h:Ci K m A H H' u v):vV K G Z m A ρ σ H' u v:=by
 cases m with
 |S=>exact h
 |P=>exact h
 |O=>
  obtain⟨a,rfl,n,t⟩:=h;exact⟨a,rfl,r.notA n,r.notB n,r.add s n t.mu,t⟩
theorem vV.later (r:b_ K G Z A ρ σ H)(h:vV K G Z m A ρ σ H u v)(x:dR A H H')(s:b=false->ρ'=ρ/\aG H H')(c:m=.P->b=false):Pk K H' A u v:=by
 by_cases d:m=.P
 ·exact h.pk.same (s (c d)).2
 ·exact ((h.rp d).re r.mu x λb z=>.inl z).pk
theorem vV.laterS (r:b_ K G Z A ρ σ H)(h:vV K G Z m A ρ σ H u v)(x:dR A H H')(d:m≠.P):Rp K H' A u v:=(h.rp d).re r.mu x λb z=>.inl z
theorem two {b1 b2:Bool}{ρ1 ρ2:Ev}(h1:b1=false->ρ1=ρ/\aG H H1)(h2:b2=false->ρ2=ρ1/\aG H1 H2):(b1||b2)=false->ρ2=ρ/\aG H H2:=λh=>by
 rw[abG] at h;obtain⟨a,b⟩:=h1 h.1;obtain⟨c,d⟩:=h2 h.2;exact⟨c.trans a,b.trans d⟩
theorem oY {b1:Bool}{ρ1:Ev}(h1:b1=false->ρ1=ρ/\aG H H1)(h2:aG H1 H2):b1=false->ρ1=ρ/\aG H H2:=λh=>⟨(h1 h).1,(h1 h).2.trans h2⟩
end
noncomputable def af (i:Nat):Ev->R (U×Ev):=λρ=>match ρ[i]? with
 |some (some u)=>.ok (u,ρ)
 |_=>.stk
noncomputable def gC (u:U):Ev->R (U×Ev):=λρ=>.ok (u,ρ)
section
variable {e a b c:YO}{es:List YO}
theorem OO {b:Bool}{m:Md}(h:PE X e (G2 i))(c:G.is i=false):DE X G e false .S (af i):=by
 refine⟨h.to λσ H Q ⟨Z,A,ρ,r,f⟩=>?_⟩;unfold af at f;split at f
 ·rename_i u hu;obtain⟨v,h1,h2⟩:=r.val c hu;exact⟨v,h1,f v H r dR.refl (λ_=>⟨rfl,aG.refl _⟩) h2⟩
 ·exact f.elim
theorem ak (i:Nat)(hN:X.N[i]? = some x:=by rfl)(hv:BY X.env.scope x:=by first|exact Or.inl rfl|exact Or.inr (Or.inl rfl)|exact Or.inr (Or.inr rfl))(hd:(x==("__debug__":Str))=false:=by decide)
  (lE:(x==("__classdict__":Str))=false:=by decide) (c:G.is i=false:=by rfl):DE X G (.Name x pos) false .S (af i):=OO (b:=false) (m:=.S) (gx hN hv hd lE) c
theorem jC (i:Nat)(hN:X.N[i]? = some x:=by rfl)(hv:BY X.env.scope x:=by first|exact Or.inl rfl|exact Or.inr (Or.inl rfl)|exact Or.inr (Or.inr rfl))(hd:(x==("__debug__":Str))=false:=by decide)
  (lE:(x==("__classdict__":Str))=false:=by decide) (c:G.is i=true:=by rfl):DE X G (.Name x pos) false .P (af i):=by
 refine⟨(gx hN hv hd lE).to λσ H Q ⟨Z,A,ρ,r,f⟩=>?_⟩;unfold af at f;split at f
 ·rename_i u hu;obtain⟨a,h1,_,_,_,h2⟩:=r.own c hu;exact⟨.ref a,h1,f _ H r dR.refl (λ_=>⟨rfl,aG.refl _⟩) h2.pk⟩
 ·exact f.elim
theorem OP (h:PE X e (tC v))(r:∀K H A,Rp K H A u v):DE X G e false .S (gC u):=by
 refine⟨h.to λσ H Q ⟨Z,A,ρ,q,f⟩=>?_⟩;exact f v H q dR.refl (λ_=>⟨rfl,aG.refl _⟩) (r _ _ _)
theorem au {i j pos}:DE X G (.Constant (.int i) j pos) false .S (gC (.int i)):=OP K8 λ_ _ _=>by unfold Rp;rfl
theorem nR {i j pos}:DE X G (.Constant (.bool i) j pos) false .S (gC (.bl i)):=OP N2 λ_ _ _=>by unfold Rp;rfl
noncomputable def aZ (p:U->U->R U)(g1 g2:Ev->R (U×Ev)):Ev->R (U×Ev):=λρ=>(g1 ρ).bind λx=>(g2 x.2).bind λy=>(p x.1 y.1).bind λz=>.ok (z,y.2)
def g_ (K:WH)(r:R2)(m:Md)(p:U->U->R U):Prop:=∀A H x y u w z Q,Pk K H A u x->Pk K H A w y->(∀a,A a->Mu (H a))->p u w=.ok z->(∀v H',aG H H'->Ci K m A H H' z v->Q v H')->r x y H Q
variable {b1 b2 b3:Bool}{m1 m2 m3 mr:Md}{g1 g2 g3:Ev->R (U×Ev)}
theorem l4 {p:U->U->R U}(hp:g_ X.K r mr p)(hm:m1=.P->b2=false){Q:VK}(h:tD X.K G (b1||b2) mr (aZ p g1 g2) σ H Q) :
  Ob r (tD X.K G b1 m1 g1) (tD X.K G b2 m2 g2) σ H Q:=by
 obtain⟨Z,A,ρ,q,f⟩:=h;unfold aZ at f;refine⟨Z,A,ρ,q,?_⟩;cases e1:g1 ρ with
 |stk=>rw[e1] at f;exact f.elim
 |exc=>rw[e1] at f;exact f.elim
 |ok x=>
  obtain⟨u,ρ1⟩:=x;rw[e1] at f;intro v1 H1 q1 x1 s1 pY;refine⟨Z,A,ρ1,q1,?_⟩;cases e2:g2 ρ1 with
  |stk=>simp only[R.bind,e2] at f;exact f.elim
  |exc=>simp only[R.bind,e2] at f;exact f.elim
  |ok y=>
   obtain⟨w,ρ2⟩:=y;simp only[R.bind,e2] at f;intro v2 H2 q2 x2 s2 vP;cases e3:p u w with
   |stk=>rw[e3] at f;exact f.elim
   |exc=>rw[e3] at f;exact f.elim
   |ok z=>
    rw[e3] at f;refine hp A H2 v1 v2 u w z Q (pY.later q1 x2 s2 hm) vP.pk q2.mu e3 λv H' sm vm=>?_;exact f v H' (q2.same sm) ((x1.trans x2).trans (dR.same sm)) (oY (two s1 s2) sm) (vm.e q2 sm)
theorem aP {op:Operator}{p:U->U->R U}(ho:lM X (aax op) r)(hp:g_ X.K r mr p)(ha:DE X G a b1 m1 g1)(hb:DE X G b b2 m2 g2)(hm:m1=.P->b2=false:=by first|exact λ_=>rfl|exact λh=>nomatch h) :
  DE X G (.BinOp a op b pos) (b1||b2) mr (aZ p g1 g2):=⟨(Oc ho ha.un hb.un).to λ_ _ _=>l4 hp hm⟩
theorem D8 {p:U->U->R U}(ho:lM X (Z7 op) r)(hp:g_ X.K r mr p)(ha:DE X G a b1 m1 g1)(hb:DE X G b b2 m2 g2)(hk:aag op b=false)(hm:m1=.P->b2=false:=by first|exact λ_=>rfl|exact λh=>nomatch h) :
  DE X G (.Compare a [op] [b] pos) (b1||b2) mr (aZ p g1 g2):=⟨(Ha ho ha.un hb.un hk).to λ_ _ _=>l4 hp hm⟩
theorem d9 {p:U->U->R U}(ho:GK X r)(hp:g_ X.K r mr p)(ha:DE X G a b1 m1 g1)(hb:DE X G b b2 m2 g2)(hs:An b)(hm:m1=.P->b2=false:=by first|exact λ_=>rfl|exact λh=>nomatch h) :
  DE X G (.Subscript a b pos) (b1||b2) mr (aZ p g1 g2):=⟨(Ov ho ha.un hb.un hs).to λ_ _ _=>l4 hp hm⟩
noncomputable def gB (g:Ev->R (U×Ev)):Ev->R (Bool×Ev):=λρ=>(g ρ).bind λx=>match x.1 with
 | .bl c=>.ok (c,x.2)
 |_=>.stk
theorem s_ {g:Ev->R (U×Ev)}{m:Md}{Q:Bool->Hp->Prop}(h:Hz X.K G b1 (gB g) σ H Q):tD X.K G b1 m g σ H λx H'=>∃k,x=.bl k/\Q k H':=by
 obtain⟨Z,A,ρ,q,f⟩:=h;refine⟨Z,A,ρ,q,?_⟩;unfold gB at f;cases e1:g ρ with
 |stk=>rw[e1] at f;exact f.elim
 |exc=>rw[e1] at f;exact f.elim
 |ok x=>
  obtain⟨u,ρ1⟩:=x;rw[e1] at f;intro v H1 q1 x1 s1 vm;cases u with
  |bl c=>
   have e:v=.bl c:=by have:=vm.pk;unfold Pk at this;exact this
   exact⟨c,e,f H1 q1 x1 s1⟩
  |_=>exact f.elim
theorem qj (h:DE X G e b1 m1 g1)(he:∀mQ,isTrue e X.env mQ=(do let v ←mQ;standAt e.pos;holding [v] (truthy v)):=by intro _;rfl):DT X G e b1 (gB g1):=⟨(K9 h.un he).to λ_ _ _ h=>s_ h⟩
theorem eL {p:U->U->R U}(ho:lM X (Z7 op) r)(hp:g_ X.K r mr p)(ha:DE X G a b1 m1 g1)(hb:DE X G b b2 m2 g2)(hk:aag op b=false)(hm:m1=.P->b2=false:=by first|exact λ_=>rfl|exact λh=>nomatch h) :
  DT X G (.Compare a [op] [b] pos) (b1||b2) (gB (aZ p g1 g2)):=⟨(Hb ho ha.un hb.un hk).to λ_ _ _ h=>l4 hp hm (s_ (m:=mr) h)⟩
end
end L2
namespace L2
section
variable {A':W7->Prop}{ρ':Ev}{b p:Bool}{m:Md}{α:Type}
theorem Hx.bind {x:R α}{k:α->R (U×Ev)}{Q:VK}(f:Hx K G Z A b m ρ σ H (x.bind k) Q):∃a,x=.ok a/\Hx K G Z A b m ρ σ H (k a) Q:=by
 cases x with
 |ok a=>exact⟨a,rfl,f⟩
 |exc=>exact f.elim
 |stk=>exact f.elim
theorem Hy.bind {x:R α}{k:α->R (Bool×Ev)}{Q:Bool->Hp->Prop}(f:Hy K G Z A b ρ σ H (x.bind k) Q):∃a,x=.ok a/\Hy K G Z A b ρ σ H (k a) Q:=by
 cases x with
 |ok a=>exact⟨a,rfl,f⟩
 |exc=>exact f.elim
 |stk=>exact f.elim
theorem HB.bind {x:R α}{k:α->R (List U×Ev)}{Q:List V->Hp->Prop}(f:HB K G Z A b p ρ σ H (x.bind k) Q):∃a,x=.ok a/\HB K G Z A b p ρ σ H (k a) Q:=by
 cases x with
 |ok a=>exact⟨a,rfl,f⟩
 |exc=>exact f.elim
 |stk=>exact f.elim
theorem Pk.bl {c:Bool}(h:Pk K H A (.bl c) v):v=.bl c:=by unfold Pk at h;exact h
theorem Pk.int {i:Int}(h:Pk K H A (.int i) v):v=.int i:=by unfold Pk at h;exact h
theorem Pk.str {i:Str}(h:Pk K H A (.str i) v):v=.str i:=by unfold Pk at h;exact h
theorem jo {c:Bool}:Rp K H A (.bl c) (.bl c):=by unfold Rp;rfl
theorem dY {c:Int}:Rp K H A (.int c) (.int c):=by unfold Rp;rfl
theorem vV.ofS (h:Rp K H A u v):vV K G Z .S A ρ σ H u v:=h
theorem qk:Rp K H A .non .non:=by unfold Rp;rfl
theorem LN {c:Str}:Rp K H A (.str c) (.str c):=by unfold Rp;rfl
theorem aC.pks:∀{us:List U} {vs:List V},aC K H A us vs->yQ K H A us vs
 | [],_,h=>by unfold aC at h;unfold yQ;exact h
 |u::us,_,h=>by
  unfold aC at h;unfold yQ;obtain⟨x,r,e,z,q⟩:=h;exact⟨x,r,e,z.pk,aC.pks q⟩
end
section
variable {e a b c:YO}{es rest:List YO}{b1 b2 b3:Bool}{m1 m2 m3 mr:Md}{g1 g2 g3:Ev->R (U×Ev)}{h1 h2:Ev->R (Bool×Ev)}
noncomputable def RQ (g1 g2:Ev->R (Bool×Ev)):Ev->R (Bool×Ev):=λρ=>(g1 ρ).bind λx=>if x.1=true then g2 x.2 else .ok (false,x.2)
noncomputable def OQ (g1 g2:Ev->R (Bool×Ev)):Ev->R (Bool×Ev):=λρ=>(g1 ρ).bind λx=>if x.1=true then .ok (true,x.2) else g2 x.2
noncomputable def D9 (g1:Ev->R (Bool×Ev)):Ev->R (Bool×Ev):=λρ=>(g1 ρ).bind λx=>.ok (!x.1,x.2)
structure DW (X:Cx)(G:Gm)(e:YO)(b:Bool)(g:Ev->R (Bool×Ev)):Prop where
 un:PW X e (Hz X.K G b g)
theorem DW.dt (h:DW X G e b1 h1):DT X G e b1 h1:=⟨PW.pt h.un⟩
theorem HC {Q:Bool->Hp->Prop}(h:Hz X.K G (b1||b2) (OQ h1 h2) σ H Q):Tf (Hz X.K G b1 h1) (Hz X.K G b2 h2) σ H Q:=by
 obtain⟨Z,A,ρ,q,f⟩:=h;obtain⟨⟨k,ρ1⟩,e1,f⟩:=f.bind;refine⟨Z,A,ρ,q,?_⟩;rw[e1];intro H1 q1 x1 s1;cases k with
 |false=>
  rw[hV WE] at f ⊢;refine⟨Z,A,ρ1,q1,?_⟩;dsimp only at f;cases e2:h2 ρ1 with
  |ok y=>rw[e2] at f;exact λH2 q2 x2 s2=>f H2 q2 (x1.trans x2) (two s1 s2)
  |exc=>rw[e2] at f;exact f.elim
  |stk=>rw[e2] at f;exact f.elim
 |true=>
  rw[hZ rfl] at f ⊢;exact f H1 q1 x1 λz=>s1 (abG.mp z).1
theorem D_ (ha:DT X G a b1 h1):DW X G (.BoolOp .Or [a] pos) b1 h1:=⟨K_ ha.un⟩
theorem Jx (ha:DT X G a b1 h1)(hb:DW X G (.BoolOp .Or (b::rest) pos) b2 h2):DW X G (.BoolOp .Or (a::b::rest) pos) (b1||b2) (OQ h1 h2):=⟨(N3 ha.un hb.un).to λ_ _ _=>HC⟩
theorem yR (ha:DT X G a b1 h1):DT X G (.UnaryOp .Not a pos) b1 (D9 h1):=⟨(La ha.un).to λσ H Q h=>by
 obtain⟨Z,A,ρ,q,f⟩:=h;obtain⟨⟨k,ρ1⟩,e1,f⟩:=f.bind;refine⟨Z,A,ρ,q,?_⟩;rw[e1];exact λH1 q1 x1 s1=>f H1 q1 x1 s1⟩
noncomputable def LO (g1 g2:Ev->R (U×Ev)):Ev->R (U×Ev):=λρ=>(gB g1 ρ).bind λx=>if x.1=true then g2 x.2 else .ok (.bl false,x.2)
noncomputable def UI (g1 g2:Ev->R (U×Ev)):Ev->R (U×Ev):=λρ=>(gB g1 ρ).bind λx=>if x.1=true then .ok (.bl true,x.2) else g2 x.2
noncomputable def RS (g1:Ev->R (U×Ev)):Ev->R (U×Ev):=λρ=>(gB g1 ρ).bind λx=>.ok (.bl (!x.1),x.2)
theorem OR {g:Ev->R (U×Ev)}{ρ1:Ev}{k:Bool}(h:gB g ρ=.ok (k,ρ1)):g ρ=.ok (.bl k,ρ1):=by
 unfold gB at h;cases e:g ρ with
 |ok y=>
  obtain⟨u,ρ2⟩:=y;rw[e] at h;cases u<;>simp[R.bind] at h;obtain⟨rfl,rfl⟩:=h;rfl
 |exc=>rw[e] at h;simp[R.bind] at h
 |stk=>rw[e] at h;simp[R.bind] at h
theorem LP (hn:m2≠.P:=by decide)(ha:DE X G a b1 m1 g1)(hb:DE X G (.BoolOp .And (b::rest) pos) b2 m2 g2):DE X G (.BoolOp .And (a::b::rest) pos) (b1||b2) .S (LO g1 g2):=⟨(Lc ha.un hb.un).to λσ H Q h=>by
 obtain⟨Z,A,ρ,q,f⟩:=h;obtain⟨⟨k,ρ1⟩,e1,f⟩:=f.bind;refine⟨Z,A,ρ,q,?_⟩;rw[OR e1];intro v H1 q1 x1 s1 vm;refine⟨k,vm.pk.bl,?_⟩;cases k with
 |true=>
  rw[hZ rfl] at f ⊢;refine⟨Z,A,ρ1,q1,?_⟩;dsimp only at f;cases e2:g2 ρ1 with
  |ok y=>rw[e2] at f;exact λv2 H2 q2 x2 s2 vP=>f v2 H2 q2 (x1.trans x2) (two s1 s2) (vP.rp hn)
  |exc=>rw[e2] at f;exact f.elim
  |stk=>rw[e2] at f;exact f.elim
 |false=>
  rw[hV WE] at f ⊢;exact f _ H1 q1 x1 (λz=>s1 (abG.mp z).1) (vV.ofS jo)⟩
theorem LQ {op}(ha:DE X G a b1 m1 g1):DE X G (.BoolOp op [a] pos) b1 m1 g1:=⟨Lb ha.un⟩
noncomputable def UJ (h:Ev->R (Bool×Ev))(g1 g2:Ev->R (U×Ev)):Ev->R (U×Ev):=λρ=>(h ρ).bind λx=>if x.1=true then g1 x.2 else g2 x.2
noncomputable def LS (p p':U->U->R U)(g1 g2 g3:Ev->R (U×Ev)):Ev->R (U×Ev):=λρ=>(g1 ρ).bind λx=>(g2 x.2).bind λy=>(p x.1 y.1).bind λz=>match z with
 | .bl k=>if k=true then (g3 y.2).bind λw=>(p' y.1 w.1).bind λz'=>.ok (z',w.2) else .ok (.bl false,y.2)
 |_=>.stk
noncomputable def QL (p:U->R U)(g:Ev->R (U×Ev)):Ev->R (U×Ev):=λρ=>(g ρ).bind λx=>(p x.1).bind λz=>.ok (z,x.2)
def LU (K:WH)(r:V->Hp->VK->Prop)(m:Md)(p:U->R U):Prop:=∀A H x u z Q,Pk K H A u x->(∀a,A a->Mu (H a))->p u=.ok z->(∀v H',aG H H'->Ci K m A H H' z v->Q v H')->r x H Q
theorem HD {r:V->Hp->VK->Prop}{p:U->R U}(hp:LU X.K r mr p){Q:VK}(h:tD X.K G b1 mr (QL p g1) σ H Q):Th r (tD X.K G b1 m1 g1) σ H Q:=by
 obtain⟨Z,A,ρ,q,f⟩:=h;obtain⟨⟨u,ρ1⟩,e1,f⟩:=f.bind;obtain⟨z,e2,f⟩:=f.bind;refine⟨Z,A,ρ,q,?_⟩;rw[e1];intro v1 H1 q1 x1 s1 pY;exact hp A H1 v1 u z Q pY.pk q1.mu e2 λv H' sm vm=>f v H' (q1.same sm) (x1.trans (dR.same sm)) (oY s1 sm) (vm.e q1 sm)
theorem OS {op:UnaryOp}{r:V->Hp->VK->Prop}{p:U->R U}(ho:QI X (unaryOp op) r)(hp:LU X.K r mr p)(ha:DE X G a b1 m1 g1):DE X G (.UnaryOp op a pos) b1 mr (QL p g1):=⟨(Od ho ha.un).to λ_ _ _=>HD hp⟩
noncomputable def aq:Ev->R (List U×Ev):=λρ=>.ok ([],ρ)
noncomputable def ag (g:Ev->R (U×Ev))(ga:Ev->R (List U×Ev)):Ev->R (List U×Ev):=λρ=>(g ρ).bind λx=>(ga x.2).bind λy=>.ok (x.1::y.1,y.2)
variable {ga:Ev->R (List U×Ev)}{p:Bool}
theorem aj:DA X G [] false p aq:=⟨jA.to λσ H Q ⟨Z,A,ρ,q,f⟩=>f [] H q dR.refl (λ_=>⟨rfl,aG.refl _⟩) (by unfold HA;split;exact rfl;exact aC.nil)⟩
theorem ae (ha:DE X G e b1 m1 g1)(hr:DA X G es b2 p ga)(hm:m1=.P->(p=true/\b2=false):=by first|exact λ_=>⟨rfl,rfl⟩|exact λh=>nomatch h)
  (hs:W5 (e::es) X.env=(false,Z4 e X.env)::W5 es X.env:=by rfl):DA X G (e::es) (b1||b2) p (ag g1 ga):=⟨(eI ha.un hr.un hs).to λσ H Q h=>by
 obtain⟨Z,A,ρ,q,f⟩:=h;obtain⟨⟨u,ρ1⟩,e1,f⟩:=f.bind;obtain⟨⟨us,ρ2⟩,e2,f⟩:=f.bind;refine⟨Z,A,ρ,q,?_⟩;rw[e1];intro v1 H1 q1 x1 s1 pY;refine⟨Z,A,ρ1,q1,?_⟩;dsimp only at e2;rw[e2];intro vs H2 q2 x2 s2 vP;refine f (v1::vs) H2 q2 (x1.trans x2) (two s1 s2) ?_;unfold HA at vP ⊢;cases p with
 |true=>
  rw[hZ rfl] at vP ⊢;exact⟨v1,vs,rfl,pY.later q1 x2 s2 (λz=>(hm z).2),vP⟩
 |false=>
  rw[hV WE] at vP ⊢;exact aC.cons (pY.laterS q1 x2 λz=>WE (hm z).1) vP⟩
theorem HA.pks (h:HA K p A H us vs):yQ K H A us vs:=by
 unfold HA at h;cases p with
 |true=>rw[hZ rfl] at h;exact h
 |false=>rw[hV WE] at h;exact h.pks
theorem HA.rps (h:HA K false A H us vs):aC K H A us vs:=by
 unfold HA at h;rw[hV WE] at h;exact h
noncomputable def c9 (ga:Ev->R (List U×Ev)):Ev->R (U×Ev):=λρ=>(ga ρ).bind λx=>if x.1.length<=WJ then .ok (.tup x.1,x.2) else .stk
noncomputable def l5 (ga:Ev->R (List U×Ev)):Ev->R (U×Ev):=λρ=>(ga ρ).bind λx=>if x.1.length<=WJ then .ok (.lst x.1,x.2) else .stk
theorem bQ {p:W7}(h:H p=none)(o:HO):aG H (bV H p o):=λb u q=>by rw[aS (bA q h)];exact q
theorem m7 {a:W7}(h:aC K H A us vs)(n:H a=none)(l:us.length<=WJ):Rp K (bV H a (.tup vs)) A (.tup us) (.ref a):=by
 unfold Rp;exact⟨a,vs,rfl,ba,l,h.same (bQ n _)⟩
theorem bI {a:W7}(m:∀b,A b->Mu (H b))(h:aC K H A us vs)(n:H a=none)(l:us.length<=WJ):jt K (bV H a (.lst vs)) (λb=>A b\/b=a) (.lst us) a:=
 ⟨vs,ba,l,h.re m (dR.same (bQ n _)) λb z=>by
  rcases z with z|z
  ·exact .inl z
  ·subst z;exact .inr n⟩
theorem gA {x1}(h:DA X G es b1 false ga):DE X G (.Tuple es x1 pos) b1 .S (c9 ga):=⟨(Dx h.un).to λσ H Q h=>by
 obtain⟨Z,A,ρ,q,f⟩:=h;obtain⟨⟨us,ρ1⟩,e1,f⟩:=f.bind;refine⟨Z,A,ρ,q,?_⟩;rw[e1];intro vs H1 q1 x1 s1 pY;dsimp only at f;split at f
 ·rename_i l;refine⟨by rw[←pY.rps.length];exact l,λa n=>?_⟩;exact f _ _ (q1.same (bQ n _)) (x1.trans (dR.same (bQ n _))) (oY s1 (bQ n _)) (vV.ofS (m7 pY.rps n l))
 ·exact f.elim⟩
theorem qm (h:DA X G es b1 false ga):DE X G (.List es pos) b1 .O (l5 ga):=⟨(Dy h.un).to λσ H Q h=>by
 obtain⟨Z,A,ρ,q,f⟩:=h;obtain⟨⟨us,ρ1⟩,e1,f⟩:=f.bind;refine⟨Z,A,ρ,q,?_⟩;rw[e1];intro vs H1 q1 x1 s1 pY;dsimp only at f;split at f
 ·rename_i l;refine⟨by rw[←pY.rps.length];exact l,λa n=>?_⟩;exact f _ _ (q1.same (bQ n _)) (x1.trans (dR.same (bQ n _))) (oY s1 (bQ n _)) (Ci.e q1 (bQ n _) ⟨a,rfl,n,bI q1.mu pY.rps n l⟩)
 ·exact f.elim⟩
noncomputable def i0 (p:List U->R U)(ga:Ev->R (List U×Ev)):Ev->R (U×Ev):=λρ=>(ga ρ).bind λx=>(p x.1).bind λz=>.ok (z,x.2)
def kX (K:WH)(r:List V->Hp->VK->Prop)(m:Md)(p:List U->R U):Prop:=∀A H vs us z Q,yQ K H A us vs->(∀a,A a->Mu (H a))->p us=.ok z->(∀v H',aG H H'->Ci K m A H H' z v->Q v H')->r vs H Q
theorem uK {r:List V->Hp->VK->Prop}{f:List U->R U}(hp:kX X.K r mr f){Q:VK}(h:tD X.K G b1 mr (i0 f ga) σ H Q):RI r (RP X.K G b1 p ga) σ H Q:=by
 obtain⟨Z,A,ρ,q,f⟩:=h;obtain⟨⟨us,ρ1⟩,e1,f⟩:=f.bind;obtain⟨z,e2,f⟩:=f.bind;refine⟨Z,A,ρ,q,?_⟩;rw[e1];intro vs H1 q1 x1 s1 pY;exact hp A H1 vs us z Q pY.pks q1.mu e2 λv H' sm vm=>f v H' (q1.same sm) (x1.trans (dR.same sm)) (oY s1 sm) (vm.e q1 sm)
theorem bx {id:String}{p1:Pos}{r:List V->Hp->VK->Prop}{f:List U->R U}(hc:dE X (.builtin id) r)(hp:kX X.K r mr f)(hg:Gl X x)(hm:X.mg x=none)(hv:XB x=some (.builtin id))(ha:DA X G (e::es) b1 true ga)(hn:x≠"__name__":=by decide)(z9:(x==("__debug__":Str))=false:=by decide)
  (he:W5 (e::es) X.env=(false,Z4 e X.env)::W5 es X.env:=by rfl) (oR:(Zl pos (W5 es X.env)).any (·.1)=false:=by rfl):DE X G (.Call (.Name x p1) (e::es) [] pos) b1 mr (i0 f ga):=⟨(lT hc hg hm hv ha.un hn z9 he oR).to λ_ _ _=>uK hp⟩
theorem dz {p1:Pos}{r:List V->Hp->VK->Prop}{f:List U->R U}(hc:dE X (.type T) r)(hp:kX X.K r mr f)(hg:Gl X x)(hm:X.mg x=none)(hv:XB x=some (.type T))(ha:DA X G (e::es) b1 true ga)(hn:x≠"__name__":=by decide)(z9:(x==("__debug__":Str))=false:=by decide)(he:W5 (e::es) X.env=(false,Z4 e X.env)::W5 es X.env:=by rfl)(oR:(Zl pos (W5 es X.env)).any (·.1)=false:=by rfl):DE X G (.Call (.Name x p1) (e::es) [] pos) b1 mr (i0 f ga):=⟨(gj hc hg hm hv ha.un hn z9 he oR).to λ_ _ _=>uK hp⟩
end
end L2
namespace L2
section
variable {A':W7->Prop}{ρ':Ev}{b p:Bool}{m:Md}{α:Type}
theorem jt.mono (n:∀b,A' b->A b)(h:jt K H A u a):jt K H A' u a:=by
 cases u<;>(unfold jt at h ⊢)
 case lst us=>obtain⟨xs,q,l,z⟩:=h;exact⟨xs,q,l,z.mono n⟩
 case dct ks us=>obtain⟨xs,q,l,z⟩:=h;exact⟨xs,q,l,z.mono n⟩
 all_goals exact h.elim
theorem cv {α:Type}{l:List (Option α)}{x:Option α}{y:α}(h:(l.set i x)[j]? = some (some y)):(i=j/\x=some y)\/(i≠j/\l[j]? = some (some y)):=by
 by_cases e:i=j
 ·subst e;rw[List.getElem?_set_self'] at h;refine .inl ⟨rfl,?_⟩;cases q:l[i]? with
  |none=>rw[q] at h;cases h
  |some w=>rw[q] at h;exact Xa h
 ·rw[Xs e] at h;exact .inr ⟨e,h⟩
theorem pL {α:Type}{l l':List (Option α)}{x:α}{β:Type}{k:List (Option β)}{y:Option β}{z:β}(hl:k.length=l.length)(h:(k.set i y)[i]? = some (some z)):(l.set i (some x))[i]? = some (some x):=by
 have:i<l.length:=by
  have:=(WL.mp h).1;rw[X4] at this;lia
 rw[Zj this]
theorem b_.set (r:b_ K G Z A ρ σ H)(c:G.is i=false)(h:Rp K H A u v):b_ K G Z A (ρ.set i (some u)) (σ.set i (some v)) H where
 slot:=λj w hj=>by
  rcases cv hj with⟨rfl,e⟩|⟨ne,e⟩
  ·cases e;refine⟨v,pL (l':=σ) r.len hj,?_⟩;rw[hV (by rw[c];exact WE)];exact h
  ·rw[Xs ne];exact r.slot j w e
 dis:=λj k w w' a cj ck ne hj hk sj sk=>by
  rcases cv hj with⟨rfl,_⟩|⟨n1,e1⟩
  ·rw[c] at cj;cases cj
  ·rcases cv hk with⟨rfl,_⟩|⟨n2,e2⟩
   ·rw[c] at ck;cases ck
   ·rw[Xs n1] at sj;rw[Xs n2] at sk;exact r.dis j k w w' a cj ck ne e1 e2 sj sk
 mu:=r.mu
 sup:=r.sup
 out:=r.out
 bas:=r.bas
 io0:=λh0=>by
  obtain⟨a,b⟩:=r.io0 h0;refine⟨?_,b⟩;have:i≠0:=λz=>by subst z;rw[b] at c;cases c
  rw[Xs this];exact a
 len:=by rw[X4,X4];exact r.len
theorem b_.drop (r:b_ K G Z A ρ σ H)(i:Nat):b_ K G Z A (ρ.set i none) σ H where
 slot:=λj w hj=>by
  rcases cv hj with⟨rfl,e⟩|⟨ne,e⟩
  ·cases e
  ·exact r.slot j w e
 dis:=λj k w w' a cj ck ne hj hk sj sk=>by
  rcases cv hj with⟨rfl,e⟩|⟨n1,e1⟩
  ·cases e
  ·rcases cv hk with⟨rfl,e⟩|⟨n2,e2⟩
   ·cases e
   ·exact r.dis j k w w' a cj ck ne e1 e2 sj sk
 mu:=r.mu
 sup:=r.sup
 out:=r.out
 bas:=r.bas
 io0:=r.io0
 len:=by rw[X4];exact r.len
theorem b_.setO (r:b_ K G Z A ρ σ H)(c:G.is i=true)(hi:G.io=true->i≠0)(na:¬A a)(nb:Z.B a=none)(r':b_ K G Z (λb=>A b\/b=a) ρ σ H)(h:jt K H (λb=>A b\/b=a) u a) :
  b_ K G Z (λb=>A b\/b=a) (ρ.set i (some u)) (σ.set i (some (.ref a))) H where
 slot:=λj w hj=>by
  rcases cv hj with⟨rfl,e⟩|⟨ne,e⟩
  ·cases e;refine⟨.ref a,pL (l':=σ) r.len hj,?_⟩;rw[hZ c];exact⟨a,rfl,.inr rfl,nb,.inl λz=>na (r.sup a z),h⟩
  ·rw[Xs ne];exact r'.slot j w e
 dis:=λj k w w' b cj ck ne hj hk sj sk=>by
  have key:∀k w',G.is k=true->i≠k->ρ[k]? = some (some w')->σ[k]? ≠ some (some (.ref a)):=λk w' ck _ e q=>by
   obtain⟨b,h1,h2,_⟩:=r.own ck e;rw[h1] at q;cases q;exact na h2
  rcases cv hj with⟨rfl,e1⟩|⟨n1,e1⟩
  ·rcases cv hk with⟨rfl,_⟩|⟨n2,e2⟩
   ·exact ne rfl
   ·rw[pL (l':=σ) r.len hj] at sj;cases sj;rw[Xs n2] at sk;exact key k w' ck n2 e2 sk
  ·rcases cv hk with⟨rfl,e2⟩|⟨n2,e2⟩
   ·rw[pL (l':=σ) r.len hk] at sk;cases sk;rw[Xs n1] at sj;exact key j w cj n1 e1 sj
   ·rw[Xs n1] at sj;rw[Xs n2] at sk;exact r.dis j k w w' b cj ck ne e1 e2 sj sk
 mu:=r'.mu
 sup:=r'.sup
 out:=r'.out
 bas:=r'.bas
 io0:=λh0=>by
  obtain⟨a,b⟩:=r.io0 h0;exact⟨by rw[Xs (hi h0)];exact a,b⟩
 len:=by rw[X4,X4];exact r.len
theorem b_.free (r:b_ K G Z A ρ σ H)(c:G.is i=true)(hi:G.io=true->i≠0)(h:ρ[i]? = some (some u)):∃a A',σ[i]? = some (some (.ref a))/\b_ K G Z A' (ρ.set i none) σ H/\Rp K H A' u (.ref a):=by
 obtain⟨a,h1,h2,h3,h4,h5⟩:=r.own c h;have na:¬Z.A0 a:=by
  rcases h4 with h4|⟨h4,h6⟩
  ·exact h4
  ·exact absurd h6 (hi h4)
 have sub:∀b,(A b/\b≠a)->A b:=λb z=>z.1;refine⟨a,λb=>A b/\b≠a,h1,?_,h5.rp sub λz=>z.2 rfl⟩;exact {
  slot:=λj w hj=>by
   rcases cv hj with⟨rfl,e⟩|⟨ne,e⟩
   ·cases e
   ·obtain⟨v,s1,s2⟩:=r.slot j w e;refine⟨v,s1,?_⟩;by_cases cj:G.is j=true
    ·rw[hZ cj] at s2 ⊢;obtain⟨b,e1,e2,e3,e4,e5⟩:=s2;refine⟨b,e1,⟨e2,λz=>?_⟩,e3,e4,e5.mono sub⟩;subst z e1;exact r.dis i j u w b c cj ne h e h1 s1
    ·rw[hV cj] at s2 ⊢;exact s2.mono sub
  dis:=(r.drop i).dis
  mu:=λb z=>r.mu b z.1
  sup:=λb z=>⟨r.sup b z,λe=>na (e▸z)⟩
  out:=λb z=>r.out b z.1
  bas:=r.bas
  io0:=r.io0
  len:=by rw[X4];exact r.len}
theorem b_.put (r:b_ K G Z A ρ σ H){w:U}(c:G.is i=true)(h:ρ[i]? = some (some u))(ha:σ[i]? = some (some (.ref a)))(e:∀b o,b≠a->H b=some o->H' b=some o)(t:jt K H' A w a) :
  b_ K G Z A (ρ.set i (some w)) σ H':=by
 obtain⟨a',h1,h2,h3,h4,h5⟩:=r.own c h;rw[ha] at h1;cases h1;have x:dR A H H':=λb o nb z=>e b o (λq=>nb (q▸h2)) z;exact {
  slot:=λj y hj=>by
   rcases cv hj with⟨rfl,q⟩|⟨ne,q⟩
   ·cases q;refine⟨.ref a,ha,?_⟩;rw[hZ c];exact⟨a,rfl,h2,h3,h4,t⟩
   ·obtain⟨v,s1,s2⟩:=r.slot j y q;refine⟨v,s1,?_⟩;by_cases cj:G.is j=true
    ·rw[hZ cj] at s2 ⊢;obtain⟨b,e1,e2,e3,e4,e5⟩:=s2;refine⟨b,e1,e2,e3,e4,e5.re r.mu x (λb z=>.inl z) λo z=>e b o (λq'=>?_) z⟩;subst q' e1;exact r.dis i j u y b c cj ne h q ha s1
    ·rw[hV cj] at s2 ⊢;exact s2.re r.mu x λb z=>.inl z
  dis:=λj k y y' b cj ck ne hj hk sj sk=>by
   have f:∀j y,(ρ.set i (some w))[j]? = some (some y)->∃y',ρ[j]? = some (some y'):=λj y hj=>by
    rcases cv hj with⟨rfl,q⟩|⟨ne,q⟩
    ·exact⟨u,h⟩
    ·exact⟨y,q⟩
   obtain⟨y1,hj⟩:=f j y hj;obtain⟨y2,hk⟩:=f k y' hk;exact r.dis j k y1 y2 b cj ck ne hj hk sj sk
  mu:=λb z=>by
   by_cases q:b=a
   ·subst q;exact t.mu
   ·have m:=r.mu b z;obtain⟨o,z⟩:=m.ex;rw[e b o q z,←z];exact m
  sup:=r.sup
  out:=r.out
  bas:=λb o z=>e b o (λq=>by subst q;rw[h3] at z;cases z) (r.bas b o z)
  io0:=r.io0
  len:=by rw[X4];exact r.len}
end
def OT (K:WH)(m:Md)(A:W7->Prop)(H:Hp):R U->VK->Prop
 | .ok u,Q=>∀v H',aG H H'->Ci K m A H H' u v->Q v H'
 |_,_=>False
noncomputable def yS {α:Type}(n:Nat)(g:List U->R α)(us:List U):R α:=if us.length=n then g us else .stk
def jD (K:WH)(n:Nat)(f:List U->R U)(m:Md):Sp:=λvs H Q _=>∃us A,aC K H A us vs/\(∀a,A a->Mu (H a))/\OT K m A H (yS n f us) Q
def Ar (K:WH)(n:Nat)(f:List U->R (U×U)):Sp:=λvs H Q _=>∃u0 us a0 vs' A,vs=.ref a0::vs'/\A a0/\jt K H A u0 a0/\aC K H A us vs'/\(∀a,A a->Mu (H a))/\match yS n f (u0::us) with
 | .ok (u,w)=>∀v H',(∀b o,b≠a0->H b=some o->H' b=some o)->jt K H' A w a0->Rp K H' A u v->Q v H'
 |_=>False
section
variable {e a b c:YO}{es rest:List YO}{p1:Pos}{b1 b2 b3:Bool}{m1 m2 m3 mr:Md}{g1 g2 g3:Ev->R (U×Ev)}{h1 h2:Ev->R (Bool×Ev)}{ga:Ev->R (List U×Ev)}
noncomputable def kz (n:Nat)(f:List U->R U)(ga:Ev->R (List U×Ev)):Ev->R (U×Ev):=λρ=>(ga ρ).bind λx=>(yS n f x.1).bind λz=>.ok (z,x.2)
theorem aY {f:List U->R U}(F:Fn X.prog X.w X.K X.mg X.base x k ps (jD X.K n f mr))(hr:eG k X.A)(ha:DA X G (e::es) b1 false ga)(hg:Gl X x:=by rfl)(z9:(x==("__debug__":Str))=false:=by decide)(he:W5 (e::es) X.env=(false,Z4 e X.env)::W5 es X.env:=by rfl)(oR:(Zl pos (W5 es X.env)).any (·.1)=false:=by rfl):DE X G (.Call (.Name x p1) (e::es) [] pos) b1 mr (kz n f ga):=⟨(wu F hr ha.un hg z9 he oR).to λσ H Q h=>by
 obtain⟨Z,A,ρ,q,f⟩:=h;obtain⟨⟨us,ρ1⟩,e1,f⟩:=f.bind;obtain⟨z,e2,f⟩:=f.bind;refine⟨Z,A,ρ,q,?_⟩;rw[e1];intro vs H1 q1 x1 s1 pY;show jD _ _ _ _ _ _ _ _;rw[Xt];refine⟨us,A,pY.rps,q1.mu,?_⟩;dsimp only at e2;rw[e2];exact λv H' sm vm=>f v H' (q1.same sm) (x1.trans (dR.same sm)) (oY s1 sm) (vm.e q1 sm)⟩
noncomputable def live (ρ:Ev)(i:Nat):Bool:=match ρ[i]? with
 |some (some _)=>true
 |_=>false
theorem uL (h:live ρ i=true):∃u,ρ[i]? = some (some u):=by
 unfold live at h;split at h
 ·rename_i u hu;exact⟨u,hu⟩
 ·cases h
noncomputable def oZ (n i:Nat)(f:List U->R (U×U))(ga:Ev->R (List U×Ev)):Ev->R (U×Ev):=λρ=>if live ρ i=true then (ga ρ).bind λx=>match x.2[i]? with
 |some (some u0)=>(yS n f (u0::x.1)).bind λz=>.ok (z.1,x.2.set i (some z.2))
 |_=>.stk
 else .stk
theorem bJ {y:Str}{f:List U->R (U×U)}(F:Fn X.prog X.w X.K X.mg X.base x k ps (Ar X.K n f))(hr:eG k X.A)(ha:DA X G es b1 false ga)(hN:X.N[i]? = some y:=by rfl)(hv:BY X.env.scope y:=by first|exact Or.inl rfl|exact Or.inr (Or.inl rfl)|exact Or.inr (Or.inr rfl))(c:G.is i=true:=by rfl)(hd:(y==("__debug__":Str))=false:=by decide)(lE:(y==("__classdict__":Str))=false:=by decide)(hs:W5 (.Name y p2::es) X.env=(false,Z4 (.Name y p2) X.env)::W5 es X.env:=by rfl)(hg:Gl X x:=by rfl)(z9:(x==("__debug__":Str))=false:=by decide)(oR:(Zl pos (W5 es X.env)).any (·.1)=false:=by rfl):DE X G (.Call (.Name x p1) (.Name y p2::es) [] pos) true .S (oZ n i f ga):=⟨(wu F hr (eI (gx hN hv hd lE) ha.un hs) hg z9 hs oR).to λσ H Q h=>by
 obtain⟨Z,A,ρ,q,f⟩:=h;unfold oZ at f;split at f
 ·rename_i hl;obtain⟨u00,hu0⟩:=uL hl;obtain⟨a0,h0,_⟩:=q.own c hu0;obtain⟨⟨us,ρ1⟩,e1,f⟩:=f.bind;dsimp only at f;split at f
  ·rename_i u0 hu;obtain⟨⟨z,w⟩,e2,f⟩:=f.bind;refine⟨.ref a0,h0,Z,A,ρ,q,?_⟩;rw[e1];intro vs H1 q1 x1 s1 pY;obtain⟨a0',k1,k2,_,_,k3⟩:=q1.own c hu;rw[h0] at k1;cases k1;show Ar _ _ _ _ _ _ _;rw[Xt];refine⟨u0,us,a0,vs,A,rfl,k2,k3,pY.rps,q1.mu,?_⟩;rw[e2];intro v H' em tp rp;exact f v H' (q1.put c hu h0 em tp) (x1.trans λb o nb z=>em b o (λy=>nb (y▸k2)) z) (λz=>nomatch z) rp
  ·exact f.elim
 ·exact f.elim⟩
def yT (K:WH)(T:String)(r:V->List V->Hp->VK->Prop)(p:U->List U->R (U×U)):Prop:=∀A H a u vs us z w Q,jt K H A u a->A a->aC K H A us vs->(∀a,A a->Mu (H a))->p u us=.ok (z,w)->
 (∀v H',(∀b o,b≠a->H b=some o->H' b=some o)->jt K H' A w a->Rp K H' A z v->Q v H')->r (.ref a) vs H Q
noncomputable def yU:U->String->Bool
 | .lst _,T=>T=="list"
 |_,_=>false
theorem Ea {a:W7}(h:jt K H A u a)(t:yU u T=true):QK K T (.ref a) H:=by
 cases u<;>(unfold yU at t;unfold jt at h)
 case lst us=>
  obtain⟨xs,q,_⟩:=h;exact .inl ⟨by simpa using t,xs,.inl (.inl q)⟩
 all_goals cases t
noncomputable def gM (T:String)(i:Nat)(p:U->List U->R (U×U))(ga:Ev->R (List U×Ev)):Ev->R (U×Ev):=λρ=>match ρ[i]? with
 |some (some u1)=>if yU u1 T=true then (ga ρ).bind λx=>match x.2[i]? with
  |some (some u0)=>(p u0 x.1).bind λz=>.ok (z.1,x.2.set i (some z.2))
  |_=>.stk
  else .stk
 |_=>.stk
theorem Eb {r:V->List V->Hp->VK->Prop}{p:U->List U->R (U×U)}(hp:yT X.K T r p)(c:G.is i=true){Q:VK}(h:tD X.K G true .S (gM T i p ga) σ H Q) :
  To X.K T r (G2 i) (RP X.K G b1 false ga) σ H Q:=by
 obtain⟨Z,A,ρ,q,f⟩:=h;unfold gM at f;split at f
 ·rename_i u1 mR;split at f
  ·rename_i ht;obtain⟨a0,h0,_,_,_,t0⟩:=q.own c mR;obtain⟨⟨us,ρ1⟩,e1,f⟩:=f.bind;dsimp only at f;split at f
   ·rename_i u0 hu;obtain⟨⟨z,w⟩,e2,f⟩:=f.bind;refine⟨.ref a0,h0,Ea t0 ht,Z,A,ρ,q,?_⟩;rw[e1];intro vs H1 q1 x1 s1 pY;obtain⟨a0',k1,k2,_,_,k3⟩:=q1.own c hu;rw[h0] at k1;cases k1;exact hp A H1 a0 u0 vs us z w Q k3 k2 pY.rps q1.mu e2 λv H' em tp rp=>f v H' (q1.put c hu h0 em tp) (x1.trans λb o nb z=>em b o (λy=>nb (y▸k2)) z) (λz=>nomatch z) rp
   ·exact f.elim
  ·exact f.elim
 ·exact f.elim
theorem Cj {r:V->List V->Hp->VK->Prop}{p:U->List U->R (U×U)}(hp:yT X.K T r p)(c:G.is i=true){Q:VK}(h:tD X.K G true .S (gM T i p aq) σ H Q) :
  OA X.K T r (G2 i) σ H Q:=by
 obtain⟨Z,A,ρ,q,f⟩:=h;unfold gM at f;split at f
 ·rename_i u1 mR;split at f
  ·rename_i ht;obtain⟨a0,h0,k2,_,_,t0⟩:=q.own c mR;obtain⟨⟨us,ρ1⟩,e1,f⟩:=f.bind;cases e1;dsimp only at f;rw[mR] at f;obtain⟨⟨z,w⟩,e2,f⟩:=f.bind;exact⟨.ref a0,h0,Ea t0 ht,hp A H a0 u1 [] [] z w Q t0 k2 aC.nil q.mu e2 λv H' em tp rp=>f v H' (q.put c mR h0 em tp) (λb o nb z=>em b o (λy=>nb (y▸k2)) z) (λz=>nomatch z) rp⟩
  ·exact f.elim
 ·exact f.elim
theorem Ec {id:String}{y name:Str}{cI:Pos}{r:V->List V->Hp->VK->Prop}{p:U->List U->R (U×U)}(pa:PlainAttrs T)(slot:Slot T name id)(Nn:typeOf (.builtin id)=pure (.type "method_descriptor"))(hm:GL X id r)(hp:yT X.K T r p)(ha:DA X G (e::es) b1 false ga)(hN:X.N[i]? = some y:=by rfl)(hv:BY X.env.scope y:=by first|exact Or.inl rfl|exact Or.inr (Or.inl rfl)|exact Or.inr (Or.inr rfl))(c:G.is i=true:=by rfl)(hd:(y==("__debug__":Str))=false:=by decide)(lE:(y==("__classdict__":Str))=false:=by decide)(mO:ZR (.Name y p2) name X.env (Z4 (.Name y p2) X.env)=Z4 (.Name y p2) X.env:=by rfl)(GA:((Zl pos (W5 (e::es) X.env)).all (λx=> !x.1)&&(backToKw pos (abR [] X.env)).all (λx=>x.1.isSome)
   && decide ((e::es).length+([]:List abA).length+(if ([]:List abA).isEmpty then 0 else 1)<30))=true:=by rfl)(mP:(cI.endLine==pos.line)=true:=by rfl)(hs:W5 (e::es) X.env=(false,Z4 e X.env)::W5 es X.env:=by rfl)(rV:(Zl pos (W5 es X.env)).any (·.1)=false:=by rfl) :
  DE X G (.Call (.Attribute (.Name y p2) name cI) (e::es) [] pos) true .S (gM T i p ga):=⟨(Ju pa slot Nn hm (gx hN hv hd lE) ha.un mO GA mP hs rV).to λ_ _ _=>Eb hp c⟩
theorem HF {id:String}{y name:Str}{cI:Pos}{r:V->List V->Hp->VK->Prop}{p:U->List U->R (U×U)}(pa:PlainAttrs T)(slot:Slot T name id)(Nn:typeOf (.builtin id)=pure (.type "method_descriptor"))(hm:GL X id r)(hp:yT X.K T r p)(hN:X.N[i]? = some y:=by rfl)(hv:BY X.env.scope y:=by first|exact Or.inl rfl|exact Or.inr (Or.inl rfl)|exact Or.inr (Or.inr rfl))(c:G.is i=true:=by rfl)(hd:(y==("__debug__":Str))=false:=by decide)(lE:(y==("__classdict__":Str))=false:=by decide)(mO:ZR (.Name y p2) name X.env (Z4 (.Name y p2) X.env)=Z4 (.Name y p2) X.env:=by rfl)(mP:(cI.endLine==pos.line)=true:=by rfl) :
  DE X G (.Call (.Attribute (.Name y p2) name cI) [] [] pos) true .S (gM T i p aq):=⟨(Lw pa slot Nn hm (gx hN hv hd lE) mO mP).to λ_ _ _=>Cj hp c⟩
def Ed (K:WH)(r:V->Option Int->Option Int->Hp->VK->Prop)(m:Md)(p:U->Option Int->Option Int->R U):Prop:=∀A H x u lo hi z Q,Pk K H A u x->(∀a,A a->Mu (H a))->p u lo hi=.ok z->(∀v H',aG H H'->Ci K m A H H' z v->Q v H')->r x lo hi H Q
def RT (K:WH)(G:Gm)(Z:Pkg)(A:W7->Prop)(b:Bool)(ρ:Ev)(σ:St)(H:Hp):R (Option Int×Ev)->(Option Int->Hp->Prop)->Prop
 | .ok (c,ρ'),Q=>∀H',b_ K G Z A ρ' σ H'->dR A H H'->(b=false->ρ'=ρ/\aG H H')->Q c H'
 |_,_=>False
def UK (K:WH)(G:Gm)(b:Bool)(g:Ev->R (Option Int×Ev)):TO:=λσ H Q=>∃Z A ρ,b_ K G Z A ρ σ H/\RT K G Z A b ρ σ H (g ρ) Q
structure DO (X:Cx)(G:Gm)(e:Option YO)(b:Bool)(g:Ev->R (Option Int×Ev)):Prop where
 un:PO X e (UK X.K G b g)
noncomputable def dG:Ev->R (Option Int×Ev):=λρ=>.ok (none,ρ)
noncomputable def cV (g:Ev->R (U×Ev)):Ev->R (Option Int×Ev):=λρ=>(g ρ).bind λx=>match x.1 with
 | .int i=>.ok (some i,x.2)
 |_=>.stk
theorem PO.to {e:Option YO}{t t':TO}(h:PO X e t)(i:∀σ H Q,t' σ H Q->t σ H Q):PO X e t':=λpins s σ H Q I q=>h pins s σ H Q I (i _ _ _ q)
theorem i4:DO X G none false dG:=⟨Hi.to λσ H Q ⟨Z,A,ρ,q,f⟩=>f H q dR.refl λ_=>⟨rfl,aG.refl _⟩⟩
theorem f6 (h:DE X G e b1 m1 g1):DO X G (some e) b1 (cV g1):=⟨(Hj h.un).to λσ H Q h00=>by
 obtain⟨Z,A,ρ,q,f⟩:=h00;refine⟨Z,A,ρ,q,?_⟩;unfold cV at f;cases e1:g1 ρ with
 |stk=>rw[e1] at f;exact f.elim
 |exc=>rw[e1] at f;exact f.elim
 |ok x=>
  obtain⟨u,ρ1⟩:=x;rw[e1] at f;intro v H1 q1 x1 s1 vm;cases u with
  |int c=>exact⟨c,vm.pk.int,f H1 q1 x1 s1⟩
  |_=>exact f.elim⟩
noncomputable def qo (p:U->Option Int->Option Int->R U)(g:Ev->R (U×Ev))(lo hi:Ev->R (Option Int×Ev)):Ev->R (U×Ev):=λρ=>(g ρ).bind λx=>(lo x.2).bind λl=>(hi l.2).bind λh=>(p x.1 l.1 h.1).bind λz=>.ok (z,h.2)
theorem fG {r:V->Option Int->Option Int->Hp->VK->Prop}{p:U->Option Int->Option Int->R U}{lo hi:Option YO}{gl gh:Ev->R (Option Int×Ev)}(hr:DB X r)(hp:Ed X.K r mr p)(he:DE X G e b1 m1 g1)(hl:DO X G lo b2 gl)(hu:DO X G hi b3 gh)(hm:m1=.P->(b2||b3)=false:=by first|exact λ_=>rfl|exact λh=>nomatch h):DE X G (.Subscript e (.Slice lo hi none p2) pos) (b1||(b2||b3)) mr (qo p g1 gl gh):=⟨(DC hr he.un hl.un hu.un).to λσ H Q h=>by
 obtain⟨Z,A,ρ,q,f⟩:=h;obtain⟨⟨u,ρ1⟩,e1,f⟩:=f.bind;obtain⟨⟨l,ρ2⟩,e2,f⟩:=f.bind;obtain⟨⟨h,ρ3⟩,e3,f⟩:=f.bind;obtain⟨z,e4,f⟩:=f.bind;dsimp only at e2 e3 e4 f;refine⟨Z,A,ρ,q,?_⟩;rw[e1];intro v1 H1 q1 x1 s1 pY;refine⟨Z,A,ρ1,q1,?_⟩;rw[e2];intro H2 q2 x2 s2;refine⟨Z,A,ρ2,q2,?_⟩;rw[e3];intro H3 q3 x3 s3;exact hp A H3 v1 u l h z Q (pY.later q1 (x2.trans x3) (two s2 s3) hm) q3.mu e4 λv H' sm vm=>f v H' (q3.same sm) ((x1.trans (x2.trans x3)).trans (dR.same sm)) (oY (two s1 (two s2 s3)) sm) (vm.e q3 sm)⟩
end
end L2
namespace L2
def RU (K:WH)(G:Gm)(sg:U->Ev->R Ev):TG:=λv σ H Q=>∃Z A ρ u,b_ K G Z A ρ σ H/\Rp K H A u v/\match sg u ρ with
 | .ok ρ'=>∀σ',b_ K G Z A ρ' σ' H->(∀i,G.is i=true->σ'[i]? = σ[i]?)->Q σ' H
 |_=>False
structure DG (X:Cx)(G:Gm)(tg:YO)(sg:U->Ev->R Ev):Prop where
 un:PG X tg (RU X.K G sg)
def RV (K:WH)(G:Gm)(sg:List U->Ev->R Ev):G5:=λvs σ H Q=>∃Z A ρ us,b_ K G Z A ρ σ H/\aC K H A us vs/\match sg us ρ with
 | .ok ρ'=>∀σ',b_ K G Z A ρ' σ' H->(∀i,G.is i=true->σ'[i]? = σ[i]?)->Q σ' H
 |_=>False
structure QM (X:Cx)(G:Gm)(tgs:List YO)(sg:List U->Ev->R Ev):Prop where
 un:Js X tgs (RV X.K G sg)
noncomputable def bH (i:Nat):U->Ev->R Ev:=λu ρ=>.ok (ρ.set i (some u))
noncomputable def cC:List U->Ev->R Ev:=λus ρ=>match us with
 | []=>.ok ρ
 |_=>.stk
noncomputable def aE (s:U->Ev->R Ev)(t:List U->Ev->R Ev):List U->Ev->R Ev:=λus ρ=>match us with
 |u::r=>(s u ρ).bind λρ1=>t r ρ1
 |_=>.stk
noncomputable def cD (n:Nat)(t:List U->Ev->R Ev):U->Ev->R Ev:=λu ρ=>match u with
 | .tup us=>if us.length=n then t us ρ else .stk
 |_=>.stk
theorem Js.to {es:List YO}{t t':G5}(h:Js X es t)(i:∀v σ H Q,t' v σ H Q->t v σ H Q):Js X es t':=λpins s σ H v u Q I r q=>h pins s σ H v u Q I r (i _ _ _ _ q)
theorem aL (hN:X.N.Nodup)(hi:X.N[i]? = some x:=by rfl)(hx:Jr X.env.scope x:=by first|exact Or.inl rfl|exact Or.inr rfl)(c:G.is i=false:=by rfl)(hf:X.fn x=true\/X.env.scope.names.lookup x=some .local:=by first|exact .inl rfl|exact .inr rfl|assumption):DG X G (.Name x pos) (bH i):=⟨(G6 hN hi hx hf).to λv σ H Q ⟨Z,A,ρ,u,q,r,f⟩=>f _ (q.set c r) λj cj=>by
  have:i≠j:=λz=>by subst z;rw[c] at cj;cases cj
  rw[Xs this]⟩
theorem ij:QM X G [] cC:=⟨G7.to λvs σ H Q h00=>by
 obtain⟨Z,A,ρ,us,q,r,f⟩:=h00;unfold cC at f;cases us with
 |nil=>unfold aC at r;exact⟨r,f σ q λ_ _=>rfl⟩
 |cons=>exact f.elim⟩
theorem bK {e:YO}{es:List YO}{s:U->Ev->R Ev}{t:List U->Ev->R Ev}(h1:DG X G e s)(h2:QM X G es t)
  (hs:(ZX (e::es) X.env).map (·.2)=assign e X.env::(ZX es X.env).map (·.2):=by rfl):QM X G (e::es) (aE s t):=⟨(Dn h1.un h2.un hs).to λvs σ H Q h00=>by
 obtain⟨Z,A,ρ,us,q,r,f⟩:=h00;unfold aE at f;cases us with
 |nil=>exact f.elim
 |cons u us=>
  unfold aC at r;obtain⟨v,vr,rfl,r1,r2⟩:=r;dsimp only at f;refine⟨v,vr,rfl,Z,A,ρ,u,q,r1,?_⟩;cases e1:s u ρ with
  |ok ρ1=>
   rw[e1] at f;simp only[R.bind] at f;intro σ1 q1 o1;refine⟨Z,A,ρ1,us,q1,r2,?_⟩;cases e2:t us ρ1 with
   |ok ρ2=>rw[e2] at f;exact λσ2 q2 o2=>f σ2 q2 λi c=>(o2 i c).trans (o1 i c)
   |exc=>rw[e2] at f;exact f.elim
   |stk=>rw[e2] at f;exact f.elim
  |exc=>rw[e1] at f;exact f.elim
  |stk=>rw[e1] at f;exact f.elim⟩
theorem jE {es:List YO}{t:List U->Ev->R Ev}(hc:X.calm=true)(h:QM X G es t)(hn:(ZX es X.env).length=n:=by rfl)(iB:(ZX es X.env).findIdx? (·.1)=none:=by rfl):DG X G (.Tuple es k pos) (cD n t):=⟨(Le hc h.un hn iB).to λv σ H Q h00=>by
 obtain⟨Z,A,ρ,u,q,r,f⟩:=h00;unfold cD at f;cases u with
 |tup us=>
  unfold Rp at r;obtain⟨a,xs,rfl,sq,l,rs⟩:=r;dsimp only at f;by_cases hl:us.length=n
  ·rw[hZ hl] at f;exact⟨a,xs,rfl,fQ.of sq,by rw[←rs.length];exact hl,Z,A,ρ,us,q,rs,f⟩
  ·rw[hV hl] at f;exact f.elim
 |_=>exact f.elim⟩
def UL (K:WH)(Z:Pkg)(m:Md)(H:Hp)(u:U)(v:V):Prop:=match m with
 | .S=>Rp K H Z.A0 u v
 | .O=>∃a,v=.ref a/\Z.B a=none/\¬Z.A0 a/\jt K H (λb=>Z.A0 b\/b=a) u a
 | .P=>False
def qp (K:WH)(G:Gm)(Z:Pkg)(m:Md):SR->kT->Prop
 | .nx ρ',D=>∀A' σ' H',b_ K G Z A' ρ' σ' H'->D.nx σ' H'
 | .bk ρ',D=>∀A' σ' H',b_ K G Z A' ρ' σ' H'->D.bk σ' H'
 | .ct ρ',D=>∀A' σ' H',b_ K G Z A' ρ' σ' H'->D.ct σ' H'
 | .rt u ρ',D=>∀A' σ' H' v,b_ K G Z A' ρ' σ' H'->UL K Z m H' u v->D.rt v H'
 | .exc _ _,_=>∀H',(∀a o,Z.B a=some o->H' a=some o)->G.W H'
 | .stk,_=>False
def NK (K:WH)(G:Gm)(m:Md)(g:Ev->SR):TS:=λD σ H=>∃Z A ρ,b_ K G Z A ρ σ H/\qp K G Z m (g ρ) D
structure DS (X:Cx)(G:Gm)(m:Md)(st:abM)(g:Ev->SR):Prop where
 un:PS X st (NK X.K G m g)
structure yV (X:Cx)(G:Gm)(m:Md)(st:List abM)(g:Ev->SR):Prop where
 un:sd X st (NK X.K G m g)
noncomputable def fH:Ev->SR:=.nx
noncomputable def aR (g1 g2:Ev->SR):Ev->SR:=λρ=>match g1 ρ with
 | .nx ρ'=>g2 ρ'
 |r=>r
noncomputable def SR.of {α:Type}:R α->(α->SR)->SR
 | .ok a,f=>f a
 |_,_=>.stk
section
variable {m:Md}{α:Type}
theorem qp.of {x:R α}{k:α->SR}{D:kT}(f:qp K G Z m (SR.of x k) D):∃a,x=.ok a/\qp K G Z m (k a) D:=by
 cases x with
 |ok a=>exact⟨a,rfl,f⟩
 |exc=>exact f.elim
 |stk=>exact f.elim
end
section
variable {e a b c:YO}{Qt rest:List abM}{es:List YO}{p1:Pos}{b1 b2 b3:Bool}{m m1 m2 m3 mr:Md}{g1 g2 g3:Ev->R (U×Ev)}{h1 h2:Ev->R (Bool×Ev)}{ga:Ev->R (List U×Ev)}{s1 s2:Ev->SR}
theorem cP:yV X G m [] fH:=⟨G4.to λD σ H ⟨Z,A,ρ,q,f⟩=>f A σ H q⟩
theorem aB (h:DS X G m st s1):yV X G m [st] s1:=⟨Ag h.un⟩
theorem ah (ha:DS X G m st s1)(hb:yV X G m rest s2):yV X G m (st::rest) (aR s1 s2):=⟨(Dm ha.un hb.un).to λD σ H h00=>by
 obtain⟨Z,A,ρ,q,f⟩:=h00;refine⟨Z,A,ρ,q,?_⟩;unfold aR at f;cases e:s1 ρ with
 |nx ρ1=>rw[e] at f;exact λA1 σ1 H1 q1=>⟨Z,A1,ρ1,q1,f⟩
 |rt=>rw[e] at f;exact f
 |bk=>rw[e] at f;exact f
 |ct=>rw[e] at f;exact f
 |exc=>rw[e] at f;exact f
 |stk=>rw[e] at f;exact f⟩
noncomputable def LV:Ev->SR:=.bk
noncomputable def OU:Ev->SR:=.ct
noncomputable def qr (g:Ev->R (U×Ev)):Ev->SR:=λρ=>SR.of (g ρ) λx=>.nx x.2
theorem As (h:DE X G e b1 m1 g1)(hs:abq e none pos.line X.env=pure false:=by rfl):DS X G m (.Expr e pos) (qr g1):=⟨(Ah h.un hs).to λD σ H h00=>by
 obtain⟨Z,A,ρ,q,f⟩:=h00;obtain⟨⟨u,ρ1⟩,e1,f⟩:=f.of;refine⟨Z,A,ρ,q,?_⟩;rw[e1];exact λv H1 q1 _ _ _=>f A σ H1 q1⟩
noncomputable def cE (g:Ev->R (U×Ev)):Ev->SR:=λρ=>SR.of (g ρ) λx=>.rt x.1 x.2
theorem bq (h:DE X G e b1 m1 g1)(hn:m1≠.P:=by decide):DS X G .S (.Return (some e) pos) (cE g1):=⟨(yy h.un).to λD σ H h00=>by
 obtain⟨Z,A,ρ,q,f⟩:=h00;obtain⟨⟨u,ρ1⟩,e1,f⟩:=f.of;refine⟨Z,A,ρ,q,?_⟩;rw[e1];exact λv H1 q1 _ _ vm=>f A σ H1 v q1 ((vm.rp hn).mono q1.sup)⟩
theorem pM (h:DE X G e b1 .O g1):DS X G .O (.Return (some e) pos) (cE g1):=⟨(yy h.un).to λD σ H h00=>by
 obtain⟨Z,A,ρ,q,f⟩:=h00;obtain⟨⟨u,ρ1⟩,e1,f⟩:=f.of;refine⟨Z,A,ρ,q,?_⟩;rw[e1];intro v H1 q1 _ _ vm;obtain⟨a,rfl,na,nb,_,t⟩:=vm;exact f A σ H1 _ q1 ⟨a,rfl,nb,λz=>na (q1.sup a z),t.mono λb z=>z.imp (q1.sup b) id⟩⟩
theorem Au (hm:m≠.P:=by decide)(hi:G.io=true->i≠0)(hN:X.N[i]? = some x:=by rfl)(hv:BY X.env.scope x:=by first|exact Or.inl rfl|exact Or.inr (Or.inl rfl)|exact Or.inr (Or.inr rfl))(hd:(x==("__debug__":Str))=false:=by decide)(lE:(x==("__classdict__":Str))=false:=by decide)(c:G.is i=true:=by rfl):DS X G m (.Return (some (.Name x p1)) pos) (cE (af i)):=⟨(yy (gx hN hv hd lE)).to λD σ H h00=>by
 obtain⟨Z,A,ρ,q,f⟩:=h00;obtain⟨⟨u,ρ1⟩,e1,f⟩:=f.of;unfold af at e1;split at e1
 ·rename_i u' hu;cases e1;obtain⟨a,h1,h2,h3,h4,h5⟩:=q.own c hu;have na:¬Z.A0 a:=by
   rcases h4 with h4|⟨h4,h6⟩
   ·exact h4
   ·exact absurd h6 (hi h4)
  refine⟨.ref a,h1,f A σ H _ q ?_⟩;cases m with
  |S=>exact h5.rp q.sup na
  |O=>exact⟨a,rfl,h3,na,h5.mono λb z=>by
    rcases z with z|z
    ·exact q.sup b z
    ·subst z;exact h2⟩
  |P=>exact absurd rfl hm
 ·cases e1⟩
noncomputable def bB (i:Nat)(g:Ev->R (U×Ev)):Ev->SR:=λρ=>SR.of (g ρ) λx=>.nx (x.2.set i (some x.1))
theorem Ee (c:G.is i=false)(hn:m1≠.P)(hi:∀σ H Q,tD X.K G b1 m1 g1 σ H Q->te σ H Q){D:kT}(h:NK X.K G m (bB i g1) D σ H):G8 te (Ai i) D σ H:=by
 obtain⟨Z,A,ρ,q,f⟩:=h;obtain⟨⟨u,ρ1⟩,e1,f⟩:=f.of;refine hi _ _ _ ⟨Z,A,ρ,q,?_⟩;rw[e1];exact λv H1 q1 _ _ vm=>f A _ H1 (q1.set c (vm.rp hn))
theorem Ck (c:G.is i=true)(h0:G.io=true->i≠0)(hi:∀σ H Q,tD X.K G b1 .O g1 σ H Q->te σ H Q){D:kT}(h:NK X.K G m (bB i g1) D σ H):G8 te (Ai i) D σ H:=by
 obtain⟨Z,A,ρ,q,f⟩:=h;obtain⟨⟨u,ρ1⟩,e1,f⟩:=f.of;refine hi _ _ _ ⟨Z,A,ρ,q,?_⟩;rw[e1];intro v H1 q1 _ _ vm;obtain⟨a,rfl,na,nb,r,t⟩:=vm;exact f _ _ H1 (q1.setO c h0 na nb r t)
theorem aX (hN:X.N.Nodup)(h:DE X G e b1 m1 g1)(hi:X.N[i]? = some x:=by rfl)(hx:Jr X.env.scope x:=by first|exact Or.inl rfl|exact Or.inr rfl)(c:G.is i=false:=by rfl)(hn:m1≠.P:=by decide)(hs:abq e (some (.Name x p1)) pos.line X.env=pure false:=by rfl)(hf:X.fn x=true\/X.env.scope.names.lookup x=some .local:=by first|exact .inl rfl|exact .inr rfl|assumption):DS X G m (.Assign [.Name x p1] e pos) (bB i g1):=⟨(yz hN hi hx h.un hs hf).to λ_ _ _=>Ee c hn λ_ _ _ h=>h⟩
theorem ik (hN:X.N.Nodup)(h:DE X G e b1 .O g1)(h0:G.io=true->i≠0:=by decide)(hi:X.N[i]? = some x:=by rfl)(hx:Jr X.env.scope x:=by first|exact Or.inl rfl|exact Or.inr rfl)(c:G.is i=true:=by rfl)(hs:abq e (some (.Name x p1)) pos.line X.env=pure false:=by rfl)(hf:X.fn x=true\/X.env.scope.names.lookup x=some .local:=by first|exact .inl rfl|exact .inr rfl|assumption):DS X G m (.Assign [.Name x p1] e pos) (bB i g1):=⟨(yz hN hi hx h.un hs hf).to λ_ _ _=>Ck c h0 λ_ _ _ h=>h⟩
noncomputable def wz (i j:Nat):Ev->SR:=λρ=>match ρ[j]? with
 |some (some u)=>.nx ((ρ.set j none).set i (some u))
 |_=>.stk
theorem HG {y:Str}(hN:X.N.Nodup)(h0:G.io=true->j≠0:=by decide)(hj:X.N[j]? = some y:=by rfl)(hv:BY X.env.scope y:=by first|exact Or.inl rfl|exact Or.inr (Or.inl rfl)|exact Or.inr (Or.inr rfl))(hd:(y==("__debug__":Str))=false:=by decide)(lE:(y==("__classdict__":Str))=false:=by decide)(cj:G.is j=true:=by rfl)(hi:X.N[i]? = some x:=by rfl)(hx:Jr X.env.scope x:=by first|exact Or.inl rfl|exact Or.inr rfl)(c:G.is i=false:=by rfl)(hs:abq (.Name y p2) (some (.Name x p1)) pos.line X.env=pure false:=by rfl)(hf:X.fn x=true\/X.env.scope.names.lookup x=some .local:=by first|exact .inl rfl|exact .inr rfl|assumption):DS X G m (.Assign [.Name x p1] (.Name y p2) pos) (wz i j):=⟨(yz hN hi hx (gx hj hv hd lE) hs hf).to λD σ H h00=>by
 obtain⟨Z,A,ρ,q,f⟩:=h00;unfold wz at f;split at f
 ·rename_i u hu;obtain⟨a,A',h1,r,p⟩:=q.free cj h0 hu;exact⟨.ref a,h1,f A' _ H (r.set c p)⟩
 ·exact f.elim⟩
noncomputable def RW (sg:U->Ev->R Ev)(g:Ev->R (U×Ev)):Ev->SR:=λρ=>SR.of (g ρ) λx=>SR.of (sg x.1 x.2) .nx
noncomputable def HH (i j:Nat)(ga:Ev->R (List U×Ev)):Ev->SR:=λρ=>SR.of (ga ρ) λx=>match x.1 with
 | [u,w]=>.nx ((x.2.set i (some u)).set j (some w))
 |_=>.stk
theorem LW {y:Str}{a b:YO}{px py pt:Pos}{kt k2 pt2}(hc:X.calm=true)(hN:X.N.Nodup)(ha:DA X G [a,b] b1 false ga)(hi:X.N[i]? = some x:=by rfl)(hj:X.N[j]? = some y:=by rfl)(sO:i≠j:=by decide)(hx:X.env.scope.names.lookup x=some .local:=by rfl)(hy:X.env.scope.names.lookup y=some .local:=by rfl)(ci:G.is i=false:=by rfl)(cj:G.is j=false:=by rfl)(hw:swappedStores [.Tuple [.Name x px,.Name y py] kt pt] (.Tuple [a,b] k2 pt2) X.env=pure (some [x,y]):=by rfl)(hs:swapsWithSole [.Tuple [.Name x px,.Name y py] kt pt] (.Tuple [a,b] k2 pt2) pos.line X.env=pure false:=by rfl) :
  DS X G m (.Assign [.Tuple [.Name x px,.Name y py] kt pt] (.Tuple [a,b] k2 pt2) pos) (HH i j ga):=⟨(Lh hc hN hi hj sO hx hy ha.un hw hs).to λD σ H h00=>by
 obtain⟨Z,A,ρ,q,f⟩:=h00;obtain⟨⟨us,ρ1⟩,e1,f⟩:=f.of;refine⟨Z,A,ρ,q,?_⟩;rw[e1];intro vs H1 q1 _ _ vm;dsimp only at f;split at f
 ·rename_i u w;have r:=vm.rps;unfold aC at r;obtain⟨v,vr,rfl,r1,r2⟩:=r;unfold aC at r2;obtain⟨v2,vr2,rfl,r3,r4⟩:=r2;unfold aC at r4;subst r4;exact⟨v,v2,rfl,f A _ H1 ((q1.set ci r1).set cj r3)⟩
 ·exact f.elim⟩
noncomputable def wA (h:Ev->R (Bool×Ev))(s1 s2:Ev->SR):Ev->SR:=λρ=>SR.of (h ρ) λx=>if x.1=true then s1 x.2 else s2 x.2
theorem gD {c:YO}{a b:List abM}(hc:DT X G c b1 h1)(ha:yV X G m a s1)(hb:yV X G m b s2):DS X G m (.If c a b pos) (wA h1 s1 s2):=⟨(N7 hc.un ha.un hb.un).to λD σ H h00=>by
 obtain⟨Z,A,ρ,q,f⟩:=h00;obtain⟨⟨k,ρ1⟩,e1,f⟩:=f.of;refine⟨Z,A,ρ,q,?_⟩;rw[e1];intro H1 q1 _ _;cases k with
 |true=>rw[hZ rfl] at f ⊢;exact⟨Z,A,ρ1,q1,f⟩
 |false=>rw[hV WE] at f ⊢;exact⟨Z,A,ρ1,q1,f⟩⟩
noncomputable def fR (h:Ev->R (Bool×Ev))(s:Ev->SR):Nat->Ev->SR
 |0,_=>.stk
 |n+1,ρ=>SR.of (h ρ) λx=>if x.1=true then match s x.2 with
   | .nx ρ2=>fR h s n ρ2
   | .ct ρ2=>fR h s n ρ2
   | .bk ρ2=>.nx ρ2
   |r=>r
  else .nx x.2
theorem wB (hp:acI (Xg X.prog X.w) X.A X.env X.xe)(hc:DT X G c b1 h1)(hb:yV X G m body s1):DS X G m (.While c body [] pos) (fR h1 s1 n):=⟨(Dq hp hc.un hb.un).to λD σ H h00=>by
 obtain⟨Z,A,ρ,q,f⟩:=h00;refine⟨λk σ H=>∃A ρ,b_ X.K G Z A ρ σ H/\qp X.K G Z m (fR h1 s1 k ρ) D,⟨n,A,ρ,q,f⟩,?_⟩;rintro k σ H ⟨A,ρ,q,f⟩;cases k with
 |zero=>exact f.elim
 |succ k=>
  unfold fR at f;obtain⟨⟨t,ρ1⟩,e1,f⟩:=f.of;refine⟨Z,A,ρ,q,?_⟩;rw[e1];intro H1 q1 _ _;cases t with
  |false=>rw[hV WE] at f ⊢;exact f A σ H1 q1
  |true=>
   rw[hZ rfl] at f ⊢;refine⟨λσ H=>∃A ρ,b_ X.K G Z A ρ σ H/\qp X.K G Z m (fR h1 s1 k ρ) D,λσ' H' z=>⟨k,Nat.lt_succ_self k,z⟩,Z,A,ρ1,q1,?_⟩;dsimp only at f;cases e2:s1 ρ1 with
   |nx ρ2=>rw[e2] at f;exact λA2 σ2 H2 q2=>⟨A2,ρ2,q2,f⟩
   |ct ρ2=>rw[e2] at f;exact λA2 σ2 H2 q2=>⟨A2,ρ2,q2,f⟩
   |bk ρ2=>rw[e2] at f;exact f
   |rt=>rw[e2] at f;exact f
   |exc=>rw[e2] at f;exact f
   |stk=>rw[e2] at f;exact f⟩
end
end L2
namespace L2
def Wk (K:WH)(p:Bool)(A:W7->Prop)(us:List U)(J:It)(H1:Hp):Prop:=us.length<=WJ/\
 ∀H A',(if p=true then aG H1 H else dR A H1 H)->(∀b,A' b->A b\/H1 b=none)->(∀(i:Nat) (u:U),us[i]? = some u->J.go i H/\∀x H',J.yld i H x H'->aG H H'/\Rp K H' A' u x)/\J.stop us.length H
def QN (K:WH)(G:Gm)(b p:Bool)(gi:Ev->R (List U×Ev)):TI:=λσ H R=>∃Z A ρ,b_ K G Z A ρ σ H/\match gi ρ with
 | .ok (us,ρ')=>∀J H1,b_ K G Z A ρ' σ H1->dR A H H1->(b=false->ρ'=ρ/\aG H H1)->Wk K p A us J H1->R J H1
 |_=>False
structure DI (X:Cx)(G:Gm)(tg iter:YO)(b p:Bool)(gi:Ev->R (List U×Ev)):Prop where
 un:PI X tg iter (QN X.K G b p gi)
section
variable {e a b c:YO}{es:List YO}{p1:Pos}{b1 b2 b3:Bool}{m m1 m2 m3 mr:Md}{g1 g2 g3:Ev->R (U×Ev)}{h1 h2:Ev->R (Bool×Ev)}{ga:Ev->R (List U×Ev)}{s1 s2:Ev->SR}
theorem PI.to {t t':TI}(h:PI X tg e t)(i:∀σ H Q,t' σ H Q->t σ H Q):PI X tg e t':=λpins s σ H Q I q=>h pins s σ H Q I (i _ _ _ q)
theorem PI.or {t t':TI}(h:PI X tg e t)(h':PI X tg e t'):PI X tg e (λσ H R=>t σ H R\/t' σ H R):=λpins s σ H Q I q=>by
 rcases q with q|q
 ·exact h pins s σ H Q I q
 ·exact h' pins s σ H Q I q
noncomputable def OV:Md->Bool
 | .P=>true
 |_=>false
noncomputable def dO (g:Ev->R (U×Ev)):Ev->R (List U×Ev):=λρ=>(g ρ).bind λx=>match x.1 with
 | .lst us=>.ok (us,x.2)
 | .tup us=>.ok (us,x.2)
 | .scr us=>.ok (us,x.2)
 |_=>.stk
theorem HJ (q:b_ K G Z A ρ σ H1)(h:vV K G Z m1 A ρ σ H1 (.lst us) v):∃a,v=.ref a/\(∃xs,eF K H1 a xs)/\Wk K (OV m1) A us (QG K a) H1:=by
 have hp:=h.pk;unfold Pk at hp;obtain⟨a,xs,rfl,rd,l,rs⟩:=hp;refine⟨a,rfl,⟨xs,eF.of rd⟩,l,λH A' hs ha=>?_⟩;have st:H a=some (.lst xs)/\∀(i:Nat) (u:U),us[i]? = some u->∃x,xs[i]? = some x/\Rp K H A' u x:=by
  cases hm:OV m1 with
  |true=>
   rw[hm,hZ rfl] at hs;refine⟨hs a _ rd,λi u hu=>?_⟩;obtain⟨x,h1,h2⟩:=rs.get hu;exact⟨x,h1,h2.re q.mu (dR.same hs) ha⟩
  |false=>
   rw[hm,hV WE] at hs;have hn:m1≠.P:=λz=>by subst z;cases hm
   have hr:=h.rp hn;unfold Rp at hr;obtain⟨a',xs',e,na,rd',_,rs'⟩:=hr;cases e;refine⟨hs a _ na rd,λi u hu=>?_⟩;obtain⟨x,h1,h2⟩:=rs.get hu;exact⟨x,h1,h2.re q.mu hs ha⟩
 obtain⟨rd2,get⟩:=st;refine⟨λi u hu=>?_,⟨xs,eF.of rd2,by rw[←rs.length];exact WR _⟩⟩;obtain⟨x,h1,h2⟩:=get i u hu;refine⟨⟨xs,x,eF.of rd2,h1⟩,λy H' yl=>?_⟩;obtain⟨e,yl⟩:=yl;have e2:=yl xs (eF.of rd2);rw[h1] at e2;cases e2;subst e;exact⟨aG.refl _,h2⟩
theorem LX {p:Bool}(q:b_ K G Z A ρ σ H1)(h:Pk K H1 A (.tup us) v):∃a,v=.ref a/\(∃xs,fQ K H1 a xs)/\Wk K p A us (Rx K a) H1:=by
 unfold Pk at h;obtain⟨a,xs,rfl,sq,l,rs⟩:=h;refine⟨a,rfl,⟨xs,fQ.of sq⟩,l,λH A' hs ha=>?_⟩;have ex:dR A H1 H:=by
  cases p with
  |true=>rw[hZ rfl] at hs;exact dR.same hs
  |false=>rw[hV WE] at hs;exact hs
 have Nz:fQ K H a xs:=fQ.of (ex a _ (λz=>by have:=q.mu a z;rw[sq] at this;exact this) sq);refine⟨λi u hu=>?_,⟨xs,Nz,by rw[←rs.length];exact WR _⟩⟩;obtain⟨x,h1,h2⟩:=rs.get hu;refine⟨⟨xs,x,Nz,h1⟩,λy H' yl=>?_⟩;obtain⟨e,yl⟩:=yl;have e2:=yl xs Nz;rw[h1] at e2;cases e2;subst e;exact⟨aG.refl _,h2.re q.mu ex ha⟩
theorem LY {p:Bool}(q:b_ K G Z A ρ σ H1)(h:Pk K H1 A (.scr us) v):∃a,v=.ref a/\(∃xs,eF K H1 a xs)/\Wk K p A us (QG K a) H1:=by
 unfold Pk at h;obtain⟨a,xs,rfl,sq,l,rs⟩:=h;refine⟨a,rfl,⟨xs,sq.sq⟩,l,λH A' hs ha=>?_⟩;have ex:dR A H1 H:=by
  cases p with
  |true=>rw[hZ rfl] at hs;exact dR.same hs
  |false=>rw[hV WE] at hs;exact hs
 have Nz:eF K H a xs:=(sq.to λo y w=>ex a _ (λz=>by have:=q.mu a z;rw[w] at this;exact this) w).sq;refine⟨λi u hu=>?_,⟨xs,Nz,by rw[←rs.length];exact WR _⟩⟩;obtain⟨x,h1,h2⟩:=rs.get hu;refine⟨⟨xs,x,Nz,h1⟩,λy H' yl=>?_⟩;obtain⟨e,yl⟩:=yl;have e2:=yl xs Nz;rw[h1] at e2;cases e2;subst e;exact⟨aG.refl _,h2.re q.mu ex ha⟩
theorem eM (h:DE X G e b1 m1 g1):DI X G tg e b1 (OV m1) (dO g1):=⟨((G9 h.un).or (Lj h.un)).to λσ H RR h00=>by
 obtain⟨Z,A,ρ,q,f⟩:=h00;unfold dO at f;cases e1:g1 ρ with
 |stk=>rw[e1] at f;exact f.elim
 |exc=>rw[e1] at f;exact f.elim
 |ok y=>
  obtain⟨u,ρ1⟩:=y;rw[e1] at f;cases u with
  |lst us=>
   refine .inl ⟨Z,A,ρ,q,?_⟩;rw[e1];intro v H1 q1 x1 s1 vm;obtain⟨a,e,l,wk⟩:=HJ q1 vm;exact⟨a,e,l,f _ H1 q1 x1 s1 wk⟩
  |tup us=>
   refine .inr ⟨Z,A,ρ,q,?_⟩;rw[e1];intro v H1 q1 x1 s1 vm;obtain⟨a,e,l,wk⟩:=LX (p:=OV m1) q1 vm.pk;exact⟨a,e,l,f _ H1 q1 x1 s1 wk⟩
  |scr us=>
   refine .inl ⟨Z,A,ρ,q,?_⟩;rw[e1];intro v H1 q1 x1 s1 vm;obtain⟨a,e,l,wk⟩:=LY (p:=OV m1) q1 vm.pk;exact⟨a,e,l,f _ H1 q1 x1 s1 wk⟩
  |_=>exact f.elim⟩
noncomputable def aF (lo:Int)(n:Nat):List U:=(Xo n).map λi=>.int (lo+(i:Nat))
theorem Ef {lo:Int}{p:Bool}(h:n<=WJ):Wk K p A (aF lo n) (QH lo n) H1:=by
 have hl:(aF lo n).length=n:=by unfold aF;rw[WA,XJ]
 refine⟨by rw[hl];exact h,λH A' _ _=>⟨λi u hu=>?_,by rw[hl];exact WR _⟩⟩;unfold aF at hu;rw[W3] at hu;cases e:(Xo n)[i]? with
 |none=>rw[e] at hu;cases hu
 |some j=>
  rw[e] at hu;obtain⟨l1,l2⟩:=WL.mp e;rw[XJ] at l1;rw[List.getElem_range] at l2;subst l2;cases hu;refine⟨l1,λx H' y=>?_⟩;obtain⟨rfl,rfl⟩:=y;exact⟨aG.refl _,dY⟩
noncomputable def gE (ga:Ev->R (List U×Ev)):Ev->R (List U×Ev):=λρ=>(ga ρ).bind λx=>match x.1 with
 | [.int j]=>if -1000000<=j/\j<=1000000 then .ok (aF 0 j.toNat,x.2) else .stk
 |_=>.stk
theorem dA {a:YO}(ha:DA X G [a] b1 false ga)(hm:X.mg "range"=none)(hg:Gl X "range":=by rfl)(hs:W5 [a] X.env=[(false,Z4 a X.env)]:=by rfl):DI X G tg (.Call (.Name "range" p1) [a] [] pos) b1 false (gE ga):=⟨(B1 hg hm ha.un hs).to λσ H RR h00=>by
 obtain⟨Z,A,ρ,q,f⟩:=h00;unfold gE at f;cases e1:ga ρ with
 |stk=>rw[e1] at f;exact f.elim
 |exc=>rw[e1] at f;exact f.elim
 |ok y=>
  obtain⟨us,ρ1⟩:=y;rw[e1] at f;dsimp only[L2.R.bind] at f;refine⟨Z,A,ρ,q,?_⟩;rw[e1];intro vs H1 q1 x1 s1 vm;split at f
  ·rename_i Ud ρ' e2;split at e2
   ·rename_i j;split at e2
    ·rename_i hl;cases e2;have r:=vm.rps;unfold aC at r;obtain⟨v,vr,rfl,r1,r2⟩:=r;unfold aC at r2;subst r2;unfold Rp at r1;subst r1;exact⟨j,rfl,by lia,by lia,f _ H1 q1 x1 s1 (Ef (by have:WJ=16777216:=rfl;lia))⟩
    ·cases e2
   ·cases e2
  ·exact f.elim⟩
noncomputable def fY (sg:U->Ev->R Ev)(s:Ev->SR):List U->Ev->SR
 | [],ρ=>.nx ρ
 |u::us,ρ=>SR.of (sg u ρ) λρ1=>match s ρ1 with
   | .nx ρ2=>fY sg s us ρ2
   | .ct ρ2=>fY sg s us ρ2
   | .bk ρ2=>.nx ρ2
   |r=>r
noncomputable def m9 (gi:Ev->R (List U×Ev))(sg:U->Ev->R Ev)(s:Ev->SR):Ev->SR:=λρ=>SR.of (gi ρ) λx=>fY sg s x.1 x.2
open Classical in
noncomputable def Pkg.lp (Z:Pkg)(A:W7->Prop)(H:Hp):Pkg:={Z with B:=λb=>if A b/\Z.B b=none then none else H b}
theorem j6 {b:W7}(h1:A b)(h2:Z.B b=none):(Z.lp A H).B b=none:=by
 unfold Pkg.lp;dsimp only;exact hZ ⟨h1,h2⟩
theorem iq {b:W7}(h:¬(A b/\Z.B b=none)):(Z.lp A H).B b=H b:=by
 unfold Pkg.lp;dsimp only;exact hV h
theorem qt {b:W7}(h:(Z.lp A H).B b=none):(A b/\Z.B b=none)\/H b=none:=by
 by_cases c:A b/\Z.B b=none
 ·exact .inl c
 ·rw[iq c] at h;exact .inr h
theorem b_.lp (q:b_ K G Z A ρ σ H):b_ K G (Z.lp A H) A ρ σ H where
 slot:=λi u h=>by
  obtain⟨v,h1,h2⟩:=q.slot i u h;refine⟨v,h1,?_⟩;by_cases c:G.is i=true
  ·rw[hZ c] at h2 ⊢;obtain⟨a,e1,e2,e3,e4,e5⟩:=h2;exact⟨a,e1,e2,j6 e2 e3,e4,e5⟩
  ·rw[hV c] at h2 ⊢;exact h2
 dis:=q.dis
 mu:=q.mu
 sup:=q.sup
 out:=λa h=>(q.out a h).imp id λz=>j6 h z
 bas:=λa o h=>by
  by_cases c:A a/\Z.B a=none
  ·rw[j6 c.1 c.2] at h;cases h
  ·rw[iq c] at h;exact h
 io0:=q.io0
 len:=q.len
theorem b_.unlp {A':W7->Prop}{ρ':Ev}{σ':St}(q:b_ K G Z A ρ σ H)(q':b_ K G (Z.lp A H) A' ρ' σ' H'):b_ K G Z A' ρ' σ' H':=by
 have sub:∀a,(Z.lp A H).B a=none->Z.B a=none:=λa h=>by
  rcases qt h with z|h
  ·exact z.2
  ·cases e:Z.B a with
   |none=>rfl
   |some o=>rw[q.bas a o e] at h;cases h
 exact {
  slot:=λi u h=>by
   obtain⟨v,h1,h2⟩:=q'.slot i u h;refine⟨v,h1,?_⟩;by_cases c:G.is i=true
   ·rw[hZ c] at h2 ⊢;obtain⟨a,e1,e2,e3,e4,e5⟩:=h2;exact⟨a,e1,e2,sub a e3,e4,e5⟩
   ·rw[hV c] at h2 ⊢;exact h2
  dis:=q'.dis
  mu:=q'.mu
  sup:=q'.sup
  out:=λa h=>(q'.out a h).imp id (sub a)
  bas:=λa o h=>q'.bas a o (by
   rw[iq (λz=>by rw[h] at z;exact nomatch z.2)];exact q.bas a o h)
  io0:=q'.io0
  len:=q'.len}
theorem qp.lp {r:SR}{D:kT}(q:b_ K G Z A ρ σ H)(f:qp K G Z m r D):qp K G (Z.lp A H) m r D:=by
 cases r with
 |nx=>exact λA' σ' H' q'=>f A' σ' H' (q.unlp q')
 |bk=>exact λA' σ' H' q'=>f A' σ' H' (q.unlp q')
 |ct=>exact λA' σ' H' q'=>f A' σ' H' (q.unlp q')
 |rt u ρ'=>
  intro A' σ' H' v q' vm;refine f A' σ' H' v (q.unlp q') ?_;cases m with
  |S=>exact vm
  |P=>exact vm
  |O=>
   obtain⟨a,e,nb,na,t⟩:=vm;refine⟨a,e,?_,na,t⟩;rcases qt nb with z|h
   ·exact z.2
   ·cases e:Z.B a with
    |none=>rfl
    |some o=>rw[q.bas a o e] at h;cases h
 |exc=>exact λH' hb=>f H' λa o h=>hb a o (by
   rw[iq (λz=>by rw[h] at z;exact nomatch z.2)];exact q.bas a o h)
 |stk=>exact f.elim
theorem i5 {gi:Ev->R (List U×Ev)}(hp:acI (Xg X.prog X.w) X.A X.env X.xe)(hc:X.calm=true)(hi:DI X G tg iter b1 false gi)(hg:DG X G tg sg)(hb:yV X G m body s1)(hs:∀x,Za iter X.env x=pure x:=by intro _;rfl):DS X G m (.For tg iter body [] pos) (m9 gi sg s1):=⟨(Ap hp hc hi.un hg.un hb.un hs).to λD σ H h00=>by
 obtain⟨Z,A,ρ,q,f⟩:=h00;obtain⟨⟨us,ρ1⟩,e1,f⟩:=f.of;refine⟨Z,A,ρ,q,?_⟩;rw[e1];intro J H1 q1 x1 yn wk;dsimp only at f;obtain⟨hz,wk⟩:=wk;refine⟨λi k σ H=>i+k=us.length/\∃A' ρ',b_ X.K G (Z.lp A H1) A' ρ' σ H/\qp X.K G (Z.lp A H1) m (fY sg s1 (us.drop i) ρ') D,⟨us.length,by lia,A,ρ1,q1.lp,by rw[ZZ];exact f.lp q1⟩,?_⟩;rintro i k σ H ⟨hk,A',ρ',q',f'⟩;have ex:dR A H1 H:=λb o nb z=>q'.bas b o (by
  rw[iq (λy=>nb y.1)];exact z)
 have nw:∀b,A' b->A b\/H1 b=none:=λb z=>by
  rcases q'.out b z with y|y
  ·exact .inl (q1.sup b y)
  ·rcases qt y with w|h
   ·exact .inl w.1
   ·exact .inr h
 obtain⟨w1,w2⟩:=wk H A' (by rw[hV WE];exact ex) nw;by_cases sP:i<us.length
 ·have eu:us[i]? = some us[i]:=Wz sP;obtain⟨go,yl⟩:=w1 i _ eu;rw[XO sP] at f';unfold fY at f';obtain⟨ρ2,e2,f2⟩:=f'.of;refine .inr ⟨go,λσ H=>∃A' ρ',b_ X.K G (Z.lp A H1) A' ρ' σ H/\qp X.K G (Z.lp A H1) m (fY sg s1 (us.drop (i+1)) ρ') D,λσ' H' z=>⟨k-1,by lia,by lia,z⟩,λx H' y=>?_⟩;obtain⟨sm,rp⟩:=yl x H' y;refine⟨Z.lp A H1,A',ρ',us[i],q'.same sm,rp,?_⟩;rw[e2];intro σ2 q2 _;refine⟨Z.lp A H1,A',ρ2,q2,?_⟩;cases e3:s1 ρ2 with
  |nx ρ3=>rw[e3] at f2;exact λA3 σ3 H3 q3=>⟨A3,ρ3,q3,f2⟩
  |ct ρ3=>rw[e3] at f2;exact λA3 σ3 H3 q3=>⟨A3,ρ3,q3,f2⟩
  |bk ρ3=>rw[e3] at f2;exact f2
  |rt=>rw[e3] at f2;exact f2
  |exc=>rw[e3] at f2;exact f2
  |stk=>rw[e3] at f2;exact f2
 ·have e:i=us.length:=by lia
  subst e;rw[Zo] at f';exact .inl ⟨w2,f' A' σ H q'⟩⟩
end
end L2
namespace L2
noncomputable def iP (js:List (Option Nat))(ρ:Ev):Ev:=js.map λo=>match o with
 |none=>none
 |some j=>match ρ[j]? with
  |some v=>v
  |none=>none
noncomputable def uM (G:Gm)(js:List (Option Nat)):Gm:=⟨js.map λo=>match o with
 |none=>false
 |some j=>G.is j,false,λ_=>False⟩
noncomputable def o8:List (Option Nat)->Bool
 | []=>true
 |none::r=>o8 r
 |some j::r=> !(r.contains (some j))&&o8 r
theorem qu:∀{js:List (Option Nat)} {i k j:Nat},o8 js=true->js[i]? = some (some j)->js[k]? = some (some j)->i=k
 | [],_,_,_,_,h,_=>by simp at h
 |none::r,i,k,j,ok,h1,h2=>by
  unfold o8 at ok;cases i with
  |zero=>simp at h1
  |succ i=>
   cases k with
   |zero=>simp at h2
   |succ k=>exact congrArg (·+1) (qu (j:=j) ok (by simpa using h1) (by simpa using h2))
 |some j'::r,i,k,j,ok,h1,h2=>by
  unfold o8 at ok;rw[W6] at ok;have nm:∀n:Nat,r[n]? ≠ some (some j'):=λn h=>by
   have:=Yh h;simp at ok;exact ok.1 this
  cases i with
  |zero=>
   cases k with
   |zero=>rfl
   |succ k=>simp at h1 h2;subst h1;exact absurd h2 (nm k)
  |succ i=>
   cases k with
   |zero=>simp at h1 h2;subst h2;exact absurd h1 (nm i)
   |succ k=>exact congrArg (·+1) (qu (j:=j) ok.2 (by simpa using h1) (by simpa using h2))
theorem l6 (h:(iP js ρ)[i]? = some (some u)):∃j,js[i]? = some (some j)/\ρ[j]? = some (some u):=by
 unfold iP at h;rw[W3] at h;cases e:js[i]? with
 |none=>rw[e] at h;cases h
 |some o=>
  rw[e] at h;cases o with
  |none=>cases h
  |some j=>
   refine⟨j,rfl,?_⟩;have h:=Xa h;dsimp only at h;split at h
   ·rename_i v hv;rw[hv,h]
   ·cases h
theorem l7 (h:js[i]? = some (some j))(hv:σ[j]? = some (some v)):(s9 js σ)[i]? = some (some v):=by
 unfold s9;rw[W3,h];dsimp only[Option.map];rw[hv]
theorem qv (h:js[i]? = some (some j)):(uM G js).is i=G.is j:=by
 unfold uM Gm.is;dsimp only;rw[abw,W3,h];rfl
theorem Av (js:List (Option Nat))(ρ:Ev)(σ:St):(iP js ρ).length=(s9 js σ).length:=by
 unfold iP s9;rw[WA,WA]
section
variable {ρi:Ev}
theorem Aw (q:b_ K G Z A ρ σ H)(ok:o8 js=true):b_ K (uM G js) ⟨λ_=>False,λ_=>none,0⟩ A (iP js ρ) (s9 js σ) H where
 slot:=λi u h=>by
  obtain⟨j,h1,h2⟩:=l6 h;obtain⟨v,h3,h4⟩:=q.slot j u h2;refine⟨v,l7 h1 h3,?_⟩;rw[qv h1];by_cases c:G.is j=true
  ·rw[hZ c] at h4 ⊢;obtain⟨a,e1,e2,_,_,e5⟩:=h4;exact⟨a,e1,e2,rfl,.inl id,e5⟩
  ·rw[hV c] at h4 ⊢;exact h4
 dis:=λi k u w a ci ck ne hi hk si sk=>by
  obtain⟨j,h1,h2⟩:=l6 hi;obtain⟨j',KU,KW⟩:=l6 hk;rw[qv h1] at ci;rw[qv KU] at ck;obtain⟨b,e1,_⟩:=q.own ci h2;obtain⟨b',yp,_⟩:=q.own ck KW;rw[l7 h1 e1] at si;rw[l7 KU yp] at sk;cases si;cases sk;exact q.dis j j' u w a ci ck (λz=>ne (by subst z;exact qu ok h1 KU)) h2 KW e1 yp
 mu:=q.mu
 sup:=λ_ h=>h.elim
 out:=λ_ _=>.inr rfl
 bas:=λ_ _ h=>by cases h
 io0:=λh=>by cases h
 len:=Av js ρ σ
def HK (G:Gm)(js:List (Option Nat))(ρ:Ev)(σ:St)(a:W7):Prop:=∃(i j:Nat) (u:U),js[i]? = some (some j)/\G.is j=true/\ρ[j]? = some (some u)/\σ[j]? = some (some (.ref a))
open Classical in
noncomputable def LZ (G:Gm)(js:List (Option Nat))(A:W7->Prop)(ρ:Ev)(σ:St)(H:Hp):Pkg:=⟨λa=>A a/\¬HK G js ρ σ a,λa=>if HK G js ρ σ a then none else H a,0⟩
theorem qw (h:HK G js ρ σ a):(LZ G js A ρ σ H).B a=none:=by
 unfold LZ;dsimp only;exact hZ h
theorem l8 (h:¬HK G js ρ σ a):(LZ G js A ρ σ H).B a=H a:=by
 unfold LZ;dsimp only;exact hV h
theorem L0 (q:b_ K G Z A ρ σ H)(ok:o8 js=true):b_ K (uM G js) (LZ G js A ρ σ H) A (iP js ρ) (s9 js σ) H where
 slot:=λi u h=>by
  obtain⟨j,h1,h2⟩:=l6 h;obtain⟨v,h3,h4⟩:=q.slot j u h2;refine⟨v,l7 h1 h3,?_⟩;rw[qv h1];by_cases c:G.is j=true
  ·rw[hZ c] at h4 ⊢;obtain⟨a,e1,e2,_,_,e5⟩:=h4;subst e1;have cp:HK G js ρ σ a:=⟨i,j,u,h1,c,h2,h3⟩;exact⟨a,rfl,e2,qw cp,.inl λz=>z.2 cp,e5⟩
  ·rw[hV c] at h4 ⊢;exact h4
 dis:=(Aw q ok).dis
 mu:=q.mu
 sup:=λ_ h=>h.1
 out:=λa h=>by
  by_cases c:HK G js ρ σ a
  ·exact .inr (qw c)
  ·exact .inl ⟨h,c⟩
 bas:=λa o h=>by
  by_cases c:HK G js ρ σ a
  ·rw[qw c] at h;cases h
  ·rw[l8 c] at h;exact h
 io0:=λh=>by cases h
 len:=Av js ρ σ
noncomputable def jF:List (Option Nat)->Nat->Option Nat
 | [],_=>none
 |o::r,j=>if o=some j then some 0 else (jF r j).map (·+1)
theorem tj:∀{js:List (Option Nat)} {i j:Nat},jF js j=some i->js[i]? = some (some j)
 | [],_,_,h=>by cases h
 |o::r,i,j,h=>by
  unfold jF at h;split at h
  ·rename_i e;cases h;rw[e];rfl
  ·cases e:jF r j with
   |none=>rw[e] at h;cases h
   |some k=>
    rw[e] at h;cases h;rw[X_];exact tj e
theorem qx:∀{js:List (Option Nat)} {i j:Nat},jF js j=none->js[i]? ≠ some (some j)
 | [],_,_,_=>by simp
 |o::r,i,j,h=>by
  unfold jF at h;split at h
  ·cases h
  ·rename_i ne;cases e:jF r j with
   |some k=>rw[e] at h;cases h
   |none=>
    cases i with
    |zero=>intro z;exact ne (Xa z)
    |succ i=>rw[X_];exact qx e
noncomputable def wb (G:Gm)(js:List (Option Nat))(ρi ρ:Ev):Ev:=ρ.mapIdx λj x=>if (G.is j&&x.isSome)=true then (match jF js j with
 |some i=>(ρi[i]?).getD none
 |none=>x) else x
theorem yW (h:(wb G js ρi ρ)[j]? = some (some u)):∃u0,ρ[j]? = some (some u0)/\((G.is j=true/\∃i,jF js j=some i/\ρi[i]? = some (some u))\/(u0=u/\(G.is j=false\/jF js j=none))):=by
 unfold wb at h;rw[List.getElem?_mapIdx] at h;cases e:ρ[j]? with
 |none=>rw[e] at h;cases h
 |some x=>
  rw[e] at h;have h:=Xa h;cases x with
  |none=>simp at h
  |some u0=>
   refine⟨u0,rfl,?_⟩;dsimp only at h;by_cases c:G.is j=true
   ·rw[hZ (by rw[c];rfl)] at h;split at h
    ·rename_i i hi;refine .inl ⟨c,i,hi,?_⟩;cases e2:ρi[i]? with
     |none=>rw[e2] at h;cases h
     |some y=>rw[e2] at h;simp at h;rw[h]
    ·rename_i hi;exact .inr ⟨Xa h,.inr hi⟩
   ·have c:G.is j=false:=abf.mpr c;rw[hV (by rw[c];exact WE)] at h;exact .inr ⟨Xa h,.inl c⟩
theorem b_.wb {σ4:St}(q:b_ K G Z A ρ σ H)(ok:o8 js=true)(q':b_ K (uM G js) (LZ G js A ρ σ H) A ρi σ4 H')(ho:∀i,(uM G js).is i=true->σ4[i]? = (s9 js σ)[i]?):b_ K G Z A (L2.wb G js ρi ρ) σ H'/\dR A H H':=by
 have Qr:∀a,HK G js ρ σ a->A a/\Z.B a=none:=λa h00=>by
  obtain⟨i,j,u,h1,h2,h3,h4⟩:=h00;obtain⟨b,e1,e2,e3,_⟩:=q.own h2 h3;rw[h4] at e1;cases e1;exact⟨e2,e3⟩
 have ex:dR A H H':=λb o nb z=>q'.bas b o (by rw[l8 λc=>nb (Qr b c).1];exact z);refine⟨{
  slot:=λj u h=>?_
  dis:=λi k u w a ci ck ne hi hk si sk=>by
   obtain⟨u1,h1,_⟩:=yW hi;obtain⟨u2,h2,_⟩:=yW hk;exact q.dis i k u1 u2 a ci ck ne h1 h2 si sk
  mu:=q'.mu
  sup:=q.sup
  out:=q.out
  bas:=λa o h=>q'.bas a o (by
   rw[l8 λc=>by rw[(Qr a c).2] at h;cases h];exact q.bas a o h)
  io0:=q.io0
  len:=by unfold L2.wb;rw[List.length_mapIdx];exact q.len},ex⟩
 obtain⟨u0,h0,hh⟩:=yW h;rcases hh with⟨c,i,hi,hu⟩|⟨rfl,hc⟩
 ·have hj:=tj hi;obtain⟨a,e1,e2,e3,e4,_⟩:=q.own c h0;have ci:(uM G js).is i=true:=by rw[qv hj];exact c
  obtain⟨a',k1,k2,_,_,k5⟩:=q'.own ci hu;rw[ho i ci,l7 hj e1] at k1;cases k1;refine⟨.ref a,e1,?_⟩;rw[hZ c];exact⟨a,rfl,e2,e3,e4,k5⟩
 ·obtain⟨v,h1,h2⟩:=q.slot j u0 h0;refine⟨v,h1,?_⟩;by_cases c:G.is j=true
  ·rw[hZ c] at h2 ⊢;obtain⟨a,rfl,e2,e3,e4,e5⟩:=h2;have hc:jF js j=none:=by
    rcases hc with hc|hc
    ·rw[c] at hc;cases hc
    ·exact hc
   have nc:¬HK G js ρ σ a:=λh00=>by
    obtain⟨i,j',u,z1,z2,z3,z4⟩:=h00;have ne:j≠j':=λz=>by subst z;exact qx hc z1
    exact q.dis j j' u0 u a c z2 ne h0 z3 h1 z4
   exact⟨a,rfl,e2,e3,e4,e5.re q.mu ex (λb z=>.inl z) λo z=>q'.bas a o (by rw[l8 nc];exact z)⟩
  ·rw[hV c] at h2 ⊢;exact h2.re q.mu ex λb z=>.inl z
end
noncomputable def yt (f:U->R (Option U)):List U->R (List U)
 | []=>.ok []
 |u::us=>(f u).bind λo=>(yt f us).bind λr=>.ok (match o with
  |some y=>y::r
  |none=>r)
noncomputable def vW (js:List (Option Nat))(sg:U->Ev->R Ev)(gt:Ev->R (Bool×Ev))(ge:Ev->R (U×Ev))(ρ:Ev)(u:U):R (Option U):=
 (sg u (iP js ρ)).bind λρi=>(gt ρi).bind λc=>if c.1=true then (ge ρi).bind λy=>.ok (some y.1) else .ok none
noncomputable def jG (gi:Ev->R (List U×Ev))(js:List (Option Nat))(sg:U->Ev->R Ev)(gt:Ev->R (Bool×Ev))(ge:Ev->R (U×Ev)):Ev->R (U×Ev):=λρ=>
 (gi ρ).bind λx=>(yt (vW js sg gt ge x.2) x.1).bind λys=>.ok (.lst ys,x.2)
noncomputable def m_ (G:Gm)(js:List (Option Nat))(sg:U->Ev->R Ev)(gt:Ev->R (Bool×Ev))(ge:Ev->R (U×Ev)):List U->Ev->R (List U×Ev)
 | [],ρ=>.ok ([],ρ)
 |u::us,ρ=>(sg u (iP js ρ)).bind λρi=>(gt ρi).bind λc=>if c.1=true then (ge c.2).bind λy=>(m_ G js sg gt ge us (wb G js y.2 ρ)).bind λr=>.ok (y.1::r.1,r.2) else m_ G js sg gt ge us (wb G js c.2 ρ)
noncomputable def uN (G:Gm)(gi:Ev->R (List U×Ev))(js:List (Option Nat))(sg:U->Ev->R Ev)(gt:Ev->R (Bool×Ev))(ge:Ev->R (U×Ev)):Ev->R (U×Ev):=λρ=>
 (gi ρ).bind λx=>(m_ G js sg gt ge x.1 x.2).bind λy=>.ok (.lst y.1,y.2)
theorem R.bind_ok {α β:Type}{x:R α}{k:α->R β}{b:β}(h:x.bind k=.ok b):∃a,x=.ok a/\k a=.ok b:=by
 cases x with
 |ok a=>exact⟨a,rfl,h⟩
 |exc=>cases h
 |stk=>cases h
section
variable {e z_:YO}{b1 b2 b3 p:Bool}{m me:Md}{gi:Ev->R (List U×Ev)}{gt:Ev->R (Bool×Ev)}{ge:Ev->R (U×Ev)}
theorem Eg (ok:o8 js=true)(hn:me≠.P){Q:VK}(h:tD X.K G b1 .O (jG gi js sg gt ge) σ H Q) :
  RM (QN X.K G b1 p gi) js (λ_=>RU X.K (uM G js) sg) (λ_=>Hz X.K (uM G js) false gt) (λ_=>tD X.K (uM G js) false me ge) σ H Q:=by
 obtain⟨Z,A,ρ,q,f⟩:=h;obtain⟨⟨us,ρ1⟩,e1,f⟩:=f.bind;obtain⟨all,e2,f⟩:=f.bind;refine⟨Z,A,ρ,q,?_⟩;rw[e1];intro J H1 q1 x1 s1 ⟨hz,wk⟩ Y;dsimp only at e2 f;refine⟨λi k ys H2=>i+k=us.length/\aG H1 H2/\∃done rest,yt (vW js sg gt ge ρ1) (us.drop i)=.ok rest/\done++rest=all/\aC X.K H2 A done ys/\done.length<=i,
  ⟨us.length,by lia,aG.refl _,[],all,by rw[ZZ];exact e2,rfl,aC.nil,WR _⟩,?_⟩
 rintro i k ys H2 ⟨hk,sm,done,rest,e3,e4,rs,hd⟩;have q2:=q1.same sm;obtain⟨w1,w2⟩:=wk H2 A (by split;exact sm;exact dR.same sm) λb z=>.inl z;by_cases sP:i<us.length
 ·have eu:us[i]? = some us[i]:=Wz sP;obtain⟨go,yl⟩:=w1 i _ eu;rw[XO sP] at e3;unfold yt at e3;obtain⟨o,e5,e3⟩:=R.bind_ok e3;obtain⟨r,e6,e3⟩:=R.bind_ok e3;unfold vW at e5;obtain⟨ρi,e7,e5⟩:=R.bind_ok e5;obtain⟨⟨c,ρc⟩,e8,e5⟩:=R.bind_ok e5;refine .inr ⟨go,by rw[←rs.length];lia,λKZ H'=>aG H1 H'/\∃done,done++r=all/\aC X.K H' A done KZ/\done.length<=i+1,λKZ H' ⟨z1,dn,z2,z3,z4⟩=>⟨k-1,by lia,by lia,z1,dn,r,e6,z2,z3,z4⟩,λx H3 y=>?_⟩;obtain⟨sm3,rp⟩:=yl x H3 y;refine⟨_,A,iP js ρ1,us[i],(Aw (q2.same sm3) ok),rp,?_⟩;rw[e7];intro σ4 q4 _;refine⟨_,A,ρi,q4,?_⟩;rw[e8];intro H5 q5 x5 s5;obtain⟨rfl,sm5⟩:=s5 rfl;cases c with
  |false=>
   rw[hV WE] at e5 ⊢;cases e5;cases e3;exact⟨(sm.trans sm3).trans sm5,done,e4,(rs.same sm3).same sm5,by lia⟩
  |true=>
   rw[hZ rfl] at e5 ⊢;obtain⟨⟨y1,ρy⟩,e9,e5⟩:=R.bind_ok e5;cases e5;cases e3;refine⟨_,A,ρc,q5,?_⟩;rw[e9];intro v H6 q6 x6 s6 vm;obtain⟨rfl,sm6⟩:=s6 rfl;have Ue:=sm3.trans (sm5.trans sm6);exact⟨sm.trans Ue,done++[y1],by rw[W8];exact e4,(rs.same Ue).append (aC.cons (vm.rp hn) aC.nil),by rw[WN];simp;lia⟩
 ·have e:i=us.length:=by lia
  subst e;rw[Zo] at e3;cases e3;rw[Xt] at e4;subst e4;refine .inl ⟨w2,λa na=>?_⟩;have sn:=bQ na (.lst ys);exact f _ _ (q2.same sn) ((x1.trans (dR.same sm)).trans (dR.same sn)) (oY (oY s1 sm) sn) (Ci.e q2 sn ⟨a,rfl,na,bI q2.mu rs na (by lia)⟩)
theorem Eh (ok:o8 js=true)(hn:me≠.P){Q:VK}(h:tD X.K G true .O (uN G gi js sg gt ge) σ H Q) :
  RM (QN X.K G b1 false gi) js (λ_=>RU X.K (uM G js) sg) (λ_=>Hz X.K (uM G js) b2 gt) (λ_=>tD X.K (uM G js) b3 me ge) σ H Q:=by
 obtain⟨Z,A,ρ,q,f⟩:=h;obtain⟨⟨us,ρ1⟩,e1,f⟩:=f.bind;obtain⟨⟨all,ρe⟩,e2,f⟩:=f.bind;refine⟨Z,A,ρ,q,?_⟩;rw[e1];intro J H1 q1 x1 s1 ⟨hz,wk⟩ Y;dsimp only at e2 f;refine⟨λi k ys H2=>i+k=us.length/\dR A H1 H2/\∃ρ2 done rest,b_ X.K G Z A ρ2 σ H2/\m_ G js sg gt ge (us.drop i) ρ2=.ok (rest,ρe)/\done++rest=all/\aC X.K H2 A done ys/\done.length<=i,
  ⟨us.length,by lia,dR.refl,ρ1,[],all,q1,by rw[ZZ];exact e2,rfl,aC.nil,WR _⟩,?_⟩
 rintro i k ys H2 ⟨hk,ex,ρ2,done,rest,q2,e3,e4,rs,hd⟩;obtain⟨w1,w2⟩:=wk H2 A (by rw[hV WE];exact ex) λb z=>.inl z;by_cases sP:i<us.length
 ·have eu:us[i]? = some us[i]:=Wz sP;obtain⟨go,yl⟩:=w1 i _ eu;rw[XO sP] at e3;unfold m_ at e3;obtain⟨ρi,e7,e3⟩:=R.bind_ok e3;obtain⟨⟨c,ρc⟩,e8,e3⟩:=R.bind_ok e3;refine .inr ⟨go,by rw[←rs.length];lia,λKZ H'=>dR A H1 H'/\∃ρ2 done rest,b_ X.K G Z A ρ2 σ H'/\m_ G js sg gt ge (us.drop (i+1)) ρ2=.ok (rest,ρe)/\done++rest=all/\aC X.K H' A done KZ/\done.length<=i+1,λKZ H' z=>⟨k-1,by lia,by lia,z⟩,λx H3 y=>?_⟩;obtain⟨sm3,rp⟩:=yl x H3 y;have q3:=q2.same sm3;refine⟨LZ G js A ρ2 σ H3,A,iP js ρ2,us[i],L0 q3 ok,rp,?_⟩;rw[e7];intro σ4 q4 o4;refine⟨_,A,ρi,q4,?_⟩;rw[e8];intro H5 q5 x5 s5;dsimp only at e3;cases c with
  |false=>
   rw[hV WE] at e3 ⊢;obtain⟨q6,x6⟩:=q3.wb ok q5 o4;exact⟨ex.trans ((dR.same sm3).trans x6),_,done,rest,q6,e3,e4,(rs.same sm3).re q3.mu x6 (λb z=>.inl z),by lia⟩
  |true=>
   rw[hZ rfl] at e3 ⊢;obtain⟨⟨y1,ρy⟩,e9,e3⟩:=R.bind_ok e3;obtain⟨⟨r,ρr⟩,e10,e3⟩:=R.bind_ok e3;cases e3;refine⟨_,A,ρc,q5,?_⟩;rw[e9];intro v H6 q6 x6 s6 vm;obtain⟨q7,x7⟩:=q3.wb ok q6 o4;exact⟨ex.trans ((dR.same sm3).trans x7),_,done++[y1],r,q7,e10,by rw[W8];exact e4,((rs.same sm3).re q3.mu x7 (λb z=>.inl z)).append (aC.cons (vm.rp hn) aC.nil),by rw[WN];simp;lia⟩
 ·have e:i=us.length:=by lia
  subst e;rw[Zo] at e3;cases e3;rw[Xt] at e4;subst e4;refine .inl ⟨w2,λa na=>?_⟩;have sn:=bQ na (.lst ys);exact f _ _ (q2.same sn) ((x1.trans ex).trans (dR.same sn)) (λz=>nomatch z) (Ci.e q2 sn ⟨a,rfl,na,bI q2.mu rs na (by lia)⟩)
structure L7 (X:Cx)(G:Gm)(yw:List YO)(b:Bool)(h:Ev->R (Bool×Ev)):Prop where
 un:Ht X yw (Hz X.K G b h)
noncomputable def c8:Ev->R (Bool×Ev):=λρ=>.ok (true,ρ)
theorem bL:L7 X G [] false c8:=⟨λpins s σ H Q I ⟨Z,A,ρ,q,f⟩=>DX pins s σ H Q I (f H q dR.refl λ_=>⟨rfl,aG.refl _⟩)⟩
theorem iD (oT:Scope)(NX N:List Str)(js:List (Option Nat))(hc:X.calm=true)(hi:DI X G tg iter b1 p gi)(C_:∀Y:uD,DG (fB X scope N Y) (uM G js) tg sg/\L7 (fB X scope N Y) (uM G js) yw false gt/\DE (fB X scope N Y) (uM G js) z_ false me ge)(hn:me≠.P:=by decide)(ok:o8 js=true:=by rfl)(rW:X.env.scope=oT:=by rfl)(Qp:X.N=NX:=by rfl)(hS:yK oT NX scope N js=true:=by decide+kernel)(hs:∀x,Za iter X.env x=pure x:=by intro _;rfl):DE X G (.ListComp z_ [⟨tg,iter,yw,0⟩] scope pos) b1 .O (jG gi js sg gt ge):=⟨(Jw oT NX N js hc hi.un (λY=>⟨(C_ Y).1.un,(C_ Y).2.1.un,(C_ Y).2.2.un⟩) rW Qp hS hs).to λ_ _ _=>Eg ok hn⟩
theorem ng (oT:Scope)(NX N:List Str)(js:List (Option Nat))(hc:X.calm=true)(hi:DI X G tg iter b1 false gi)(C_:∀Y:uD,DG (fB X scope N Y) (uM G js) tg sg/\L7 (fB X scope N Y) (uM G js) yw b2 gt/\DE (fB X scope N Y) (uM G js) z_ b3 me ge)(hn:me≠.P:=by decide)(ok:o8 js=true:=by rfl)(rW:X.env.scope=oT:=by rfl)(Qp:X.N=NX:=by rfl)(hS:yK oT NX scope N js=true:=by decide+kernel)(hs:∀x,Za iter X.env x=pure x:=by intro _;rfl):DE X G (.ListComp z_ [⟨tg,iter,yw,0⟩] scope pos) true .O (uN G gi js sg gt ge):=⟨(Jw oT NX N js hc hi.un (λY=>⟨(C_ Y).1.un,(C_ Y).2.1.un,(C_ Y).2.2.un⟩) rW Qp hS hs).to λ_ _ _=>Eh ok hn⟩
variable {vO pos2:Pos}
end
end L2
namespace L2
noncomputable def cF (n:Nat)(us:List U):Ev:=us.map some++List.replicate (n-us.length) none
noncomputable def fc (m:Md)(n:Nat)(s:Ev->SR):List U->R U:=λus=>match s (cF n us) with
 | .rt u _=>.ok u
 | .nx _=>if m=.S then .ok .non else .stk
 | .exc c u=>.exc c u
 |_=>.stk
noncomputable def wC (n:Nat)(s:Ev->SR):List U->R (U×U):=λus=>match s (cF n us) with
 | .rt u ρ=>match ρ[0]? with
  |some (some w)=>.ok (u,w)
  |_=>.stk
 | .nx ρ=>match ρ[0]? with
  |some (some w)=>.ok (.non,w)
  |_=>.stk
 | .exc c u=>.exc c u
 |_=>.stk
theorem l9 (h:(cF n us)[i]? = some (some u)):us[i]? = some u:=by
 unfold cF at h;by_cases c:i<(us.map some).length
 ·rw[Yd c,W3] at h;cases e:us[i]? with
  |none=>rw[e] at h;cases h
  |some w=>rw[e] at h;simp at h;rw[h]
 ·rw[XT (by lia),List.getElem?_replicate] at h;split at h
  ·cases h
  ·cases h
theorem j7 (h:vs[i]? = some v):(aaN N vs)[i]? = some (some v):=by
 unfold aaN;have c:i<(vs.map some).length:=by rw[WA];exact (WL.mp h).1
 rw[Yd c,W3,h];rfl
theorem Ax (h:us.length=vs.length):(cF N.length us).length=(aaN N vs).length:=by
 unfold cF aaN;rw[WN,WN,WA,WA,abu,abu,h]
section
variable {base:ZG}
theorem uO (G:Gm)(m:Md)(s:Ev->SR)(GU:G.io=false)(pE:∀i,i<ps.length->G.is i=false)(gT:∀(f:W7) (c7:WM) (A:XD) (outer:List Env) (s0:WY) (H:Hp) (E:XK),eG k (A.deeper (ab_ x (ai st) s0.heap.objs.size f c7))->
   yV (oV v_ P w K mg base N x (ai st) f c7 A outer s0 H E).nox G m (bZ st) s) :
  (∀vs H Q E,jD K ps.length (fc m N.length s) m vs H Q E->vs.length=ps.length)/\∀(f:W7) (c7:WM) (A:XD) (outer:List Env) (s0:WY) (H:Hp) (vs:List V) (Q:VK) (E:XK),eG k (A.deeper (ab_ x (ai st) s0.heap.objs.size f c7))->jD K ps.length (fc m N.length s) m vs H Q E->
   ∃t,sd (oV v_ P w K mg base N x (ai st) f c7 A outer s0 H E).nox (bZ st) t/\t {nx:=λ_ H'=>Q .non H',rt:=Q} (aaN N vs) H:=by
 have hl:∀(us:List U) (A:W7->Prop) (H:Hp) (Q:VK),OT K m A H (yS ps.length (fc m N.length s) us) Q->us.length=ps.length:=λus A H Q h=>by
  unfold yS at h;split at h
  ·assumption
  ·exact h.elim
 refine⟨λvs H Q E ⟨us,A,r,_,h⟩=>by rw[←r.length];exact hl us A H Q h,λf c7 A outer s0 H vs Q E hr ⟨us,A0,r,mu,h⟩=>⟨_,(gT f c7 A outer s0 H E hr).un,?_⟩⟩;have l:=hl us A0 H Q h;unfold yS at h;rw[hZ l] at h;refine⟨⟨A0,H,0⟩,A0,cF N.length us,?_,?_⟩
 ·exact {
   slot:=λi u hu=>by
    have hu:=l9 hu;obtain⟨v,h1,h2⟩:=r.get hu;refine⟨v,j7 h1,?_⟩;rw[hV (by rw[pE i (by rw[←l];exact (WL.mp hu).1)];exact WE)];exact h2
   dis:=λi j u w a ci cj ne hi hj si sj=>by
    rw[pE i (by rw[←l];exact (WL.mp (l9 hi)).1)] at ci;cases ci
   mu:=mu
   sup:=λa h=>h
   out:=λa h=>.inl h
   bas:=λa o h=>h
   io0:=λh=>by rw[GU] at h;cases h
   len:=Ax r.length}
 ·unfold fc at h;cases e:s (cF N.length us) with
  |nx ρ'=>
   rw[e] at h;dsimp only at h;intro A' σ' H' q;split at h
   ·rename_i hm;subst hm;exact h _ H' q.bas (show Rp K H' A0 .non .non from qk)
   ·exact h.elim
  |rt u ρ'=>
   rw[e] at h;intro A' σ' H' v q vm;refine h v H' q.bas ?_;cases m with
   |S=>exact vm
   |P=>exact vm.elim
   |O=>
    obtain⟨a,e1,e2,e3,e4⟩:=vm;exact⟨a,e1,e2,e4⟩
  |bk=>rw[e] at h;exact h.elim
  |ct=>rw[e] at h;exact h.elim
  |exc=>rw[e] at h;exact h.elim
  |stk=>rw[e] at h;exact h.elim
theorem Df.fnD (G:Gm)(m:Md)(s:Ev->SR)(d:Df K mg x st)(S:aW N ps (ai st))(hb:∀(kV mT pm:WM) (an:Option W7) (c7 ct:WM) (us:List WM),us.length=ps.length->bindArgs (YR x x (eJ st) (bZ st) (ai st) .none kV mT pm an c7 ct) ⟨us,[]⟩=pure (ps.zip us))(GU:G.io=false)(pE:∀i,i<ps.length->G.is i=false)(gT:∀(f:W7) (c7:WM) (A:XD) (outer:List Env) (s0:WY) (H:Hp) (E:XK),eG k (A.deeper (ab_ x (ai st) s0.heap.objs.size f c7))->
   yV (oV v_ P w K mg base N x (ai st) f c7 A outer s0 H E).nox G m (bZ st) s):Fn P w K mg base x (k+1) ps (jD K ps.length (fc m N.length s) m):=
 d.fn S hb (uO G m s GU pE gT).1 (uO G m s GU pE gT).2
theorem GN.okD (G:Gm)(m:Md)(s:Ev->SR)(F:GN K x x st f fd)(S:aW N ps (ai st))(GU:G.io=false)(pE:∀i,i<ps.length->G.is i=false)(gT:∀(f:W7) (c7:WM) (A:XD) (outer:List Env) (s0:WY) (H:Hp) (E:XK),eG k (A.deeper (ab_ x (ai st) s0.heap.objs.size f c7))->
   yV (oV v_ P w K mg base N x (ai st) f c7 A outer s0 H E).nox G m (bZ st) s):ku P w K mg base v_ (k+1) f fd ps (jD K ps.length (fc m N.length s) m):=
 F.ok S (uO G m s GU pE gT).1 ((uO G m s GU pE gT).2 f)
def wD (K:WH):Sp:=λvs H Q _=>∃(a:W7) (ns:List Int),vs=[.ref a]/\Hw K H a (ns.map V.int)/\ns.length<=63/\∀H',Q (.bl true) H'
theorem L8 (hO:Hq H)(h:eF K H a xs):Hw K H a xs:=by
 rcases h with (h|h)|h
 ·rcases hO a with z|⟨o,ys,z⟩
  ·rw[h] at z;cases z
  ·rw[h] at z;cases z
 ·exact .inl h
 ·exact .inr h
theorem wF {H:Hp}{A:W7->Prop}:∀(ns:List Int),aC K H A (ns.map .int) (ns.map V.int)
 | []=>aC.nil
 |n::ns=>aC.cons dY (wF ns)
theorem L9 {f:List U->R U}{fa:W7}(F:ku P w K mg base v_ k fa fd ["script"] (jD K 1 f .S))(h:∀ns:List Int,ns.length<=63->f [.scr (ns.map .int)]=.ok (.bl true)):ku P w K mg base v_ k fa fd ["script"] (wD K):=by
 refine F.imp λvs H Q E ⟨a,ns,e,sc,l,q⟩=>?_;subst e;have hl:(ns.map U.int).length<=WJ:=by rw[WA];have:WJ=16777216:=rfl;lia
 refine⟨[.scr (ns.map .int)],λ_=>False,aC.cons ?_ aC.nil,λ_ h=>h.elim,?_⟩
 ·unfold Rp;exact⟨a,_,rfl,sc,hl,wF ns⟩
 ·have e:yS 1 f [.scr (ns.map .int)]=.ok (.bl true):=(hZ rfl).trans (h ns l);rw[e];intro v H' sm vm;have vm:Rp K H' (λ_=>False) (.bl true) v:=vm;unfold Rp at vm;subst vm;exact q H'
theorem Df.fnI (G:Gm)(s:Ev->SR)(d:Df K mg x st)(S:aW N ps (ai st))(hb:∀(kV mT pm:WM) (an:Option W7) (c7 ct:WM) (us:List WM),us.length=ps.length->bindArgs (YR x x (eJ st) (bZ st) (ai st) .none kV mT pm an c7 ct) ⟨us,[]⟩=pure (ps.zip us))(GU:G.io=true)(h0:G.is 0=true)(pE:∀i,i<ps.length->i≠0->G.is i=false)(gT:∀(f:W7) (c7:WM) (A:XD) (outer:List Env) (s0:WY) (H:Hp) (E:XK),eG k (A.deeper (ab_ x (ai st) s0.heap.objs.size f c7))->
   yV (oV v_ P w K mg base N x (ai st) f c7 A outer s0 H E).nox G .S (bZ st) s):Fn P w K mg base x (k+1) ps (Ar K ps.length (wC N.length s)):=by
 refine d.fn S hb ?_ ?_
 ·rintro vs H Q E ⟨u0,us,a0,vs',A,rfl,_,_,r,_,h⟩;unfold yS at h;split at h
  ·rename_i e;split at e
   ·rename_i l;rw[WT,←r.length,←l];rfl
   ·cases e
  ·exact h.elim
 ·rintro f c7 A outer s0 H vs Q E hr ⟨u0,us,a0,vs',A0,rfl,ha,t0,r,mu,h⟩;refine⟨_,(gT f c7 A outer s0 H E hr).un,?_⟩;have l:(u0::us).length=ps.length:=by
   unfold yS at h;by_cases c:(u0::us).length=ps.length
   ·exact c
   ·rw[hV c] at h;exact h.elim
  unfold yS at h;rw[hZ l] at h
  let Z:Pkg:=⟨A0,λb=>if b=a0 then none else H b,a0⟩
  have zb:∀b o,b≠a0->H b=some o->Z.B b=some o:=λb o nb z=>by
   show (if b=a0 then none else H b)=some o;rw[hV nb];exact z
  have rel:b_ K G Z A0 (cF N.length (u0::us)) (aaN N (.ref a0::vs')) H:={
   slot:=λi u hu=>by
    have hu:=l9 hu;cases i with
    |zero=>
     simp at hu;subst hu;refine⟨.ref a0,j7 (by simp),?_⟩;rw[hZ h0];exact⟨a0,rfl,ha,by show (if a0=a0 then none else H a0)=none;rw[hZ rfl],.inr ⟨GU,rfl⟩,t0⟩
    |succ i=>
     have hl:=(WL.mp hu).1;rw[X_] at hu;obtain⟨v,h1,h2⟩:=r.get hu;refine⟨v,j7 (by rw[X_];exact h1),?_⟩;rw[hV (by rw[pE (i+1) (by rw[←l];exact hl) (by lia)];exact WE)];exact h2
   dis:=λi j u w a ci cj ne hi hj si sj=>by
    have hi:=(WL.mp (l9 hi)).1;have hj:=(WL.mp (l9 hj)).1;by_cases e:i=0
    ·rw[pE j (by rw[←l];exact hj) (by lia)] at cj;cases cj
    ·rw[pE i (by rw[←l];exact hi) e] at ci;cases ci
   mu:=mu
   sup:=λa h=>h
   out:=λa h=>.inl h
   bas:=λa o h=>by
    by_cases c:a=a0
    ·have h:(if a=a0 then none else H a)=some o:=h;rw[hZ c] at h;cases h
    ·have h:(if a=a0 then none else H a)=some o:=h;rw[hV c] at h;exact h
   io0:=λ_=>⟨j7 (vs:=.ref a0::vs') (i:=0) (v:=.ref a0) rfl,h0⟩
   len:=Ax (by rw[WT,WT,r.length])}
  have fin:∀(A':W7->Prop) (ρ':Ev) (σ':St) (H':Hp) (w:U),b_ K G Z A' ρ' σ' H'->ρ'[0]? = some (some w)->(∀b o,b≠a0->H b=some o->H' b=some o)/\jt K H' A0 w a0:=λA' ρ' σ' H' w q hw=>by
   obtain⟨a,e1,e2,e3,e4,e5⟩:=q.own h0 hw;rw[(q.io0 GU).1] at e1;cases e1;exact⟨λb o nb z=>q.bas b o (zb b o nb z),e5.mono q.sup⟩
  refine⟨Z,A0,_,rel,?_⟩;unfold wC at h;cases e:s (cF N.length (u0::us)) with
  |nx ρ'=>
   rw[e] at h;dsimp only at h;intro A' σ' H' q;split at h
   ·rename_i hm;split at hm
    ·rename_i w hw;cases hm;obtain⟨z1,z2⟩:=fin A' ρ' σ' H' _ q hw;exact h _ H' z1 z2 qk
    ·cases hm
   ·exact h.elim
  |rt u ρ'=>
   rw[e] at h;dsimp only at h;intro A' σ' H' v q vm;split at h
   ·rename_i hm;split at hm
    ·rename_i w hw;cases hm;obtain⟨z1,z2⟩:=fin A' ρ' σ' H' _ q hw;exact h _ H' z1 z2 vm
    ·cases hm
   ·exact h.elim
  |bk=>rw[e] at h;exact h.elim
  |ct=>rw[e] at h;exact h.elim
  |exc=>rw[e] at h;exact h.elim
  |stk=>rw[e] at h;exact h.elim
end
section
variable {e e2:YO}{p1:Pos}{y:Str}{b1 b2:Bool}{m m1 m2:Md}{g1 g2:Ev->R (U×Ev)}
noncomputable def Ay (i:Nat)(gv gk:Ev->R (U×Ev)):Ev->SR:=λρ=>SR.of (gv ρ) λx=>if live x.2 i=true then SR.of (gk x.2) λy=>match y.1 with
 | .int k=>match y.2[i]? with
  |some (some (.lst us))=>match Dg us.length k with
   |some j=>.nx (y.2.set i (some (.lst (us.set j x.1))))
   |none=>.stk
  |_=>.stk
 |_=>.stk
 else .stk
theorem Az (he:DE X G e b1 m1 g1)(hk:DE X G e2 b2 m2 g2)(hn:m1≠.P:=by decide)(hN:X.N[i]? = some y:=by rfl)(hv:BY X.env.scope y:=by first|exact Or.inl rfl|exact Or.inr (Or.inl rfl)|exact Or.inr (Or.inr rfl))(c:G.is i=true:=by rfl)(hd:(y==("__debug__":Str))=false:=by decide)(lE:(y==("__classdict__":Str))=false:=by decide)(ha:∀v,assign (.Subscript (.Name y p1) e2 p2) X.env v=(do
   let ov ←holding [v] (Z4 (.Name y p1) X.env)
   let iv ←holding [v,ov] (Z4 e2 X.env)
   standAt p2
   holding [v,ov,iv] (setItem ov iv v)
   release [v,ov,iv] []):=by intro _;rfl)(hs:swapsWithSole [.Subscript (.Name y p1) e2 p2] e pos.line X.env=pure false:=by rfl)(hw:swappedStores [.Subscript (.Name y p1) e2 p2] e X.env=pure none:=by rfl)(h1:(ZX [.Subscript (.Name y p1) e2 p2] X.env).map (·.2)=[assign (.Subscript (.Name y p1) e2 p2) X.env]:=by rfl):DS X G m (.Assign [.Subscript (.Name y p1) e2 p2] e pos) (Ay i g1 g2):=⟨(Lg he.un (Lf (gx hN hv hd lE) hk.un DF ha) hs hw h1).to λD σ H h00=>by
 obtain⟨Z,A,ρ,q,f⟩:=h00;obtain⟨⟨u,ρ1⟩,e1,f⟩:=f.of;refine⟨Z,A,ρ,q,?_⟩;rw[e1];intro v H1 q1 x1 s1 vm;dsimp only at f;split at f
 ·rename_i hl;obtain⟨u00,hu0⟩:=uL hl;obtain⟨a0,h0,_⟩:=q1.own c hu0;obtain⟨⟨k,ρ2⟩,e2,f⟩:=f.of;refine⟨.ref a0,h0,Z,A,ρ1,q1,?_⟩;rw[e2];intro v2 H2 q2 x2 s2 vP;dsimp only at f;cases k with
  |int kk=>
   dsimp only at f;split at f
   ·rename_i us hu;split at f
    ·rename_i j hj;obtain⟨a0',k1,k2,_,_,k5⟩:=q2.own c hu;rw[h0] at k1;cases k1;obtain⟨xs,t1,t2,t3⟩:=k5;refine⟨a0,xs,kk,j,rfl,vP.pk.int,t1,by rw[←t3.length];exact hj,?_⟩;have em:∀b o,b≠a0->H2 b=some o->bV H2 a0 (.lst (xs.set j v)) b=some o:=λb o nb z=>by rw[aS nb];exact z
     have ex:dR A H2 (bV H2 a0 (.lst (xs.set j v))):=λb o nb z=>em b o (λy=>nb (y▸k2)) z;refine f A σ _ (q2.put c hu h0 em ⟨xs.set j v,ba,by rw[X4];exact t2,?_⟩);exact (t3.re q2.mu ex λb z=>.inl z).set j (((vm.rp hn).re q1.mu x2 λb z=>.inl z).re q2.mu ex λb z=>.inl z)
    ·exact f.elim
   ·exact f.elim
  |_=>exact f.elim
 ·exact f.elim⟩
noncomputable def RX (i:Nat)(p:U->U->R U)(g:Ev->R (U×Ev)):Ev->SR:=λρ=>match ρ[i]? with
 |some (some u)=>SR.of (g ρ) λy=>SR.of (p u y.1) λz=>.nx (y.2.set i (some z))
 |_=>.stk
end
end L2
namespace L2
def Ei:R2:=λx y H Q=>∃l b xs zs,x=.ref l/\y=.ref b/\H l=some (.lst xs)/\H b=some (.lst zs)/\xs.length+zs.length<=WJ/\∀p,H p=none->Q (.ref p) (bV H p (.lst (xs++zs)))
theorem HL:lM X (aax .Add) Ei:=by
 intro pins s σ H x y v u Q I rx ry h;obtain⟨l,b,xs,zs,rfl,rfl,hH,hB,hz,q⟩:=h;cases rx;cases ry;obtain⟨z,ao,n,r,hl,e⟩:=I.lstM hH;obtain⟨z2,its2,n2,r2,Dd,e2⟩:=I.lstM hB;refine PySem.P.add_list e e2 ?_ (by rw[WK,WK];lia);have ea:ao.toArray++its2.toArray=(ao++its2).toArray:=by simp
 rw[ea];exact⟨.ref _,_,I.lnew (t':=s.toks) (r.append r2) (by rw[WN];lia),rfl,q _ I.fresh⟩
noncomputable def cy:U->U->R U:=λu w=>match u,w with
 | .int i,.int j=>.ok (.int (i+j))
 | .tup a,.tup b=>if a.length+b.length<=WJ then .ok (.tup (a++b)) else .stk
 | .lst a,.lst b=>if a.length+b.length<=WJ then .ok (.lst (a++b)) else .stk
 |_,_=>.stk
noncomputable def L_:U->U->R U:=λu w=>match u,w with
 | .lst a,.lst b=>if a.length+b.length<=WJ then .ok (.lst (a++b)) else .stk
 |_,_=>.stk
def Jy:R2:=λx y H Q=>(B3 λi j=>.int (i+j)) x y H Q\/D5 x y H Q\/Ei x y H Q
theorem bN:lM X (aax .Add) Jy:=Ln.or (D6.or HL)
theorem HM:g_ K Ei .O L_:=λA H x y u w z Q hx hy mu e q=>by
 unfold L_ at e;split at e
 ·split at e
  ·rename_i hl;cases e;unfold Pk at hx hy;obtain⟨a,xs,rfl,h1,l1,r1⟩:=hx;obtain⟨b,ys,rfl,h2,l2,r2⟩:=hy;exact⟨a,b,xs,ys,rfl,rfl,h1,h2,by rw[←r1.length,←r2.length];exact hl,λp hp=>q _ _ (bQ hp _) ⟨p,rfl,hp,bI mu (r1.append r2) hp (by rw[WN];exact hl)⟩⟩
  ·cases e
 ·cases e
theorem bO:g_ K Jy .S cy:=λA H x y u w z Q hx hy mu e q=>by
 unfold cy at e;split at e
 ·cases e;exact .inl ⟨_,_,hx.int,hy.int,q _ H (aG.refl _) (show Rp K H A _ _ from dY)⟩
 ·split at e
  ·rename_i hl;cases e;unfold Pk at hx hy;obtain⟨a,xs,rfl,h1,l1,r1⟩:=hx;obtain⟨b,ys,rfl,h2,l2,r2⟩:=hy;refine .inr (.inl ⟨a,b,xs,ys,rfl,rfl,h1,h2,by rw[←r1.length,←r2.length];exact hl,λr H' sm hr=>q _ H' sm (show Rp K H' A _ _ from ?_)⟩);unfold Rp;exact⟨r,_,rfl,hr,by rw[WN];exact hl,(r1.append r2).same sm⟩
  ·cases e
 ·refine .inr (.inr (HM A H x y _ _ z Q hx hy mu (show L_ (.lst _) (.lst _)=_ from e) λv H' sm vm=>q v H' sm ?_));obtain⟨a,rfl,na,t⟩:=vm;exact t.rp (λb h=>.inl h) λh=>by have:=mu a h;rw[na] at this;exact this
 ·cases e
noncomputable def pI (c:Int->Int->Bool)(f:Int->Int->Int):U->U->R U:=λu w=>match u,w with
 | .int i,.int j=>if c i j=true then .ok (.int (f i j)) else .stk
 |_,_=>.stk
theorem AA {C:Int->Int->Prop}{c:Int->Int->Bool}{f:Int->Int->Int}(h:∀i j,c i j=true->C i j):g_ K (rI C λi j=>.int (f i j)) .S (pI c f):=λA H x y u w z Q hx hy mu e q=>by
 unfold pI at e;split at e
 ·rename_i i j;split at e
  ·rename_i hc;cases e;exact⟨i,j,hx.int,hy.int,h i j hc,q _ H (aG.refl _) (show Rp K H A _ _ from dY)⟩
  ·cases e
 ·cases e
noncomputable def Cm:U->U->R U:=λu w=>match u,w with
 | .int i,.int j=>.ok (.int (i-j))
 |_,_=>.stk
theorem AB:g_ K (B3 λi j=>.int (i-j)) .S Cm:=λA H x y u w z Q hx hy mu e q=>by
 unfold Cm at e;split at e
 ·cases e;exact⟨_,_,hx.int,hy.int,q _ H (aG.refl _) (show Rp K H A _ _ from dY)⟩
 ·cases e
noncomputable def iE (i j:Int):Bool:=(decide (-(2 ^ 64)<i)&&decide (i<2 ^ 64))||(decide (-(2 ^ 64)<j)&&decide (j<2 ^ 64))
noncomputable def d_:U->U->R U:=pI iE (·*·)
theorem cQ:g_ K (rI G_ λi j=>.int (i*j)) .S d_:=AA λi j h=>by
 unfold iE at h;simp only[aaa,W6,decide_eq_true_eq] at h;exact h
noncomputable def wG (_ j:Int):Bool:=decide (0<j)&&decide (j<18446744073709551616)
noncomputable def iQ:U->U->R U:=pI wG (· / ·)
theorem eN:g_ K (rI D0 λi j=>.int (i / j)) .S iQ:=AA λi j h=>by
 unfold wG at h;simp only[W6,decide_eq_true_eq] at h;exact h
noncomputable def o9:U->U->R U:=pI (λ_ j=>decide (0<j)) (· % ·)
theorem ir:g_ K (rI (λ_ j=>0<j) λi j=>.int (i % j)) .S o9:=AA λi j h=>of_decide_eq_true h
noncomputable def HN (i j:Int):Bool:=decide (0<=j)&&decide (j<=1000000)&&decide (i.natAbs<2 ^ 64)
noncomputable def HP:U->U->R U:=pI HN λi j=>i ^ j.toNat
theorem AD:g_ K (rI Of λi j=>.int (i ^ j.toNat)) .S HP:=AA λi j h=>by
 unfold HN at h;simp only[W6,decide_eq_true_eq] at h;exact⟨h.1.1,h.1.2,h.2⟩
noncomputable def HQ:U->R U:=λu=>match u with
 | .int i=>.ok (.int (-i))
 |_=>.stk
theorem HU:LU K (rU λi=>.int (-i)) .S HQ:=λA H x u z Q hx mu e q=>by
 unfold HQ at e;split at e
 ·cases e;exact⟨_,hx.int,q _ H (aG.refl _) (show Rp K H A _ _ from dY)⟩
 ·cases e
noncomputable def pC (f:Int->Int->Bool):U->U->R U:=λu w=>match u,w with
 | .int i,.int j=>.ok (.bl (f i j))
 |_,_=>.stk
theorem Ej {f:Int->Int->Bool}:g_ K (B3 λi j=>.bl (f i j)) .S (pC f):=λA H x y u w z Q hx hy mu e q=>by
 unfold pC at e;split at e
 ·cases e;exact⟨_,_,hx.int,hy.int,q _ H (aG.refl _) (show Rp K H A _ _ from jo)⟩
 ·cases e
noncomputable def OW:U->U->R U:=pC λi j=>decide (i<j)
noncomputable def UM:U->U->R U:=pC λi j=>decide (i<=j)
noncomputable def QO:U->U->R U:=pC λi j=>decide (j<i)
noncomputable def RY:U->U->R U:=pC λi j=>decide (j<=i)
mutual
noncomputable def qy:U->Option D
 | .non=>some .non
 | .bl b=>some (.bl b)
 | .int i=>some (.int i)
 | .str x=>some (.str x)
 | .tup us=>(jH us).map .tup
 | .lst us=>(jH us).map .lst
 | .dct _ _=>none
 | .scr _=>none
noncomputable def jH:List U->Option (List D)
 | []=>some []
 |u::us=>(qy u).bind λd=>(jH us).map λds=>d::ds
end
mutual
theorem yX {H:Hp}{A:W7->Prop}:∀{u:U} {v:V} {d:D},Rp K H A u v->qy u=some d->aM K H d v
 | .non,v,d,h,e=>by unfold qy at e;cases e;unfold Rp at h;unfold aM;exact h
 | .bl b,v,d,h,e=>by unfold qy at e;cases e;unfold Rp at h;unfold aM;exact h
 | .int b,v,d,h,e=>by unfold qy at e;cases e;unfold Rp at h;unfold aM;exact h
 | .str b,v,d,h,e=>by unfold qy at e;cases e;unfold Rp at h;unfold aM;exact h
 | .tup us,v,d,h,e=>by
  unfold qy at e;cases e2:jH us with
  |none=>rw[e2] at e;cases e
  |some ds=>
   rw[e2] at e;cases e;unfold Rp at h;unfold aM;obtain⟨a,xs,r,q,l,z⟩:=h;exact⟨a,xs,r,fQ.of q,pN z e2⟩
 | .lst us,v,d,h,e=>by
  unfold qy at e;cases e2:jH us with
  |none=>rw[e2] at e;cases e
  |some ds=>
   rw[e2] at e;cases e;unfold Rp at h;unfold aM;obtain⟨a,xs,r,_,q,l,z⟩:=h;exact⟨a,xs,r,eF.of q,pN z e2⟩
 | .dct _ _,v,d,h,e=>by unfold qy at e;cases e
 | .scr _,v,d,h,e=>by unfold qy at e;cases e
theorem pN {H:Hp}{A:W7->Prop}:∀{us:List U} {vs:List V} {ds:List D},aC K H A us vs->jH us=some ds->fD K H ds vs
 | [],vs,ds,h,e=>by unfold jH at e;cases e;unfold aC at h;unfold fD;exact h
 |u::us,vs,ds,h,e=>by
  unfold jH at e;cases e1:qy u with
  |none=>rw[e1] at e;cases e
  |some d=>
   cases e2:jH us with
   |none=>rw[e1,e2] at e;cases e
   |some ds'=>
    rw[e1,e2] at e;cases e;unfold aC at h;unfold fD;obtain⟨x,r,q,p,z⟩:=h;exact⟨x,r,q,yX p e1,pN z e2⟩
end
theorem Ek {d:D}(h:Pk K H A u v)(e:qy u=some d):aM K H d v:=by
 cases u with
 |lst us=>
  unfold qy at e;cases e2:jH us with
  |none=>rw[e2] at e;cases e
  |some ds=>
   rw[e2] at e;cases e;unfold Pk at h;unfold aM;obtain⟨a,xs,r,q,l,z⟩:=h;exact⟨a,xs,r,eF.of q,pN z e2⟩
 |dct=>unfold qy at e;cases e
 |scr=>unfold qy at e;cases e
 |tup us=>exact yX (A:=A) (by unfold Pk at h;unfold Rp;exact h) e
 |_=>exact yX (A:=A) (by unfold Pk at h;unfold Rp;exact h) e
noncomputable def El (u w:U):R Bool:=match qy u,qy w with
 |some d,some d'=>if dX d<=30 then .ok (lP d d') else .stk
 |_,_=>.stk
noncomputable def QP (f:Bool->Bool):U->U->R U:=λu w=>(El u w).bind λb=>.ok (.bl (f b))
theorem Ma {f:Bool->Bool}:g_ K (LD K f) .S (QP f):=λA H x y u w z Q hx hy mu e q=>by
 unfold QP El at e;obtain⟨b,e1,e2⟩:=R.bind_ok e;split at e1
 ·rename_i d d' h1 h2;split at e1
  ·rename_i hd;cases e1;cases e2;exact⟨d,d',Ek hx h1,Ek hy h2,hd,q _ H (aG.refl _) (show Rp K H A _ _ from jo)⟩
  ·cases e1
 ·cases e1
noncomputable def Jz:U->Bool
 | .non=>true
 |_=>false
noncomputable def RZ (f:Bool->Bool):U->U->R U:=λu w=>match w with
 | .non=>.ok (.bl (f (Jz u)))
 |_=>.stk
noncomputable def R0 (f:Bool->Bool):U->U->R U:=λu w=>match u,w with
 | .bl a,.bl b=>.ok (.bl (f (decide (a=b))))
 |_,_=>.stk
theorem yY {i:Int}{z:U}(r:aC K H A us xs)(e:lU us i=some z):∃v,lU xs i=some v/\Rp K H A z v:=by
 unfold lU at e ⊢;rw[←r.length];cases h:Dg us.length i with
 |none=>rw[h] at e;cases e
 |some j=>
  rw[h] at e;obtain⟨v,h1,h2⟩:=r.get (show us[j]? = some z from e);exact⟨v,h1,h2⟩
noncomputable def kJ:U->U->R U:=λu w=>match u,w with
 | .lst us,.int i=>match lU us i with
  |some z=>.ok z
  |none=>.stk
 | .tup us,.int i=>match lU us i with
  |some z=>.ok z
  |none=>.stk
 | .scr us,.int i=>match lU us i with
  |some z=>.ok z
  |none=>.stk
 | .str x,.int i=>match lU x.cps.toList i with
  |some c=>if x.length<=WJ then .ok (.str ⟨#[c]⟩) else .stk
  |none=>.stk
 |_,_=>.stk
theorem cG:g_ K (Tn K) .S kJ:=λA H x y u w z Q hx hy mu e q=>by
 unfold kJ at e;split at e
 ·split at e
  ·rename_i z' hz;cases e;unfold Pk at hx;obtain⟨a,xs,rfl,h1,l1,r1⟩:=hx;obtain⟨v,h2,h3⟩:=yY r1 hz;exact .inl ⟨a,xs,_,v,rfl,hy.int,eF.of h1,h2,q _ H (aG.refl _) h3⟩
  ·cases e
 ·split at e
  ·rename_i z' hz;cases e;unfold Pk at hx;obtain⟨a,xs,rfl,h1,l1,r1⟩:=hx;obtain⟨v,h2,h3⟩:=yY r1 hz;exact .inr (.inl ⟨a,xs,_,v,rfl,hy.int,fQ.of h1,h2,q _ H (aG.refl _) h3⟩)
  ·cases e
 ·split at e
  ·rename_i z' hz;cases e;unfold Pk at hx;obtain⟨a,xs,rfl,h1,l1,r1⟩:=hx;obtain⟨v,h2,h3⟩:=yY r1 hz;exact .inl ⟨a,xs,_,v,rfl,hy.int,h1.sq,h2,q _ H (aG.refl _) h3⟩
  ·cases e
 ·split at e
  ·rename_i z' hz;split at e
   ·rename_i hl;cases e;exact .inr (.inr ⟨_,_,z',hx.str,hy.int,hl,hz,q _ H (aG.refl _) (show Rp K H A _ _ from LN)⟩)
   ·cases e
  ·cases e
 ·cases e
noncomputable def i6 {α:Type}(xs:List α)(lo hi:Option Int):List α:=(xs.drop (HT.sIx xs.length 0 lo)).take (HT.sIx xs.length xs.length hi-HT.sIx xs.length 0 lo)
theorem jI {α:Type}(xs:List α)(lo hi:Option Int):(i6 xs lo hi).length<=xs.length:=by
 unfold i6;rw[Xc,XA];lia
theorem uP (r:aC K H A us xs)(lo hi:Option Int):aC K H A (i6 us lo hi) (p9 xs lo hi):=by
 unfold i6 p9;rw[←r.length];exact (r.drop _).take _
theorem fI:DB X (λx lo hi H Q=>Hm X.K x lo hi H Q\/D4 X.K x lo hi H Q):=Hn.or Hu
noncomputable def nU:U->Option Int->Option Int->R U:=λu lo hi=>match u with
 | .lst us=>.ok (.lst (i6 us lo hi))
 | .scr us=>.ok (.lst (i6 us lo hi))
 | .tup us=>.ok (.tup (i6 us lo hi))
 |_=>.stk
noncomputable def OX:U->Option Int->Option Int->R U:=λu lo hi=>match u with
 | .lst us=>.ok (.lst (i6 us lo hi))
 | .scr us=>.ok (.lst (i6 us lo hi))
 |_=>.stk
theorem AE:Ed K (Hm K) .O OX:=λA H x u lo hi z Q hx mu e q=>by
 unfold OX at e;split at e
 ·cases e;unfold Pk at hx;obtain⟨a,xs,rfl,h1,l1,r1⟩:=hx;exact⟨a,xs,rfl,eF.of h1,λp hp=>q _ _ (bQ hp _) ⟨p,rfl,hp,bI mu (uP r1 lo hi) hp (XC (jI _ _ _) l1)⟩⟩
 ·cases e;unfold Pk at hx;obtain⟨a,xs,rfl,h1,l1,r1⟩:=hx;exact⟨a,xs,rfl,h1.sq,λp hp=>q _ _ (bQ hp _) ⟨p,rfl,hp,bI mu (uP r1 lo hi) hp (XC (jI _ _ _) l1)⟩⟩
 ·cases e
theorem JA (mu:∀a,A a->Mu (H a))(vm:Ci K .O A H H' u v):Rp K H' A u v:=by
 obtain⟨a,rfl,na,t⟩:=vm;exact t.rp (λb h=>.inl h) λh=>by have:=mu a h;rw[na] at this;exact this
theorem jJ:Ed K (λx lo hi H Q=>Hm K x lo hi H Q\/D4 K x lo hi H Q) .S nU:=λA H x u lo hi z Q hx mu e q=>by
 unfold nU at e;split at e
 ·cases e;exact .inl (AE A H x _ lo hi _ Q hx mu rfl λv H' sm vm=>q v H' sm (JA mu vm))
 ·cases e;exact .inl (AE A H x _ lo hi _ Q hx mu rfl λv H' sm vm=>q v H' sm (JA mu vm))
 ·cases e;unfold Pk at hx;obtain⟨a,xs,rfl,h1,l1,r1⟩:=hx;refine .inr ⟨a,xs,rfl,h1,λr H' sm hr=>q _ H' sm (show Rp K H' A _ _ from ?_)⟩;unfold Rp;exact⟨r,_,rfl,hr,XC (jI _ _ _) l1,(uP r1 lo hi).same sm⟩
 ·cases e
end L2
namespace L2
section
theorem yQ.one (h:yQ K H A [u] vs):∃v,vs=[v]/\Pk K H A u v:=by
 unfold yQ at h;obtain⟨x,r,rfl,p,q⟩:=h;unfold yQ at q;subst q;exact⟨x,rfl,p⟩
theorem yQ.two {w:U}(h:yQ K H A [u,w] vs):∃v v',vs=[v,v']/\Pk K H A u v/\Pk K H A w v':=by
 unfold yQ at h;obtain⟨x,r,rfl,p,q⟩:=h;obtain⟨v,rfl,q'⟩:=yQ.one q;exact⟨x,v,rfl,p,q'⟩
noncomputable def jK:List U->R U:=λus=>match us with
 | [.lst xs]=>.ok (.int xs.length)
 | [.tup xs]=>.ok (.int xs.length)
 | [.scr xs]=>.ok (.int xs.length)
 | [.str x]=>if x.length<=WJ then .ok (.int x.length) else .stk
 |_=>.stk
theorem i7:kX K (λxs H Q=>∃x n,xs=[x]/\Ol K x H n/\Q (.int n) H) .S jK:=λA H vs us z Q h mu e q=>by
 unfold jK at e;split at e
 ·rename_i xs;cases e;obtain⟨v,rfl,p⟩:=h.one;unfold Pk at p;obtain⟨a,ys,rfl,h1,l1,r1⟩:=p;exact⟨_,xs.length,rfl,.inl ⟨ys,eF.of h1,r1.length⟩,q _ H (aG.refl _) (show Rp K H A _ _ from dY)⟩
 ·rename_i xs;cases e;obtain⟨v,rfl,p⟩:=h.one;unfold Pk at p;obtain⟨a,ys,rfl,h1,l1,r1⟩:=p;exact⟨_,xs.length,rfl,.inr ⟨ys,fQ.of h1,r1.length⟩,q _ H (aG.refl _) (show Rp K H A _ _ from dY)⟩
 ·rename_i xs;cases e;obtain⟨v,rfl,p⟩:=h.one;unfold Pk at p;obtain⟨a,ys,rfl,h1,l1,r1⟩:=p;exact⟨_,xs.length,rfl,.inl ⟨ys,h1.sq,r1.length⟩,q _ H (aG.refl _) (show Rp K H A _ _ from dY)⟩
 ·rename_i x;split at e
  ·rename_i hl;cases e;obtain⟨v,rfl,p⟩:=h.one;have:=p.str;subst this;exact⟨_,x.length,rfl,⟨hl,rfl⟩,q _ H (aG.refl _) (show Rp K H A _ _ from dY)⟩
  ·cases e
 ·cases e
noncomputable def tm:List U->R U:=λus=>match us with
 | [.lst xs]=>.ok (.lst xs)
 | [.tup xs]=>.ok (.lst xs)
 |_=>.stk
theorem Em:kX K (λxs H Q=>∃p ys,xs=[.ref p]/\(eF K H p ys\/fQ K H p ys)/\∀l,H l=none->Q (.ref l) (bV H l (.lst ys))) .O tm:=λA H vs us z Q h mu e q=>by
 unfold tm at e;split at e
 ·rename_i xs;cases e;obtain⟨v,rfl,p⟩:=h.one;unfold Pk at p;obtain⟨a,ys,rfl,h1,l1,r1⟩:=p;exact⟨a,ys,rfl,.inl (eF.of h1),λl hl=>q _ _ (bQ hl _) ⟨l,rfl,hl,bI mu r1 hl l1⟩⟩
 ·rename_i xs;cases e;obtain⟨v,rfl,p⟩:=h.one;unfold Pk at p;obtain⟨a,ys,rfl,h1,l1,r1⟩:=p;exact⟨a,ys,rfl,.inr (fQ.of h1),λl hl=>q _ _ (bQ hl _) ⟨l,rfl,hl,bI mu r1 hl l1⟩⟩
 ·cases e
noncomputable def fS:List U->R U:=λus=>match us with
 | [.lst xs]=>.ok (.tup xs)
 | [.tup xs]=>.ok (.tup xs)
 |_=>.stk
theorem eh:kX K (λxs H Q=>∃p ys,xs=[.ref p]/\((eF K H p ys/\∀l,H l=none->Q (.ref l) (bV H l (.tup ys)))\/(fQ K H p ys/\Q (.ref p) H))) .S fS:=λA H vs us z Q h mu e q=>by
 unfold fS at e;split at e
 ·rename_i xs;cases e;obtain⟨v,rfl,p⟩:=h.one;unfold Pk at p;obtain⟨a,ys,rfl,h1,l1,r1⟩:=p;exact⟨a,ys,rfl,.inl ⟨eF.of h1,λl hl=>q _ _ (bQ hl _) (m7 r1 hl l1)⟩⟩
 ·rename_i xs;cases e;obtain⟨v,rfl,p⟩:=h.one;have p':=p;unfold Pk at p;obtain⟨a,ys,rfl,h1,l1,r1⟩:=p;refine⟨a,ys,rfl,.inr ⟨fQ.of h1,q _ H (aG.refl _) (show Rp K H A _ _ from ?_)⟩⟩;unfold Rp;unfold Pk at p';exact p'
 ·cases e
noncomputable def wH:List U->R U:=λus=>match us with
 | [.int i]=>.ok (.int (if i<0 then -i else i))
 |_=>.stk
theorem pO:kX K (λxs H Q=>∃i,xs=[.int i]/\Q (.int (if i<0 then -i else i)) H) .S wH:=λA H vs us z Q h mu e q=>by
 unfold wH at e;split at e
 ·cases e;obtain⟨v,rfl,p⟩:=h.one;exact⟨_,by rw[p.int],q _ H (aG.refl _) (show Rp K H A _ _ from dY)⟩
 ·cases e
noncomputable def AF:List U->R U:=λus=>match us with
 | [.int i,.int j]=>.ok (.int (if j>i then j else i))
 |_=>.stk
theorem En:kX K (λxs H Q=>∃i j,xs=[.int i,.int j]/\Q (.int (if j>i then j else i)) H) .S AF:=λA H vs us z Q h mu e q=>by
 unfold AF at e;split at e
 ·cases e;obtain⟨v,w,rfl,p,p'⟩:=h.two;exact⟨_,_,by rw[p.int,p'.int],q _ H (aG.refl _) (show Rp K H A _ _ from dY)⟩
 ·cases e
noncomputable def wI:List U->R U:=λus=>match us with
 | [.int i,.int j]=>.ok (.int (if j<i then j else i))
 |_=>.stk
theorem wJ:kX K (λxs H Q=>∃i j,xs=[.int i,.int j]/\Q (.int (if j<i then j else i)) H) .S wI:=λA H vs us z Q h mu e q=>by
 unfold wI at e;split at e
 ·cases e;obtain⟨v,w,rfl,p,p'⟩:=h.two;exact⟨_,_,by rw[p.int,p'.int],q _ H (aG.refl _) (show Rp K H A _ _ from dY)⟩
 ·cases e
noncomputable def iu:List U->Option (List Int)
 | []=>some []
 | .int i::us=>(iu us).map (i::·)
 |_::_=>none
noncomputable def jL:List U->Option (List Bool)
 | []=>some []
 | .bl i::us=>(jL us).map (i::·)
 |_::_=>none
theorem l_:∀{us:List U} {ns:List Int},iu us=some ns->us=ns.map .int
 | [],ns,h=>by unfold iu at h;cases h;rfl
 |u::us,ns,h=>by
  cases u<;>unfold iu at h<;>try cases h
  rename_i i;cases e:iu us with
  |none=>rw[e] at h;cases h
  |some ms=>rw[e] at h;cases h;rw[l_ e];rfl
theorem Eo (ns:List Int):iu (ns.map .int)=some ns:=by
 induction ns with
 |nil=>rfl
 |cons n ns ih=>rw[WD];unfold iu;rw[ih];rfl
theorem wK:∀{us:List U} {ns:List Bool},jL us=some ns->us=ns.map .bl
 | [],ns,h=>by unfold jL at h;cases h;rfl
 |u::us,ns,h=>by
  cases u<;>unfold jL at h<;>try cases h
  rename_i i;cases e:jL us with
  |none=>rw[e] at h;cases h
  |some ms=>rw[e] at h;cases h;rw[wK e];rfl
theorem Co (ns:List Bool):jL (ns.map .bl)=some ns:=by
 induction ns with
 |nil=>rfl
 |cons n ns ih=>rw[WD];unfold jL;rw[ih];rfl
theorem aC.toI {H:Hp}{A:W7->Prop}:∀{ns:List Int} {vs:List V},aC K H A (ns.map .int) vs->vs=ns.map V.int
 | [],vs,h=>by rw[X0] at h;unfold aC at h;exact h
 |n::ns,vs,h=>by
  rw[WD] at h;unfold aC at h;obtain⟨x,r,rfl,p,q⟩:=h;unfold Rp at p;rw[p,aC.toI q];rfl
theorem aC.toB {H:Hp}{A:W7->Prop}:∀{ns:List Bool} {vs:List V},aC K H A (ns.map .bl) vs->vs=ns.map V.bl
 | [],vs,h=>by rw[X0] at h;unfold aC at h;exact h
 |n::ns,vs,h=>by
  rw[WD] at h;unfold aC at h;obtain⟨x,r,rfl,p,q⟩:=h;unfold Rp at p;rw[p,aC.toB q];rfl
theorem ma {H:Hp}{A:W7->Prop}:∀(ns:List Int),aC K H A (ns.map .int) (ns.map V.int)
 | []=>aC.nil
 |n::ns=>aC.cons dY (ma ns)
noncomputable def Ep:List U->R U:=λus=>match us with
 | [.lst xs]=>match jL xs with
  |some bs=>.ok (.bl (bs.all id))
  |none=>.stk
 |_=>.stk
theorem HV:kX K (λxs H Q=>∃(p:W7) (bs:List Bool),xs=[.ref p]/\eF K H p (bs.map V.bl)/\Q (.bl (bs.all id)) H) .S Ep:=λA H vs us z Q h mu e q=>by
 unfold Ep at e;split at e
 ·rename_i xs;split at e
  ·rename_i bs hb;cases e;obtain⟨v,rfl,p⟩:=h.one;unfold Pk at p;obtain⟨a,ys,rfl,h1,l1,r1⟩:=p;rw[wK hb] at r1;rw[r1.toB] at h1;exact⟨a,bs,rfl,eF.of h1,q _ H (aG.refl _) (show Rp K H A _ _ from jo)⟩
  ·cases e
 ·cases e
noncomputable def Cp (x:Int):List Int->List Int
 | []=>[x]
 |y::r=>if y<x then y::Cp x r else x::y::r
noncomputable def tq (ns:List Int):List Int:=ns.foldr Cp []
theorem nh (x:Int):∀l,(Cp x l).Perm (x::l)
 | []=>.refl _
 |y::r=>by
  unfold Cp;split
  ·exact ((nh x r).cons y).trans (.swap x y r)
  ·exact .refl _
theorem kY:∀ns:List Int,(tq ns).Perm ns
 | []=>.refl _
 |x::l=>(nh x _).trans ((kY l).cons x)
theorem AG (x:Int):∀{l:List Int},l.Pairwise (·<=·)->(Cp x l).Pairwise (·<=·)
 | [],_=>XX _ _
 |y::r,h=>by
  obtain⟨h1,h2⟩:=YK.mp h;unfold Cp;split
  ·refine YK.mpr ⟨λz hz=>?_,AG x h2⟩;rcases WV.mp ((nh x r).mem_iff.mp hz) with rfl|hz
   ·lia
   ·exact h1 z hz
  ·refine YK.mpr ⟨λz hz=>?_,h⟩;rcases WV.mp hz with rfl|hz
   ·lia
   ·have:=h1 z hz;lia
theorem wL:∀ns:List Int,(tq ns).Pairwise (·<=·)
 | []=>List.Pairwise.nil
 |x::l=>AG x (wL l)
noncomputable def yZ:List U->R U:=λus=>match us with
 | [.lst xs]=>match iu xs with
  |some ns=>if ns.length<64 then .ok (.lst ((tq ns).map .int)) else .stk
  |none=>.stk
 | [.tup xs]=>match iu xs with
  |some ns=>if ns.length<64 then .ok (.lst ((tq ns).map .int)) else .stk
  |none=>.stk
 |_=>.stk
theorem Cq:kX K (λxs H Q=>∃(p:W7) (ns:List Int),xs=[.ref p]/\(eF K H p (ns.map V.int)\/fQ K H p (ns.map V.int))/\ns.length<64/\
  ∀(l:W7) (ur:List Int),H l=none->ur.Perm ns->ur.Pairwise (·<=·)->Q (.ref l) (bV H l (.lst (ur.map V.int)))) .O yZ:=λA H vs us z Q h mu e q=>by
 have fin:∀(ns:List Int),ns.length<64->z=.lst ((tq ns).map .int)->∀(l:W7) (ur:List Int),H l=none->ur.Perm ns->ur.Pairwise (·<=·)->Q (.ref l) (bV H l (.lst (ur.map V.int))):=λns hl hz l ur hn hp hw=>by
  have e:ur=tq ns:=PySem.W.ksm_same (hp.trans (kY ns).symm) hw (wL ns);subst e hz;refine q _ _ (bQ hn _) ⟨l,rfl,hn,bI mu (ma _) hn ?_⟩;have:WJ=16777216:=rfl;rw[WA,(kY ns).length_eq];lia
 unfold yZ at e;split at e
 ·rename_i xs;split at e
  ·rename_i ns hb;split at e
   ·rename_i hl;cases e;obtain⟨v,rfl,p⟩:=h.one;unfold Pk at p;obtain⟨a,ys,rfl,h1,l1,r1⟩:=p;rw[l_ hb] at r1;rw[r1.toI] at h1;exact⟨a,ns,rfl,.inl (eF.of h1),hl,fin ns hl rfl⟩
   ·cases e
  ·cases e
 ·rename_i xs;split at e
  ·rename_i ns hb;split at e
   ·rename_i hl;cases e;obtain⟨v,rfl,p⟩:=h.one;unfold Pk at p;obtain⟨a,ys,rfl,h1,l1,r1⟩:=p;rw[l_ hb] at r1;rw[r1.toI] at h1;exact⟨a,ns,rfl,.inr (fQ.of h1),hl,fin ns hl rfl⟩
   ·cases e
  ·cases e
 ·cases e
noncomputable def R1 (ks:List U):String:=match ks with
 | .tup _::_=>"script"
 |_=>"dict"
noncomputable def Cr:U->String
 | .non=>"NoneType"
 | .bl _=>"bool"
 | .int _=>"int"
 | .str _=>"str"
 | .tup _=>"tuple"
 | .lst _=>"list"
 | .dct ks _=>R1 ks
 | .scr _=>"script"
theorem JB (h:Pk K H A u v)(hs:Cr u≠"script"):sf K H v (Cr u):=by
 cases u<;>unfold Pk at h
 case scr=>exact absurd rfl hs
 case non=>subst h;exact .non
 case bl=>subst h;exact .bl _
 case int=>subst h;exact .int _
 case str=>subst h;exact .str _
 case tup=>obtain⟨a,xs,rfl,h1,_⟩:=h;exact .tup h1
 case lst=>
  obtain⟨a,xs,rfl,h1,_⟩:=h;exact .lst h1
 case dct=>
  obtain⟨a,xs,rfl,h1,_⟩:=h;rcases h1 with⟨k,h1,e,_⟩|⟨k,n,h1,e,_⟩
  ·have:R1 (k.map λp=>kU p.1)="dict":=by
    cases k with
    |nil=>rfl
    |cons p k=>
     obtain⟨p1,p2⟩:=p;cases p1<;>rfl
   show sf K H _ (R1 _);rw[e,this];exact .dK h1
  ·refine absurd e λe=>?_;cases k with
   |nil=>exact n rfl
   |cons p k=>rw[e] at hs;exact hs rfl
variable {e:YO}{p1:Pos}{b1:Bool}{m1:Md}{g1:Ev->R (U×Ev)}
noncomputable def nV (T:String)(g:Ev->R (U×Ev)):Ev->R (U×Ev):=λρ=>(g ρ).bind λx=>if Cr x.1="script" then .stk else .ok (.bl (d8 (Cr x.1) T),x.2)
theorem j8 (hT:T∈["bool","int","str","list","tuple","dict"])(he:DE X G e b1 m1 g1)(zi:X.mg "isinstance"=none)(zt:X.mg x=none)(bt:XB x=some (.type T))(hg:Gl X "isinstance":=by rfl)(ht:Gl X x:=by rfl)(hn:x≠"__name__":=by decide)(hd:(x==("__debug__":Str))=false:=by decide)(hs:W5 [e,.Name x p2] X.env=(false,Z4 e X.env)::W5 [.Name x p2] X.env:=by rfl)(bT:W5 [.Name x p2] X.env=(false,Z4 (.Name x p2) X.env)::W5 [] X.env:=by rfl)(oR:(Zl pos (W5 [.Name x p2] X.env)).any (·.1)=false:=by rfl) :
  DE X G (.Call (.Name "isinstance" p1) [e,.Name x p2] [] pos) b1 .S (nV T g1):=⟨(lT (wj (m:=T) hT) hg zi kI (eI he.un (eI (ux (v:=.ty T) ht zt bt rfl hn hd) jA bT) hs) (by decide) (by decide) hs oR).to λσ H Q h=>by
 obtain⟨Z,A,ρ,q,f⟩:=h;obtain⟨⟨u,ρ1⟩,e1,f⟩:=f.bind;refine⟨Z,A,ρ,q,?_⟩;rw[e1];intro v H1 q1 x1 s1 vm;dsimp only at f;split at f
 ·exact f.elim
 ·rename_i hn;exact⟨v,_,rfl,JB vm.pk hn,f _ H1 q1 x1 s1 (vV.ofS jo)⟩⟩
noncomputable def wM (i j:Int):Bool:=decide (-1000000<=i)&&decide (i<=1000000)&&decide (-1000000<=j)&&decide (j<=1000000)
noncomputable def Er (g:Ev->R (List U×Ev)):Ev->R (U×Ev):=λρ=>(g ρ).bind λx=>match x.1 with
 | [.int j]=>if wM 0 j=true then .ok (.lst (aF 0 (j-0).toNat),x.2) else .stk
 |_=>.stk
noncomputable def Es (g:Ev->R (List U×Ev)):Ev->R (U×Ev):=λρ=>(g ρ).bind λx=>match x.1 with
 | [.int j]=>if wM 0 j=true then .ok (.tup (aF 0 (j-0).toNat),x.2) else .stk
 |_=>.stk
theorem tw (lo:Int)(n:Nat):aC K H A (aF lo n) ((Xo n).map λi=>V.int (lo+(i:Nat))):=by
 unfold aF;have e1:(Xo n).map (λi=>U.int (lo+(i:Nat)))=((Xo n).map λi=>lo+(i:Nat)).map U.int:=by rw[Xb];rfl
 have e2:(Xo n).map (λi=>V.int (lo+(i:Nat)))=((Xo n).map λi=>lo+(i:Nat)).map V.int:=by rw[Xb];rfl
 rw[e1,e2];exact ma _
theorem aU (lo:Int)(n:Nat):(aF lo n).length=n:=by unfold aF;rw[WA,XJ]
variable {ga:Ev->R (List U×Ev)}{a:YO}{p3 p4:Pos}
theorem HW (hc:X.calm=true)(ha:DA X G [a] b1 false ga)(zl:X.mg "list"=none)(zr:X.mg "range"=none)(hg:Gl X "list":=by rfl)(Qs:Gl X "range":=by rfl)
  (hs:W5 [.Call (.Name "range" p3) [a] [] p4] X.env=(false,Z4 (.Call (.Name "range" p3) [a] [] p4) X.env)::W5 [] X.env:=by rfl) (bT:W5 [a] X.env=(false,Z4 a X.env)::W5 [] X.env:=by rfl)
  (oR:(Zl pos (W5 [] X.env)).any (·.1)=false:=by rfl) (GF:(Zl p4 (W5 [] X.env)).any (·.1)=false:=by rfl):DE X G (.Call (.Name "list" p1) [.Call (.Name "range" p3) [a] [] p4] [] pos) b1 .O (Er ga):=⟨(gj (sh hc) hg zl lZ (eI (gj nP Qs zr wm ha.un (by decide) (by decide) bT GF) jA hs) (by decide) (by decide) hs oR).to λσ H Q h=>by
 obtain⟨Z,A,ρ,q,f⟩:=h;obtain⟨⟨us,ρ1⟩,e1,f⟩:=f.bind;refine⟨Z,A,ρ,q,?_⟩;rw[e1];intro vs H1 q1 x1 s1 vm;dsimp only at f;split at f
 ·rename_i j;split at f
  ·rename_i hj;have r:=vm.rps;unfold aC at r;obtain⟨v,vr,rfl,r1,r2⟩:=r;unfold aC at r2;subst r2;unfold Rp at r1;subst r1;unfold wM at hj;simp only[W6,decide_eq_true_eq] at hj;refine⟨j,rfl,λp hp=>⟨p,0,j,rfl,ba,by lia,by lia,λl hl=>?_⟩⟩;have sp:=bQ hp (.rng 0 j);have sl:=bQ hl (.lst ((Xo (j-0).toNat).map λi=>V.int (0+(i:Nat))));exact f _ _ ((q1.same sp).same sl) (x1.trans (dR.same (sp.trans sl))) (oY s1 (sp.trans sl)) (Ci.e (q1.same sp) sl ⟨l,rfl,hl,bI (q1.same sp).mu (tw 0 _) hl (by rw[aU];have:WJ=16777216:=rfl;lia)⟩)
  ·exact f.elim
 ·exact f.elim⟩
theorem HX (hc:X.calm=true)(ha:DA X G [a] b1 false ga)(zl:X.mg "tuple"=none)(zr:X.mg "range"=none)(hg:Gl X "tuple":=by rfl)(Qs:Gl X "range":=by rfl)
  (hs:W5 [.Call (.Name "range" p3) [a] [] p4] X.env=(false,Z4 (.Call (.Name "range" p3) [a] [] p4) X.env)::W5 [] X.env:=by rfl) (bT:W5 [a] X.env=(false,Z4 a X.env)::W5 [] X.env:=by rfl)
  (oR:(Zl pos (W5 [] X.env)).any (·.1)=false:=by rfl) (GF:(Zl p4 (W5 [] X.env)).any (·.1)=false:=by rfl):DE X G (.Call (.Name "tuple" p1) [.Call (.Name "range" p3) [a] [] p4] [] pos) b1 .S (Es ga):=⟨(gj (qe hc) hg zl cU (eI (gj nP Qs zr wm ha.un (by decide) (by decide) bT GF) jA hs) (by decide) (by decide) hs oR).to λσ H Q h=>by
 obtain⟨Z,A,ρ,q,f⟩:=h;obtain⟨⟨us,ρ1⟩,e1,f⟩:=f.bind;refine⟨Z,A,ρ,q,?_⟩;rw[e1];intro vs H1 q1 x1 s1 vm;dsimp only at f;split at f
 ·rename_i j;split at f
  ·rename_i hj;have r:=vm.rps;unfold aC at r;obtain⟨v,vr,rfl,r1,r2⟩:=r;unfold aC at r2;subst r2;unfold Rp at r1;subst r1;unfold wM at hj;simp only[W6,decide_eq_true_eq] at hj;refine⟨j,rfl,λp hp=>⟨p,0,j,rfl,ba,by lia,by lia,λl hl=>?_⟩⟩;have sp:=bQ hp (.rng 0 j);have sl:=bQ hl (.tup ((Xo (j-0).toNat).map λi=>V.int (0+(i:Nat))));exact f _ _ ((q1.same sp).same sl) (x1.trans (dR.same (sp.trans sl))) (oY s1 (sp.trans sl)) (vV.ofS (m7 (tw 0 _) hl (by rw[aU];have:WJ=16777216:=rfl;lia)))
  ·exact f.elim
 ·exact f.elim⟩
theorem i8 {a:W7}(o:HO):∀b u,b≠a->H b=some u->bV H a o b=some u:=λb u nb z=>by rw[aS nb];exact z
theorem pP {a:W7}(mu:∀a,A a->Mu (H a))(ha:A a)(r:aC K H A us xs)(l:us.length<=WJ):jt K (bV H a (.lst xs)) A (.lst us) a:=
 ⟨xs,ba,l,r.re mu (λb o nb z=>i8 _ b o (λy=>nb (y▸ha)) z) λb z=>.inl z⟩
def wN:V->List V->Hp->VK->Prop:=λx vs H Q=>∃l b xs zs,x=.ref l/\vs=[.ref b]/\H l=some (.lst xs)/\H b=some (.lst zs)/\xs.length+zs.length<=WJ/\Q .non (bV H l (.lst (xs++zs)))
theorem y8:GL X "list.extend" wN:=by
 intro pins s σ H x vs v us Q I rx rv h;obtain⟨l,b,xs,zs,rfl,rfl,hH,hB,hz,q⟩:=h;cases rx;obtain⟨u,rfl,ru⟩:=rv.one;cases ru;obtain⟨z,ao,n,r,hl,e⟩:=I.lstM hH;obtain⟨z2,its2,n2,r2,Dd,e2⟩:=I.lstM hB;have hsz:ao.toArray.size+its2.toArray.size<=WJ:=by rw[WK,WK];lia
 have GD:¬(!ao.toArray.isEmpty&&ZL (ao.toArray.size+its2.toArray.size))=true:=by
  rw[v9 hsz,abo];exact WE
 refine acx F.slot_list_extend ⟨_,e,rfl⟩ F.entry_list_extend (F.args_list_extend_2 _ _)
  (PySem.AutoSeq1.list_extend_list_list_0 l ao.toArray n b its2.toArray n2 GD (by rw[WK];lia) (by lia)) ⟨e,e2,?_⟩
 refine⟨.non,_,I.lset (its':=ao++its2) hH e (by simp) (r.append r2) ?_,rfl,q⟩;rw[WN];lia
def JC:V->List V->Hp->VK->Prop:=λx vs H Q=>wN x vs H Q\/wq x vs H Q
theorem HY:GL X "list.extend" JC:=y8.or yO
noncomputable def i9:U->List U->R (U×U):=λu us=>match u,us with
 | .lst xs,[.lst ys]=>if xs.length+ys.length<=WJ then .ok (.non,.lst (xs++ys)) else .stk
 | .lst xs,[.tup ys]=>if xs.length+ys.length<=WJ then .ok (.non,.lst (xs++ys)) else .stk
 |_,_=>.stk
theorem y9:yT K "list" JC i9:=λA H a u vs us z w Q t ha r mu e q=>by
 unfold i9 at e;split at e
 ·rename_i xs ys;split at e
  ·rename_i hl;cases e;obtain⟨zs,h1,l1,r1⟩:=t;unfold aC at r;obtain⟨v,vr,rfl,p,r2⟩:=r;unfold aC at r2;subst r2;unfold Rp at p;obtain⟨b,ws,rfl,nb,h2,l2,r3⟩:=p;exact .inl ⟨a,b,zs,ws,rfl,rfl,h1,h2,by rw[←r1.length,←r3.length];exact hl,q _ _ (i8 _) (pP mu ha (r1.append r3) (by rw[WN];exact hl)) qk⟩
  ·cases e
 ·rename_i xs ys;split at e
  ·rename_i hl;cases e;obtain⟨zs,h1,l1,r1⟩:=t;unfold aC at r;obtain⟨v,vr,rfl,p,r2⟩:=r;unfold aC at r2;subst r2;unfold Rp at p;obtain⟨b,ws,rfl,h2,l2,r3⟩:=p;exact .inr ⟨a,b,zs,ws,rfl,rfl,h1,h2,by rw[←r1.length,←r3.length];exact hl,q _ _ (i8 _) (pP mu ha (r1.append r3) (by rw[WN];exact hl)) qk⟩
  ·cases e
 ·cases e
noncomputable def nj:U->List U->R (U×U):=λu us=>match u,us with
 | .lst xs,[.int i]=>if -9223372036854775808<=i/\i<9223372036854775808 then (match acw i xs.length with
  |some k=>match xs[k]? with
   |some y=>.ok (y,.lst (xs.eraseIdx k))
   |none=>.stk
  |none=>.stk) else .stk
 |_,_=>.stk
theorem aC.erase {H:Hp}{A:W7->Prop}:∀{us:List U} {vs:List V} (n:Nat),aC K H A us vs->aC K H A (us.eraseIdx n) (vs.eraseIdx n)
 | [],vs,n,h=>by unfold aC at h;subst h;exact aC.nil
 |u::us,vs,0,h=>by
  unfold aC at h;obtain⟨x,r,rfl,p,q⟩:=h;exact q
 |u::us,vs,n+1,h=>by
  unfold aC at h;obtain⟨x,r,rfl,p,q⟩:=h;exact aC.cons p (aC.erase n q)
theorem Cs:yT K "list" DJ nj:=λA H a u vs us z w Q t ha r mu e q=>by
 unfold nj at e;split at e
 ·rename_i xs i;split at e
  ·rename_i hi;split at e
   ·rename_i k hk;split at e
    ·rename_i y hy;cases e;obtain⟨zs,h1,l1,r1⟩:=t;unfold aC at r;obtain⟨v,vr,rfl,p,r2⟩:=r;unfold aC at r2;subst r2;unfold Rp at p;subst p;obtain⟨v,h2,h3⟩:=r1.get hy;exact⟨a,zs,i,k,v,rfl,rfl,h1,by have:=hi.1;lia,by have:=hi.2;lia,by rw[←r1.length];exact hk,h2,q _ _ (i8 _) (pP mu ha (r1.erase k) (XC (List.length_eraseIdx_le _ _) l1)) (h3.re mu (λb o nb z=>i8 _ b o (λy=>nb (y▸ha)) z) λb z=>.inl z)⟩
    ·cases e
   ·cases e
  ·cases e
 ·cases e
noncomputable def UN:U->List U->R (U×U):=λu us=>match u,us with
 | .lst xs,[]=>match xs[xs.length-1]? with
  |some y=>.ok (y,.lst xs.dropLast)
  |none=>.stk
 |_,_=>.stk
noncomputable def qz:U->List U->R (U×U):=λu us=>match u,us with
 | .lst _,[]=>.ok (.non,.lst [])
 |_,_=>.stk
theorem Ct:yT K "list" DL qz:=λA H a u vs us z w Q t ha r mu e q=>by
 unfold qz at e;split at e
 ·rename_i xs;cases e;obtain⟨zs,h1,l1,r1⟩:=t;unfold aC at r;subst r;exact⟨a,zs,rfl,rfl,h1,q _ _ (i8 _) (pP mu ha aC.nil (X5 _)) qk⟩
 ·cases e
end
end L2
namespace L2
section
variable {m:Md}
theorem y_:g_ K (B3 λi j=>.bl (decide (i<j))) .S OW:=Ej
theorem Mb:g_ K (B3 λi j=>.bl (decide (j<i))) .S QO:=Ej
theorem Mc:g_ K (B3 λi j=>.bl (decide (j<=i))) .S RY:=Ej
theorem HZ {Qt:List abM}:yV X G m Qt (λ_=>.stk):=⟨λpins s σ H D I h=>by
 obtain⟨Z,A,ρ,q,f⟩:=h;exact f.elim⟩
noncomputable def Me:Ev->R (U×Ev):=λρ=>.ok (.dct [] [],ρ)
theorem md:DE X G (.Dict [] [] pos) false .O Me:=⟨DV.to λσ H Q h=>by
 obtain⟨Z,A,ρ,q,f⟩:=h;intro a na;have sn:=bQ na (.dK []);exact f _ _ (q.same sn) (dR.same sn) (λ_=>⟨rfl,sn⟩) (Ci.e q sn ⟨a,rfl,na,[],.inl ⟨[],ba,rfl,rfl⟩,X5 _,aC.nil⟩)⟩
end
end L2
namespace L2
def Mf (H:Hp)(a:W7)(y:V)(o:Option V):Prop:=Hr H a y o\/∃es k b,dM H a es/\y=.ref b/\r6 H k b/\o=eK es k
def QQ (H:Hp)(a:W7)(y v:V)(C:Hp->Prop):Prop:=(∃H',OF H a y v H'/\C H')\/∃es k b,dM H a es/\y=.ref b/\r6 H k b/\es.length<=WJ/\∀ep,C (bV H a (DN a ep (iC es k b v)))
def H9 (H:Hp)(a:W7):Prop:=Tp H a\/∃es,dM H a es
section
variable {d:V}{u r:WM}{o:Option V}{A:XD}
theorem Et (I:az X pins σ H s)(g:Mf H a y o):s.TypeIs (.ref a) "dict":=by
 rcases g with g|⟨es,k,b,g,_⟩
 ·exact we I g
 ·exact g.typeIs I
theorem JD (I:az X pins σ H s)(d:H9 H a):s.TypeIs (.ref a) "dict"/\(∀b,Value.ref a=.ref b->∃ob,s.heap.get? b=some ob/\ob.dict=none):=by
 rcases d with d|⟨es,d⟩
 ·obtain⟨x,y,_⟩:=LA I d;exact⟨x,y⟩
 ·exact⟨d.typeIs I,d.noDict I⟩
theorem Cu (hu:A.units+64<YV)(I:az X pins σ H s)(g:Mf H a y (some v))(ry:aN y u)(h:∀w' s',az X pins σ H s'->aN v w'->Q w' s') :
  W4 (Xg X.prog X.w) A (abQ (.ref a) u) Q E s:=by
 rcases g with g|⟨es,k,b,g,rfl,kb,e⟩
 ·exact Ca (by lia) I g ry h
 ·cases ry;exact Cf hu I g kb e.symm h
theorem Mg (hu:A.units+64<YV)(I:az X pins σ H s)(g:Mf H a y o)(ry:aN y u)(rd:aN d r)(h:∀w' s',az X pins σ H s'->aN (o.getD d) w'->Q w' s') :
  W4 (Xg X.prog X.w) A (call (.builtin "dict.get") [.ref a,u,r]) Q E s:=by
 rcases g with g|⟨es,k,b,g,rfl,kb,e⟩
 ·exact LB (by lia) I g ry rd h
 ·cases ry;subst e;exact LM hu I g kb rd h
theorem Cv {C:Hp->Prop}{Q:Unit->WY->Prop}(hu:A.units+64<YV)(I:az X pins σ H s)(g:QQ H a y v C)(ry:aN y u)(rv:aN v r)(h:∀H' s',C H'->az X pins σ H' s'->Q () s') :
  W4 (Xg X.prog X.w) A (setItem (.ref a) u r) Q E s:=by
 rcases g with⟨H',g,c⟩|⟨es,k,b,g,rfl,kb,hz,e⟩
 ·exact Cb (by lia) I g ry rv λs'=>h H' s' c
 ·cases ry;exact Cg hu I g kb hz rv λep s'=>h _ s' (e ep)
end
def OY (td ty:TE):TE:=λσ H Q=>td σ H λx H1=>ty σ H1 λy H2=>∃a v,x=.ref a/\Mf H2 a y (some v)/\Q v H2
def Mh (td ty tx:TE):TE:=λσ H Q=>td σ H λx H1=>∃a,x=.ref a/\H9 H1 a/\ty σ H1 λy H2=>tx σ H2 λz H3=>∃o,Mf H3 a y o/\Q (o.getD z) H3
def OZ (td ty tv:TE):TS:=λD σ H=>tv σ H λv H1=>td σ H1 λx H2=>ty σ H2 λy H3=>∃a,x=.ref a/\QQ H3 a y v λH4=>D.nx σ H4
section
variable {o i e f value:YO}{vO cI cpos:Pos}{td ty tv tx:TE}
theorem H_ (hu:X.A.units+64<YV)(ho:PE X o td)(hi:PE X i ty)(hs:Ly i):PE X (.Subscript o i pos) (OY td ty):=by
 intro pins s σ H Q I h;refine Hs PySem.F.slot_dict_getitem.lookup hs (du (ho pins s σ H _ I h) λu s1 ⟨x,H1,I1,rx,q1⟩=>du (hi pins s1 σ H1 _ I1 q1) λiv s2 ⟨y,H2,I2,ry,a,v,ex,g,q2⟩=>?_);subst ex;obtain rfl:u=Value.ref a:=rx;exact⟨Et I2 g,Cu hu I2 g ry λw' s3 I3 yo=>⟨v,H2,I3,yo,q2⟩⟩
theorem Eu (hu:X.A.units+64<YV)(ho:PE X o td)(he:PE X e ty)(hf:PE X f tx)(m:M2 X o "get" cI e f cpos):PE X (.Call (.Attribute o "get" cI) [e,f] [] cpos) (Mh td ty tx):=by
 intro pins s σ H Q I h;refine acC m.base m.few m.line aaV Z_ PySem.F.type_dict_get (du (ho pins s σ H _ I h) λu s1 ⟨x,H1,I1,rx,a,ex,d,q1⟩=>?_);subst ex;obtain rfl:u=Value.ref a:=rx;obtain⟨t1,t2⟩:=JD I1 d;refine⟨t1,t2,?_⟩;rw[m.trees];refine Zk rfl (abF (Z5 (du (he pins s1 σ H1 _ I1 q1) λiv s2 ⟨y,H2,I2,ry,q2⟩=>
  Z5 (du (hf pins s2 σ H2 _ I2 q2) λfv s3 ⟨z,H3,I3,rz,ov,g,q3⟩=>acu ?_))))
 exact Mg hu I3 g ry rz λw' s4 I4 yo=>⟨_,H3,I4,yo,q3⟩
theorem Ia (hu:X.A.units+64<YV)(ho:PE X o td)(hi:PE X i ty)(hv:PE X value tv)(hs:abq value (some (.Subscript o i vO)) pos.line X.env=pure false) :
  PS X (.Assign [.Subscript o i vO] value pos) (OZ td ty tv):=by
 intro pins s σ H D I h;refine wpAny_Assign_Subscript (du (hv pins s σ H _ I h) λr s1 ⟨v,H1,I1,rv,q1⟩=>du (ho pins s1 σ H1 _ I1 q1) λu s2 ⟨x,H2,I2,rx,q2⟩=>du (hi pins s2 σ H2 _ I2 q2) λiv s3 ⟨y,H3,I3,ry,a,ex,g⟩=>?_) hs;subst ex;obtain rfl:u=Value.ref a:=rx;exact Cv hu I3 g ry rv λH4 s4 q3 I4=>⟨σ,H4,I4,q3⟩
end
noncomputable def Ew:U->Bool
 | .int _=>true
 | .str _=>true
 |_=>false
mutual
noncomputable def uQ:U->Bool
 | .int _=>true
 | .tup us=>wO us
 |_=>false
noncomputable def wO:List U->Bool
 | []=>true
 |u::us=>uQ u&&wO us
end
noncomputable def Cw:U->Bool
 | .tup us=>wO us&&decide (su us<=6)
 |_=>false
noncomputable def Ex:U->Bool
 | .tup _=>true
 |_=>false
noncomputable def kA (ks:List U)(k:U):Bool:=(Ew k&&ks.all Ew)||(Cw k&&ks.all Ex)
noncomputable def cW:List U->List U->U->Option U
 |k'::ks,u::us,k=>if k'=k then some u else cW ks us k
 |_,_,_=>none
noncomputable def cc (ks us:List U)(k v:U):List U:=if k∈ks then X1 (λk' u=>if k'=k then v else u) ks us else us++[v]
noncomputable def cK (ks:List U)(k:U):List U:=if k∈ks then ks else ks++[k]
mutual
theorem O0:∀{u:U} {v:V},uQ u=true->Rp K H A u v->KH H u v
 | .int i,v,_,h=>by unfold Rp at h;unfold KH;exact h
 | .tup us,v,k,h=>by
  unfold uQ at k;unfold Rp at h;unfold KH;obtain⟨a,xs,r,q,l,z⟩:=h;exact⟨a,xs,r,q,l,za k z⟩
 | .non,v,k,h=>by unfold uQ at k;cases k
 | .bl _,v,k,h=>by unfold uQ at k;cases k
 | .str _,v,k,h=>by unfold uQ at k;cases k
 | .lst _,v,k,h=>by unfold uQ at k;cases k
 | .dct _ _,v,k,h=>by unfold uQ at k;cases k
 | .scr _,v,k,h=>by unfold uQ at k;cases k
theorem za:∀{us:List U} {vs:List V},wO us=true->aC K H A us vs->qg H us vs
 | [],vs,_,h=>by unfold aC at h;unfold qg;exact h
 |u::us,vs,k,h=>by
  unfold wO at k;rw[W6] at k;unfold aC at h;unfold qg;obtain⟨x,r,q,p,z⟩:=h;exact⟨x,r,q,O0 k.1 p,za k.2 z⟩
end
theorem wQ (k:Cw (.tup us)=true)(h:Rp K H A (.tup us) v):∃b,v=.ref b/\r6 H us b:=by
 unfold Cw at k;rw[W6] at k;unfold Rp at h;obtain⟨a,xs,r,q,l,z⟩:=h;exact⟨a,r,of_decide_eq_true k.2,xs,q,l,za k.1 z⟩
theorem JE (k:Ew u=true)(h:Rp K H A u v):∃q:Key,u=kU q/\v=kV q:=by
 cases u<;>first|(cases k;done)|skip
 ·unfold Rp at h;exact⟨.inl _,rfl,h⟩
 ·unfold Rp at h;exact⟨.inr _,rfl,h⟩
theorem zc {a b:Key}(h:kU a=kU b):a=b:=by
 cases a<;>cases b<;>unfold kU at h<;>first|(cases h;rfl)|cases h
theorem zd {k:Key}:∀{aK:List (Key×V)} {us:List U},aC K H A us (aK.map (·.2))->(∀u,cW (aK.map λp=>kU p.1) us (kU k)=some u->∃v,oX aK k=some v/\Rp K H A u v)/\(cW (aK.map λp=>kU p.1) us (kU k)=none->oX aK k=none)
 | [],us,r=>⟨(λu h=>by unfold cW at h;cases h),λ_=>rfl⟩
 |p::aK,us,r=>by
  cases us with
  |nil=>unfold aC at r;cases r
  |cons u us=>
   unfold aC at r;obtain⟨x,rr,e,h1,h2⟩:=r;cases e;rw[WD];unfold cW;by_cases c:p.1=k
   ·rw[hZ (by rw[c]),lW c];exact⟨λw h=>by cases h;exact⟨_,rfl,h1⟩,λh=>by cases h⟩
   ·rw[hV (λz=>c (zc z)),lX c];exact zd h2
theorem ze {k:List U}:∀{es:List (List U×W7×V)} {us:List U},aC K H A us (es.map (·.2.2))->(∀u,cW (es.map λp=>.tup p.1) us (.tup k)=some u->∃v,eK es k=some v/\Rp K H A u v)/\(cW (es.map λp=>.tup p.1) us (.tup k)=none->eK es k=none)
 | [],us,r=>⟨(λu h=>by unfold cW at h;cases h),λ_=>rfl⟩
 |p::es,us,r=>by
  cases us with
  |nil=>unfold aC at r;cases r
  |cons u us=>
   unfold aC at r;obtain⟨x,rr,e,h1,h2⟩:=r;cases e;rw[WD];unfold cW eK;rw[Ya];by_cases c:p.1=k
   ·rw[hZ (by rw[c]),hG c];exact⟨λw h=>by cases h;exact⟨_,rfl,h1⟩,λh=>by cases h⟩
   ·rw[hV (λz=>c (iZ.mp z)),hJ c];exact ze h2
theorem Ey {k:U}(d:uJ H a ks xs)(r:aC K H A us xs)(f:kA ks k=true)(hk:Rp K H A k y) :
  ∃o,Mf H a y o/\(∀u,cW ks us k=some u->∃v,o=some v/\Rp K H A u v)/\(cW ks us k=none->o=none):=by
 unfold kA at f;rw[aaa,W6,W6] at f;rcases d with⟨aK,h,e1,e2⟩|⟨es,n,h,e1,e2⟩
 ·rcases f with⟨f1,f2⟩|⟨f1,f2⟩
  ·obtain⟨q,rfl,rfl⟩:=JE f1 hk;subst e1 e2;exact⟨_,.inl (.inl ⟨aK,q,.inl h,rfl,rfl⟩),(zd r).1,(zd r).2⟩
  ·cases aK with
   |nil=>
    subst e1 e2;cases k<;>first|(cases f1;done)|skip
    rename_i kk;obtain⟨b,rfl,kt⟩:=wQ f1 hk;exact⟨none,.inr ⟨[],kk,b,⟨.inr ⟨rfl,h⟩,Y9,(λe he=>by cases he)⟩,rfl,kt,rfl⟩,(λu z=>by unfold cW at z;cases z),λ_=>rfl⟩
   |cons p aK=>
    exfalso;subst e1;rw[WD,Zr,W6] at f2;obtain⟨p1,p2⟩:=p;cases p1<;>cases f2.1
 ·rcases f with⟨f1,f2⟩|⟨f1,f2⟩
  ·exfalso;subst e1;cases es with
   |nil=>exact n rfl
   |cons p es=>rw[WD,Zr,W6] at f2;cases f2.1
  ·subst e1 e2;cases k<;>first|(cases f1;done)|skip
   rename_i kk;obtain⟨b,rfl,kt⟩:=wQ f1 hk;exact⟨_,.inr ⟨es,kk,b,h,rfl,kt,rfl⟩,(ze r).1,(ze r).2⟩
end L2
namespace L2
theorem aC.snoc (h:aC K H A us vs)(p:Rp K H A u v):aC K H A (us++[u]) (vs++[v]):=h.append (aC.cons p aC.nil)
theorem O1 {k:Key}(aK:List (Key×V)):(aK.any λkv=>decide (kv.1=k))=decide (kU k∈aK.map λp=>kU p.1):=by
 rw[Yu,List.any_eq_true,decide_eq_true_eq,WS];constructor
 ·rintro⟨p,h1,h2⟩;exact⟨p,h1,by rw[of_decide_eq_true h2]⟩
 ·rintro⟨p,h1,h2⟩;exact⟨p,h1,hG (zc h2)⟩
theorem AH {k:Key}(aK:List (Key×V))(v:V):lV aK k v=if (aK.any λkv=>decide (kv.1=k))=true then aK.map (λkv=>if kv.1=k then (kv.1,v) else kv) else aK++[(k,v)]:=by
 unfold lV;rfl
theorem Cy {k:Key}(aK:List (Key×V))(v:V):(lV aK k v).map (λp=>kU p.1)=cK (aK.map λp=>kU p.1) (kU k):=by
 rw[AH,O1];unfold cK;by_cases c:kU k∈aK.map λp=>kU p.1
 ·rw[hG c,hZ rfl,hZ c,Xb];refine Xl λp _=>?_;show kU (if p.1=k then (p.1,v) else p).1=kU p.1;split<;>rfl
 ·rw[hJ c,hV WE,hV c,WW];rfl
theorem Cz {k:Key}(p:Rp K H A u v){aK:List (Key×V)}(r:aC K H A us (aK.map (·.2))):aC K H A (cc (aK.map λp=>kU p.1) us (kU k) u) ((lV aK k v).map (·.2)):=by
 rw[AH,O1];unfold cc;by_cases c:kU k∈aK.map λp=>kU p.1
 ·rw[hG c,hZ rfl,hZ c];clear c
  induction aK generalizing us with
  |nil=>
   rw[X0] at r;unfold aC at r;cases us with
   |nil=>exact aC.nil
   |cons=>obtain⟨_,_,e,_⟩:=r;cases e
  |cons q aK ih=>
   cases us with
   |nil=>unfold aC at r;cases r
   |cons w us=>
    unfold aC at r;obtain⟨x,rr,e,h1,h2⟩:=r;cases e;rw[WD,WD,WD,XN];refine aC.cons ?_ (ih h2);by_cases c:q.1=k
    ·rw[hZ (by rw[c]),hZ c];exact p
    ·rw[hV (λz=>c (zc z)),hV c];exact h1
 ·rw[hJ c,hV WE,hV c,WW];exact r.snoc p
theorem mf {k:List U}:∀(es:List (List U×W7×V)),(eK es k).isSome=decide (U.tup k∈es.map λp=>U.tup p.1)
 | []=>by simp[eK]
 |e::es=>by
  have ih:=mf (k:=k) es;unfold eK at ih ⊢;rw[Ya,WD];by_cases c:e.1=k
  ·rw[hG c,hG (by rw[c];exact WG)];rfl
  ·rw[hJ c];dsimp only;rw[ih,Yu,decide_eq_true_eq,decide_eq_true_eq,WV];constructor
   ·exact .inr
   ·rintro (z|z)
    ·exact absurd (iZ.mp z).symm c
    ·exact z
theorem CA {k:List U}(es:List (List U×W7×V))(v:V):(iC es k b v).map (λp=>U.tup p.1)=cK (es.map λp=>.tup p.1) (.tup k):=by
 unfold iC cK;rw[mf];by_cases c:U.tup k∈es.map λp=>U.tup p.1
 ·rw[hG c,hZ rfl,hZ c,Xb];refine Xl λp _=>?_;show U.tup (if p.1=k then (p.1,p.2.1,v) else p).1=.tup p.1;split<;>rfl
 ·rw[hJ c,hV WE,hV c,WW];rfl
theorem CB {k:List U}(p:Rp K H A u v)(r:aC K H A us (es.map (·.2.2))):aC K H A (cc (es.map λp=>.tup p.1) us (.tup k) u) ((iC es k b v).map (·.2.2)):=by
 unfold iC cc;rw[mf];by_cases c:U.tup k∈es.map λp=>U.tup p.1
 ·rw[hG c,hZ rfl,hZ c];clear c
  induction es generalizing us with
  |nil=>
   rw[X0] at r;unfold aC at r;cases us with
   |nil=>exact aC.nil
   |cons=>obtain⟨_,_,e,_⟩:=r;cases e
  |cons q es ih=>
   cases us with
   |nil=>unfold aC at r;cases r
   |cons w us=>
    unfold aC at r;obtain⟨x,rr,e,h1,h2⟩:=r;cases e;rw[WD,WD,WD,XN];refine aC.cons ?_ (ih h2);by_cases c:q.1=k
    ·rw[hZ (by rw[c]),hZ c];exact p
    ·rw[hV (λz=>c (iZ.mp z)),hV c];exact h1
 ·rw[hJ c,hV WE,hV c,WW];exact r.snoc p
theorem Ib {k:List U}(h:(es.map (·.1)).Nodup):((iC es k b v).map (·.1)).Nodup:=by
 unfold iC;split
 ·rw[Xb];have:es.map ((λx=>x.1)∘λe=>if e.1=k then (e.1,e.2.1,v) else e)=es.map (·.1):=Xl λe _=>by
   show (if e.1=k then (e.1,e.2.1,v) else e).1=e.1;split<;>rfl
  rw[this];exact h
 ·rename_i c;rw[WW,WD,X0];refine Ye.mpr ⟨h,by simp,?_⟩;intro x hx y hy e;rw[WU.mp hy] at e;subst e;rw[mf] at c;apply c;rw[decide_eq_true_eq];obtain⟨e,he,rfl⟩:=WS.mp hx;exact WS.mpr ⟨e,he,rfl⟩
theorem Ez {k:List U}(h:∀e∈es,r6 H e.1 e.2.1)(kb:r6 H k b):∀e∈iC es k b v,r6 H e.1 e.2.1:=by
 unfold iC;split
 ·intro e he;obtain⟨e',h1,rfl⟩:=WS.mp he;split
  ·exact h e' h1
  ·exact h e' h1
 ·intro e he;rcases W0.mp he with z|z
  ·exact h e z
  ·rw[WU.mp z];exact kb
theorem Ic {k:List U}:iC es k b v≠[]:=by
 unfold iC;split
 ·rename_i c;intro z;cases es with
  |nil=>cases c
  |cons e es=>cases z
 ·simp
theorem EA {k v:U}(h:ks.length=us.length):(cc ks us k v).length<=us.length+1:=by
 unfold cc;split
 ·rw[Zg];lia
 ·rw[WN,YF];exact WR _
theorem uJ.len (d:uJ H a ks xs)(r:aC K H A us xs):ks.length=us.length:=by
 rcases d with⟨aK,_,rfl,rfl⟩|⟨es,_,_,rfl,rfl⟩
 ·rw[r.length,WA,WA]
 ·rw[r.length,WA,WA]
theorem Mi {k w:U}(mu:∀a,A a->Mu (H a))(ha:A a)(d:uJ H a ks xs)(r:aC K H A us xs)(f:kA ks k=true)(hk:Rp K H A k y)(hw:Rp K H A w v)(hl:us.length<WJ){C:Hp->Prop}(hC:∀H',(∀b o,b≠a->H b=some o->H' b=some o)->jt K H' A (.dct (cK ks k) (cc ks us k w)) a->C H'):QQ H a y v C:=by
 have ln:=d.len r;have l2:(cc ks us k w).length<=WJ:=XC (EA ln) hl;have nt:∀b ys,H b=some (.tup ys)->b≠a:=λb ys h e=>by
  subst e;have:=mu b ha;rw[h] at this;exact this
 have fin:∀(o:HO) (zs:List V),uJ (bV H a o) a (cK ks k) zs->aC K H A (cc ks us k w) zs->jt K (bV H a o) A (.dct (cK ks k) (cc ks us k w)) a:=λo zs d' r'=>
  ⟨zs,d',l2,r'.re mu (λb o' nb z=>i8 _ b o' (λy=>nb (y▸ha)) z) λb z=>.inl z⟩
 have Qu:∀(es:List (List U×W7×V)) (kk:List U) (b:W7),dM H a es->r6 H kk b->k=.tup kk->y=.ref b->ks=es.map (λp=>.tup p.1)->xs=es.map (·.2.2)->QQ H a y v C:=by
  rintro es kk b h kt rfl rfl rfl rfl;have le:es.length=us.length:=by rw[r.length,WA]
  refine .inr ⟨es,kk,b,h,rfl,kt,by lia,λep=>hC _ (i8 _) (fin _ _ (.inr ⟨iC es kk b v,Ic,?_,(CA es v).symm,rfl⟩) (CB hw r))⟩;have tp:∀c ys,H c=some (.tup ys)->bV H a (DN a ep (iC es kk b v)) c=some (.tup ys):=λc ys hc=>by rw[aS (nt c ys hc)];exact hc
  exact⟨.inl ⟨ep,ba⟩,Ib h.nd,λe he=>(Ez h.key kt e he).to tp⟩
 unfold kA at f;rw[aaa,W6,W6] at f;rcases d with⟨aK,h,e1,e2⟩|⟨es,n,h,e1,e2⟩
 ·rcases f with⟨f1,f2⟩|⟨f1,f2⟩
  ·obtain⟨q,rfl,rfl⟩:=JE f1 hk;subst e1 e2;have lk:aK.length=us.length:=by rw[r.length,WA]
   exact .inl ⟨_,.inl ⟨aK,q,h,rfl,by lia,rfl⟩,hC _ (i8 _) (fin _ _ (.inl ⟨_,ba,(Cy aK v).symm,rfl⟩) (Cz hw r))⟩
  ·cases aK with
   |nil=>
    subst e1 e2;cases k<;>first|(cases f1;done)|skip
    rename_i kk;obtain⟨b,rfl,kt⟩:=wQ f1 hk;exact Qu [] kk b ⟨.inr ⟨rfl,h⟩,Y9,(λe he=>by cases he)⟩ kt rfl rfl rfl rfl
   |cons p aK=>
    exfalso;subst e1;rw[WD,Zr,W6] at f2;obtain⟨p1,p2⟩:=p;cases p1<;>cases f2.1
 ·rcases f with⟨f1,f2⟩|⟨f1,f2⟩
  ·exfalso;subst e1;cases es with
   |nil=>exact n rfl
   |cons p es=>rw[WD,Zr,W6] at f2;cases f2.1
  ·cases k<;>first|(cases f1;done)|skip
   rename_i kk;obtain⟨b,rfl,kt⟩:=wQ f1 hk;exact Qu es kk b h kt rfl rfl e1 e2
section
variable {o i e f value:YO}{vO cI cpos p1:Pos}{b1 b2 b3:Bool}{m m1 m2 m3:Md}{g1 g2 g3:Ev->R (U×Ev)}{y:Str}
noncomputable def o_:U->U->R U:=λu w=>match u with
 | .dct ks us=>if kA ks w=true then (match cW ks us w with
  |some z=>.ok z
  |none=>.stk) else .stk
 |_=>.stk
theorem O2 (h:Pk K H A u v)(c:Ew u=true\/Ex u=true):Rp K H A u v:=by
 cases u<;>first|(exfalso;rcases c with c|c<;>cases c;done)|(unfold Pk at h;unfold Rp;exact h)
theorem Ie {k:U}(f:kA ks k=true):Ew k=true\/Ex k=true:=by
 unfold kA at f;rw[aaa,W6,W6] at f;rcases f with⟨f,_⟩|⟨f,_⟩
 ·exact .inl f
 ·cases k<;>first|(cases f;done)|exact .inr rfl
theorem EB (hu:X.A.units+64<YV)(ha:DE X G o b1 m1 g1)(hb:DE X G i b2 m2 g2)(hs:Ly i:=by intro _ _;rfl)(hm:m1=.P->b2=false:=by first|exact λ_=>rfl|exact λh=>nomatch h):DE X G (.Subscript o i pos) (b1||b2) .S (aZ o_ g1 g2):=⟨(H_ hu ha.un hb.un hs).to λσ H Q h=>by
 have hp:g_ X.K (λx y H Q=>∃a v,x=.ref a/\Mf H a y (some v)/\Q v H) .S o_:=λA H x y u w z Q hx hy mu e q=>by
  unfold o_ at e;split at e;rotate_left
  ·cases e
  split at e
  ·rename_i fk;split at e
   ·rename_i z' hz;cases e;unfold Pk at hx;obtain⟨a,xs,rfl,d,l,r⟩:=hx;obtain⟨ov,g,q1,_⟩:=Ey d r fk (O2 hy (Ie fk));obtain⟨v,rfl,rp⟩:=q1 _ hz;exact⟨a,v,rfl,g,q v H (aG.refl _) rp⟩
   ·cases e
  ·cases e
 exact l4 hp hm h⟩
noncomputable def jM (i:Nat)(g2 g3:Ev->R (U×Ev)):Ev->R (U×Ev):=λρ=>match ρ[i]? with
 |some (some (.dct _ _))=>(g2 ρ).bind λk=>(g3 k.2).bind λx=>match x.2[i]? with
  |some (some (.dct ks us))=>if kA ks k.1=true then .ok ((cW ks us k.1).getD x.1,x.2) else .stk
  |_=>.stk
 |_=>.stk
theorem Ig {K:WH}(d:uJ H a ks xs):H9 H a:=by
 rcases d with⟨aK,h,_⟩|⟨es,_,h,_⟩
 ·exact .inl (.inl ⟨aK,.inl h⟩)
 ·exact .inr ⟨es,h⟩
theorem tE (q:b_ K G Z A ρ σ H)(h:ρ[j]? = some (some (.dct ks us))):∃a xs,σ[j]? = some (some (.ref a))/\uJ H a ks xs/\us.length<=WJ/\aC K H A us xs:=by
 obtain⟨v,h1,h2⟩:=q.slot j _ h;by_cases c:G.is j=true
 ·rw[hZ c] at h2;obtain⟨a,rfl,_,_,_,t⟩:=h2;obtain⟨xs,d,l,r⟩:=t;exact⟨a,xs,h1,d,l,r⟩
 ·rw[hV c] at h2;unfold Rp at h2;obtain⟨a,xs,rfl,_,d,l,r⟩:=h2;exact⟨a,xs,h1,d,l,r⟩
theorem wR (hu:X.A.units+64<YV)(he:DE X G e b1 m1 g1)(hf:DE X G f b2 m2 g2)(n1:m1≠.P:=by decide)(n2:m2≠.P:=by decide)(hN:X.N[j]? = some y:=by rfl)(hv:BY X.env.scope y:=by first|exact Or.inl rfl|exact Or.inr (Or.inl rfl)|exact Or.inr (Or.inr rfl))(hd:(y==("__debug__":Str))=false:=by decide)(lE:(y==("__classdict__":Str))=false:=by decide)(M:M2 X (.Name y p1) "get" cI e f cpos:=by exact⟨rfl,rfl,rfl,rfl⟩):DE X G (.Call (.Attribute (.Name y p1) "get" cI) [e,f] [] cpos) (b1||b2) .S (jM j g1 g2):=⟨(Eu hu (gx hN hv hd lE) he.un hf.un M).to λσ H Q h=>by
 obtain⟨Z,A,ρ,q,f⟩:=h;unfold jM at f;split at f
 ·rename_i Wg Wh h0;obtain⟨a,xs0,s0,d0,_,_⟩:=tE q h0;obtain⟨⟨k,ρ1⟩,e1,f⟩:=f.bind;obtain⟨⟨x,ρ2⟩,e2,f⟩:=f.bind;dsimp only at e2 f;split at f
  ·rename_i ks us h2;split at f
   ·rename_i fk;refine⟨.ref a,s0,a,rfl,Ig (K:=X.K) d0,Z,A,ρ,q,?_⟩;rw[e1];intro v1 H1 q1 x1 s1 pY;refine⟨Z,A,ρ1,q1,?_⟩;rw[e2];intro v2 H2 q2 x2 s2 vP;obtain⟨a',xs,s0',d,_,r⟩:=tE q2 h2;rw[s0] at s0';cases s0';obtain⟨ov,g,z1,z2⟩:=Ey d r fk (pY.laterS q1 x2 n1);refine⟨ov,g,f _ H2 q2 (x1.trans x2) (two s1 s2) ?_⟩;cases hz:cW ks us k with
    |none=>rw[z2 hz];exact vP.rp n2
    |some w=>obtain⟨v,rfl,rp⟩:=z1 _ hz;exact rp
   ·exact f.elim
  ·exact f.elim
 ·exact f.elim⟩
noncomputable def jN (i:Nat)(gv gk:Ev->R (U×Ev)):Ev->SR:=λρ=>SR.of (gv ρ) λx=>if live x.2 i=true then SR.of (gk x.2) λy=>match y.2[i]? with
 |some (some (.dct ks us))=>if kA ks y.1=true/\us.length<WJ then .nx (y.2.set i (some (.dct (cK ks y.1) (cc ks us y.1 x.1)))) else .stk
 |_=>.stk
 else .stk
theorem uR (hu:X.A.units+64<YV)(hv:DE X G value b1 m1 g1)(hk:DE X G i b2 m2 g2)(n1:m1≠.P:=by decide)(n2:m2≠.P:=by decide)(hN:X.N[j]? = some y:=by rfl)(U9:BY X.env.scope y:=by first|exact Or.inl rfl|exact Or.inr (Or.inl rfl)|exact Or.inr (Or.inr rfl))(c:G.is j=true:=by rfl)(hd:(y==("__debug__":Str))=false:=by decide)(lE:(y==("__classdict__":Str))=false:=by decide)(hs:abq value (some (.Subscript (.Name y p1) i vO)) pos.line X.env=pure false:=by rfl):DS X G m (.Assign [.Subscript (.Name y p1) i vO] value pos) (jN j g1 g2):=⟨(Ia hu (gx hN U9 hd lE) hk.un hv.un hs).to λD σ H h00=>by
 obtain⟨Z,A,ρ,q,f⟩:=h00;obtain⟨⟨w,ρ1⟩,e1,f⟩:=f.of;refine⟨Z,A,ρ,q,?_⟩;rw[e1];intro v H1 q1 x1 s1 vm;dsimp only at f;split at f
 ·rename_i hl;obtain⟨u00,hu0⟩:=uL hl;obtain⟨a0,h0,_⟩:=q1.own c hu0;obtain⟨⟨k,ρ2⟩,e2,f⟩:=f.of;refine⟨.ref a0,h0,Z,A,ρ1,q1,?_⟩;rw[e2];intro v2 H2 q2 x2 s2 vP;dsimp only at f;split at f
  ·rename_i ks us NV;split at f
   ·rename_i fk;obtain⟨a0',k1,k2,_,_,k5⟩:=q2.own c NV;rw[h0] at k1;cases k1;obtain⟨xs,d,_,r⟩:=k5;exact⟨a0,rfl,Mi q2.mu k2 d r fk.1 (vP.rp n2) ((vm.rp n1).re q1.mu x2 λb z=>.inl z) fk.2 λH' em t=>f A σ H' (q2.put c NV h0 em t)⟩
   ·exact f.elim
  ·exact f.elim
 ·exact f.elim⟩
end
end L2
namespace Hc.Sx
open PySem.SetTable
noncomputable def fZ:Nat->Nat
 |0=>0
 |n+1=>5*fZ n+1
theorem AI (n:Nat):5 ^ n=4*fZ n+1:=by
 induction n with
 |zero=>rfl
 |succ n ih=>rw[Zu,ih];show _=4*(5*fZ n+1)+1;lia
theorem Ih (m n:Nat):fZ (m+n)=5 ^ n*fZ m+fZ n:=by
 induction n with
 |zero=>simp[fZ]
 |succ n ih=>
  show 5*fZ (m+n)+1=5 ^ (n+1)*fZ m+(5*fZ n+1);rw[ih,Zu,YT (5 ^ n) 5,Nat.mul_add,Yp];lia
theorem Ii (n:Nat):fZ n % 2=n % 2:=by
 induction n with
 |zero=>rfl
 |succ n ih=>unfold fZ;lia
theorem Ij (d:Nat):fZ (d+d)=fZ d*(2*(2*fZ d+1)):=by
 rw[Ih,AI];have:fZ d*(2*(2*fZ d+1))=4*(fZ d*fZ d)+2*fZ d:=by
  rw[←Yp,Nat.mul_add,YT (fZ d) 2,Nat.mul_one];have:2*fZ d*(2*fZ d)=4*(fZ d*fZ d):=by
   rw[Yp,abg (fZ d) 2,←Yp]
  rw[this]
 rw[this,Nat.add_mul,Yp];lia
theorem Tq (k q:Nat):Nat.Coprime (2 ^ k) (2*q+1):=by
 refine Nat.Coprime.pow_left k ?_;unfold Nat.Coprime;rw[Nat.gcd_rec,show (2*q+1) % 2=1 by lia];rfl
theorem AJ:∀(k d:Nat),2 ^ k ∣ fZ d->2 ^ k ∣ d
 |0,d,_=>⟨d,by simp⟩
 |k+1,d,h=>by
  have e:d % 2=0:=by
   rw[←Ii];obtain⟨c,hc⟩:=h;rw[hc,Zu,Yp,abg];lia
  obtain⟨d',rfl⟩:∃d',d=d'+d':=⟨d / 2,by lia⟩;rw[Ij,Zu,YT (2 ^ k) 2,abg (fZ d') 2] at h;have h1:2 ^ k ∣ fZ d'*(2*fZ d'+1):=Nat.dvd_of_mul_dvd_mul_left (by decide) h;have h2:2 ^ k ∣ fZ d':=aa4 (Tq k _) h1;obtain⟨c,hc⟩:=AJ k d' h2;exact⟨c,by rw[Zu,Yp,abg,←hc];lia⟩
noncomputable def sv (M x:Nat):Nat->Nat
 |0=>x
 |n+1=>(sv M x n*5+1) % M
theorem AK (M x:Nat):∀n,sv M x n % M=(5 ^ n*x+fZ n) % M
 |0=>by simp[sv,fZ]
 |n+1=>by
  unfold sv fZ;rw[Nat.mod_mod,Zu,YT (5 ^ n) 5,Yp];have:=AK M x n;rw[Nat.add_mod,Nat.mul_mod,this,←Nat.mul_mod,←Nat.add_mod];congr 1;rw[YT _ 5,Nat.mul_add];lia
theorem uS (M x m:Nat):∀n,sv M x (m+n)=sv M (sv M x m) n
 |0=>rfl
 |n+1=>by
  show (sv M x (m+n)*5+1) % M=_;rw[uS M x m n];rfl
theorem EC {M x:Nat}(h:x<M):∀n,sv M x n<M
 |0=>h
 |n+1=>aal _ (by lia)
theorem ED {x d:Nat}(hx:x<2 ^ k)(h:sv (2 ^ k) x d=x):2 ^ k ∣ d:=by
 have e:=AK (2 ^ k) x d;rw[h,AI,Nat.add_mul,Nat.one_mul] at e;have h2:2 ^ k ∣ fZ d*(2*(2*x)+1):=by
  have:fZ d*(2*(2*x)+1)=4*fZ d*x+fZ d:=by
   rw[Nat.mul_add,Nat.mul_one,←Yp,←Yp,Yp (fZ d) 2 2,YT (fZ d)]
  rw[this];have e2:(x+(4*fZ d*x+fZ d)) % 2 ^ k=x % 2 ^ k:=by rw[e];congr 1;lia
  have e3:((4*fZ d*x+fZ d)) % 2 ^ k=0:=by
   have:=(Nat.mod_eq_mod_iff (x:=x+(4*fZ d*x+fZ d)) (y:=x) (z:=2 ^ k)).mp e2;obtain⟨a,b,uu⟩:=this;have:4*fZ d*x+fZ d+2 ^ k*a=2 ^ k*b:=by rw[YT _ a,YT _ b];lia
   have h3:2 ^ k ∣ 4*fZ d*x+fZ d:=(Nat.dvd_add_right (Nat.dvd_mul_right (2 ^ k) a)).mp (by rw[Nat.add_comm,this];exact Nat.dvd_mul_right _ _);exact Nat.mod_eq_zero_of_dvd h3
  exact Nat.dvd_of_mod_eq_zero e3
 exact AJ k d (aa4 (Tq k _) h2)
theorem Ik {x a b:Nat}(hx:x<2 ^ k)(ha:a<2 ^ k)(hb:b<2 ^ k)(h:sv (2 ^ k) x a=sv (2 ^ k) x b):a=b:=by
 have key:∀a b,a<=b->b<2 ^ k->sv (2 ^ k) x a=sv (2 ^ k) x b->a=b:=λa b uu hb h=>by
  obtain⟨d,rfl⟩:∃d,b=a+d:=⟨b-a,by lia⟩;rw[uS] at h;have:=ED (EC hx a) h.symm;have:d=0:=Nat.eq_zero_of_dvd_of_lt this (by lia);lia
 rcases Nat.le_total a b with z|z
 ·exact key a b z hb h
 ·exact (key b a z ha h.symm).symm
theorem Il {x y:Nat}(hx:x<2 ^ k)(hy:y<2 ^ k):∃n,n<2 ^ k/\sv (2 ^ k) x n=y:=by
 refine Zz λhn=>?_;have nd:((Xo (2 ^ k)).map (sv (2 ^ k) x)).Nodup:=by
  unfold List.Nodup;rw[Zb];refine ZM (λ{a b} ha hb uu e=>?_) abB;exact uu (Ik hx (XF.mp ha) (XF.mp hb) e)
 have:=ZQ (l₁:=y::(Xo (2 ^ k)).map (sv (2 ^ k) x)) (l₂:=Xo (2 ^ k))
  (X3.mpr ⟨λh=>by
   obtain⟨n,h1,h2⟩:=WS.mp h;exact hn ⟨n,XF.mp h1,h2⟩,nd⟩)
  (λz hz=>by
   rcases WV.mp hz with e|hz
   ·rw[e];exact XF.mpr hy
   ·obtain⟨n,_,rfl⟩:=WS.mp hz;exact XF.mpr (EC hx n))
 rw[WT,WA,XJ] at this;lia
noncomputable def eO (mask:Nat):Nat->Nat×Nat->Nat×Nat
 |0,p=>p
 |n+1,p=>eO mask n (leap mask p.1 p.2)
theorem tF (mask m n:Nat)(p:Nat×Nat):eO mask (m+n) p=eO mask n (eO mask m p):=by
 induction m generalizing p with
 |zero=>rw[Zs];rfl
 |succ m ih=>rw[Nat.succ_add];exact ih _
theorem tG (mask:Nat):∀(n i q:Nat),(eO mask n (i,q)).2=q / 32 ^ n
 |0,i,q=>by simp[eO]
 |n+1,i,q=>by
  show (eO mask n (leap mask i q)).2=_;unfold leap;rw[tG,Nat.div_div_eq_div_mul,Zu,YT 32]
theorem wU (mask:Nat):∀(n i q:Nat),i<=mask->(eO mask n (i,q)).1<=mask
 |0,i,q,h=>h
 |n+1,i,q,h=>wU mask n _ _ (Zc (aal _ (aab _)))
theorem qA (mask:Nat):∀(n i:Nat),eO mask n (i,0)=(sv (mask+1) i n,0)
 |0,i=>rfl
 |n+1,i=>by
  rw[Nat.add_comm n 1,tF];show eO mask n (leap mask i 0)=_;rw[show leap mask i 0=(sv (mask+1) i 1,0) by unfold leap sv sv;simp,qA,uS]
theorem tH (hm:mask+1=2 ^ k){q y:Nat}(hi:i<=mask)(hq:q<2 ^ 64)(hy:y<=mask):∃n,n<mask+14/\(eO mask n (i,q)).1=y:=by
 have z:(eO mask 13 (i,q)).2=0:=by
  rw[tG];exact Nat.div_eq_of_lt (Nat.lt_trans hq (by decide))
 have e:eO mask 13 (i,q)=((eO mask 13 (i,q)).1,0):=by rw[←z]
 obtain⟨n,h1,h2⟩:=Il (k:=k) (x:=(eO mask 13 (i,q)).1) (y:=y) (by rw[←hm];exact Nat.lt_succ_of_le (wU mask 13 i q hi)) (by lia);refine⟨13+n,by lia,?_⟩;rw[tF,e,qA,hm];exact h2
end Hc.Sx
namespace Hc.Sx
open PySem.SetTable
def O3 (xs:Array Nat):Prop:=∀i j (hi:i<xs.size) (hj:j<xs.size),i<j->xs[i]<xs[j]
theorem qB {xs:Array Nat}{j:Nat}(hr:O3 xs):∀(fuel lo hi:Nat),lo<=hi->hi<=xs.size->hi-lo<=fuel->(∀i (h:i<xs.size),i<lo->xs[i]<j)->(∀i (h:i<xs.size),hi<=i->j<=xs[i])->
  (∀i (h:i<xs.size),i<below.go xs j fuel lo hi->xs[i]<j)/\(∀i (h:i<xs.size),below.go xs j fuel lo hi<=i->j<=xs[i])/\below.go xs j fuel lo hi<=xs.size
 |0,lo,hi,h1,h2,h3,a,b=>by
  have:lo=hi:=by lia
  subst this;exact⟨a,b,h2⟩
 |fuel+1,lo,hi,h1,h2,h3,a,b=>by
  unfold below.go;by_cases c:lo<hi
  ·rw[hZ c];dsimp only;have hm:(lo+hi) / 2<xs.size:=by lia
   have hd:xs.getD ((lo+hi) / 2) j=xs[(lo+hi) / 2]:=by simp[abh,hm]
   rw[hd];by_cases c2:xs[(lo+hi) / 2]<j
   ·rw[hZ c2];refine qB hr fuel _ hi (by lia) h2 (by lia) (λi h yx=>?_) b;rcases Zv i ((lo+hi) / 2) with z|z
    ·exact Nat.lt_trans (hr _ _ h hm z) c2
    ·have:i=(lo+hi) / 2:=by lia
     subst this;exact c2
   ·rw[hV c2];refine qB hr fuel lo _ (by lia) (by lia) (by lia) a (λi h yx=>?_);rcases Zv ((lo+hi) / 2) i with z|z
    ·have:=hr _ _ hm h z;lia
    ·have:i=(lo+hi) / 2:=by lia
     subst this;lia
  ·rw[hV c];have:lo=hi:=by lia
   subst this;exact⟨a,b,h2⟩
theorem mj {xs:Array Nat}(hr:O3 xs):(∀i (h:i<xs.size),i<below xs j->xs[i]<j)/\(∀i (h:i<xs.size),below xs j<=i->j<=xs[i])/\below xs j<=xs.size:=
 qB hr _ _ _ (X5 _) (WR _) (by lia) (λi _ h=>by lia) (λi h h'=>by lia)
theorem EE {xs:Array Nat}(hr:O3 xs)(h:xs[i]? = some j):below xs j=i:=by
 obtain⟨hi,e⟩:=XU.mp h;obtain⟨a,b,c⟩:=mj (j:=j) hr;rcases abi (below xs j) i with z|z|z
 ·have h1:=b (below xs j) (by lia) (WR _);have h2:=hr _ _ (by lia) hi z;lia
 ·exact z
 ·have:=a i hi z;lia
variable {V:Type}
structure AL (t:aaw)(es:Array (Int×V))(C:Nat->Option (Int×V)):Prop where
 ris:O3 t.place
 sz:t.place.size=es.size
 dum:t.dummies=#[]
 pow:∃k,t.mask+1=2 ^ k
 room:es.size<=t.mask
 top:∀(i j:Nat),t.place[i]? = some j->j<=t.mask
 con:∀(j:Nat) (e:Int×V),C j=some e↔∃i:Nat,t.place[i]? = some j/\es[i]? = some e
section
variable {es:Array (Int×V)}{C:Nat->Option (Int×V)}
theorem wV {xs:Array Nat}(h:xs=#[])(j:Nat):has xs j=false:=by subst h;rfl
theorem AL.live (T:AL t es C){e:Int×V}(h:C j=some e):∃i,t.slot j=.live i/\es[i]? = some e/\t.place[i]? = some j:=by
 obtain⟨i,h1,h2⟩:=(T.con j e).mp h;refine⟨i,?_,h2,h1⟩;unfold SetTable.slot;dsimp only;rw[EE T.ris h1,h1];simp
theorem AL.empty (T:AL t es C)(h:C j=none):t.slot j=.empty:=by
 unfold SetTable.slot;dsimp only;have n:(t.place[below t.place j]? == some j)=false:=by
  rw[abf];intro c;have c:t.place[below t.place j]? = some j:=by simpa using c
  have hi:=(XU.mp c).1;have Qv:below t.place j<es.size:=by rw[←T.sz];exact hi
  have:es[below t.place j]? = some es[below t.place j]:=Xf Qv;rw[(T.con j _).mpr ⟨_,c,this⟩] at h;cases h
 rw[n,wV T.dum];rfl
theorem AL.free (T:AL t es C):∃y,y<=t.mask/\C y=none:=by
 refine Zz λhn=>?_;have hs:=T.sz;have hr:=T.room;have:=ZQ (l₁:=Xo (t.mask+1)) (l₂:=t.place.toList) abB (λy hy=>by
  have hy:=XF.mp hy;cases e:C y with
  |none=>exact absurd ⟨y,by lia,e⟩ hn
  |some v=>
   obtain⟨i,h1,_⟩:=(T.con y v).mp e;have:=Array.mem_of_getElem? h1;simpa using this)
 rw[XJ,WO] at this;lia
end
noncomputable def adv (mask:Nat)(p:Probe):Probe:=
 if p.more>0 then {p with j:=p.j+1,more:=p.more-1} else
 {p with j:=(leap mask p.i p.perturb).1,more:=runEnd mask (leap mask p.i p.perturb).1-(leap mask p.i p.perturb).1,i:=(leap mask p.i p.perturb).1,perturb:=(leap mask p.i p.perturb).2}
theorem EF (t:aaw)(p:Probe):t.advance p=adv t.mask p:=by unfold SetTable.advance adv;rfl
noncomputable def advs (mask:Nat):Nat->Probe->Probe
 |0,p=>p
 |n+1,p=>advs mask n (adv mask p)
theorem gF (mask m n:Nat)(p:Probe):advs mask (m+n) p=advs mask n (advs mask m p):=by
 induction m generalizing p with
 |zero=>rw[Zs];rfl
 |succ m ih=>rw[Nat.succ_add];exact ih _
theorem tJ (mask n:Nat)(p:Probe):advs mask (n+1) p=adv mask (advs mask n p):=by rw[gF];rfl
structure jO (mask:Nat)(p:Probe):Prop where
 i:p.i<=mask
 q:p.perturb<2 ^ 64
 m:p.more<=9
 d:p.dummy=none
theorem nq (mask i:Nat):runEnd mask i-i<=9:=by unfold runEnd;split<;>lia
theorem jO.adv {p:Probe}(h:jO mask p):jO mask (adv mask p):=by
 unfold Hc.Sx.adv;split
 ·exact⟨h.i,h.q,by have:=h.m;dsimp only;lia,h.d⟩
 ·refine⟨Zc (aal _ (aab _)),?_,nq _ _,h.d⟩;exact Z6 (Nat.div_le_self _ _) h.q
theorem jO.advs {mask:Nat}:∀(n:Nat) {p:Probe},jO mask p->jO mask (advs mask n p)
 |0,_,h=>h
 |n+1,_,h=>jO.advs n h.adv
theorem AM (h:Int):bits h<2 ^ 64:=by
 unfold bits;have:h % (2 ^ 64:Int)<2 ^ 64:=YL _ (by decide);have h0:0<=h % (2 ^ 64:Int):=Zh _ (by decide);lia
theorem jO.start (t:aaw)(h:Int):jO t.mask (t.probeStart h):=
 ⟨Zc (aal _ (aab _)),AM h,nq _ _,rfl⟩
theorem qC {mask:Nat}:∀(n:Nat) {p:Probe},p.more=n->(advs mask (n+1) p).j=(leap mask p.i p.perturb).1/\(advs mask (n+1) p).i=(leap mask p.i p.perturb).1/\(advs mask (n+1) p).perturb=(leap mask p.i p.perturb).2/\(advs mask (n+1) p).more<=9
 |0,p,e=>by
  show (adv mask p).j=_/\(adv mask p).i=_/\(adv mask p).perturb=_/\(adv mask p).more<=9;unfold adv;rw[hV (by lia)];exact⟨rfl,rfl,rfl,nq _ _⟩
 |n+1,p,e=>by
  have:=qC (mask:=mask) n (p:=adv mask p) (by unfold adv;rw[hZ (by lia)];show p.more-1=n;lia);have e1:(adv mask p).i=p.i/\(adv mask p).perturb=p.perturb:=by unfold adv;rw[hZ (by lia)];exact⟨rfl,rfl⟩
  rw[e1.1,e1.2] at this;exact this
theorem nW {mask:Nat}:∀(n:Nat) {p:Probe},jO mask p->∃m,m<=10*(n+1)/\(advs mask m p).j=(eO mask (n+1) (p.i,p.perturb)).1
 |0,p,h=>by
  obtain⟨a,_⟩:=qC (mask:=mask) p.more (p:=p) rfl;exact⟨p.more+1,by have:=h.m;lia,a⟩
 |n+1,p,h=>by
  obtain⟨a,b,c,d⟩:=qC (mask:=mask) p.more (p:=p) rfl;obtain⟨m,h1,h2⟩:=nW n (jO.advs (p.more+1) h);refine⟨p.more+1+m,by have:=h.m;lia,?_⟩;rw[gF,h2,b,c];rfl
theorem tK (hm:mask+1=2 ^ k){p:Probe}(h:jO mask p){y:Nat}(hy:y<=mask):∃m,m<10*turns mask/\(advs mask m p).j=y:=by
 obtain⟨n,h1,h2⟩:=tH hm (i:=(leap mask p.i p.perturb).1) (q:=(leap mask p.i p.perturb).2) (y:=y) (Zc (aal _ (aab _))) (Z6 (Nat.div_le_self _ _) h.q) hy;obtain⟨m,h3,h4⟩:=nW n h;refine⟨m,by unfold turns;lia,?_⟩;rw[h4];exact h2
section
variable {es:Array (Int×V)}{C:Nat->Option (Int×V)}{hashAt:Nat->Int}
theorem AN (T:AL t es C)(hh:∀i e,es[i]? = some e->hashAt i=e.1)(h:Int):∀(m fuel:Nat) (p:Probe),jO t.mask p->m<fuel->C (advs t.mask m p).j=none->
    ∃m',m'<=m/\(∀a,a<m'->∃e,C (advs t.mask a p).j=some e/\e.1≠h)/\
      ((C (advs t.mask m' p).j=none/\probe.go t hashAt h fuel p=some (.empty (advs t.mask m' p).j none)) \/
       ∃e i,C (advs t.mask m' p).j=some e/\e.1=h/\es[i]? = some e/\t.place[i]? = some (advs t.mask m' p).j/\probe.go t hashAt h fuel p=some (.candidate (advs t.mask m' p).j i (advs t.mask (m'+1) p)))
  |m,0,p,_,hf,_=>by lia
  |m,fuel+1,p,hp,hf,he=>by
    unfold probe.go;cases c:C p.j with
    |none=>
      refine⟨0,X5 _,λa ha=>by lia,.inl ⟨c,?_⟩⟩;rw[T.empty c];dsimp only;rw[hp.d];rfl
    |some e=>
      obtain⟨i,h1,h2,h3⟩:=T.live c;rw[h1];dsimp only;rw[hh i e h2];by_cases q:e.1=h
      · refine⟨0,X5 _,λa ha=>by lia,.inr ⟨e,i,c,q,h2,h3,?_⟩⟩;rw[hZ (by rw[q];simp),EF];rfl
      · rw[hV (by simpa using q),EF];cases m with
        |zero=>rw[show advs t.mask 0 p=p from rfl,c] at he;cases he
        |succ m=>
          obtain⟨m',g1,g2,g3⟩:=AN T hh h m fuel (adv t.mask p) hp.adv (by lia) he;refine⟨m'+1,by lia,λa ha=>?_,g3⟩;cases a with
          |zero=>exact⟨e,c,q⟩
          |succ a=>exact g2 a (by lia)
theorem zf (T:AL t es C)(hh:∀i e,es[i]? = some e->hashAt i=e.1)(h:Int){p:Probe}(hp:jO t.mask p) :
    ∃m',(∀a,a<m'->∃e,C (advs t.mask a p).j=some e/\e.1≠h)/\
      ((C (advs t.mask m' p).j=none/\t.probe hashAt h p=some (.empty (advs t.mask m' p).j none)) \/
       ∃e i,C (advs t.mask m' p).j=some e/\e.1=h/\es[i]? = some e/\t.place[i]? = some (advs t.mask m' p).j/\t.probe hashAt h p=some (.candidate (advs t.mask m' p).j i (advs t.mask (m'+1) p))):=by
  obtain⟨y,hy,hc⟩:=T.free;obtain⟨k,hk⟩:=T.pow;obtain⟨m,h1,h2⟩:=tK hk hp hy;obtain⟨m',_,g2,g3⟩:=AN T hh h m _ p hp h1 (by rw[h2];exact hc);exact⟨m',g2,g3⟩
end
end Hc.Sx
namespace Hc.Sx
open PySem.SetTable
theorem iF {α:Type}(xs:Array α)(p:Nat)(x:α):(insertAt xs p x).toList=xs.toList.take p++x::xs.toList.drop p:=by
 unfold insertAt;simp[ZH,List.extract_eq_drop_take];exact Yt (by simp)
theorem bD {α:Type}{xs:Array α}{p:Nat}{x:α}(h:p<=xs.size)(i:Nat):(insertAt xs p x)[i]? = if i<p then xs[i]? else if i=p then some x else xs[i-1]? := by
 rw[←W9,iF];have lt:(xs.toList.take p).length=p:=by rw[Xc,WO];lia
 by_cases c:i<p
 ·rw[hZ c,Yd (by lia),acv c,W9]
 ·rw[hV c,XT (by lia),lt];by_cases c2:i=p
  ·rw[hZ c2,c2,acg];rfl
  ·rw[hV c2,show i-p=(i-p-1)+1 by lia,X_,aaW,W9];congr 1;lia
theorem fx {α:Type}{xs:Array α}{p:Nat}{x:α}(h:p<=xs.size):(insertAt xs p x).size=xs.size+1:=by
 rw[←WO,iF,WN,WT,Xc,XA,WO];lia
variable {V:Type}
noncomputable def Mj (C:Nat->Option (Int×V))(j:Nat)(e:Int×V):Nat->Option (Int×V):=λy=>if y=j then some e else C y
def JF (mask:Nat)(st:Int->Probe)(C:Nat->Option (Int×V)):Prop:=∀(j:Nat) (e:Int×V),C j=some e->∃n,(advs mask n (st e.1)).j=j/\∀m,m<n->∃e',C (advs mask m (st e.1)).j=some e'
section
variable {es:Array (Int×V)}{C:Nat->Option (Int×V)}
theorem AL.put (T:AL t es C){e:Int×V}(hj:j<=t.mask)(hc:C j=none)(hr:es.size+1<=t.mask) :
  AL (t.put j).1 (insertAt es (t.put j).2 e) (Mj C j e)/\(t.put j).1.mask=t.mask/\(t.put j).1.plain=t.plain/\(t.put j).1.led=t.led/\(t.put j).1.moves=t.moves/\(t.put j).1.finger=t.finger:=by
 obtain⟨a,b,c⟩:=mj (j:=j) T.ris;have nz:∀i,t.place[i]? ≠ some j:=λi h=>by
  have hi:=(XU.mp h).1;have Qv:i<es.size:=by rw[←T.sz];exact hi
  rw[(T.con j es[i]).mpr ⟨i,h,Xf Qv⟩] at hc;cases hc
 have ep:(t.put j).1={t with place:=insertAt t.place (below t.place j) j}:=by
  unfold SetTable.put;dsimp only;rw[wV T.dum];rfl
 have e2:(t.put j).2=below t.place j:=rfl;have c2:below t.place j<=es.size:=by rw[←T.sz];exact c
 rw[ep,e2];refine⟨⟨?_,?_,T.dum,T.pow,?_,?_,?_⟩,rfl,rfl,rfl,rfl,rfl⟩
 ·intro i i' hi yx lt;have g:=λx=>bD (x:=j) c x;dsimp only at hi yx ⊢;have e1:=g i;have yp:=g i';rw[Xf hi] at e1;rw[Xf yx] at yp;rw[fx c] at hi yx;have at_:∀x (hx:x<t.place.size),t.place[x]? = some t.place[x]:=λx hx=>Xf hx;have U_:∀x (hx:x<t.place.size),t.place[x]≠j:=λx hx z=>nz x (by rw[at_ x hx,z]);by_cases q:i<below t.place j
  ·rw[hZ q,at_ i (by lia)] at e1;have e1:=Xa e1;rw[e1];by_cases q':i'<below t.place j
   ·rw[hZ q',at_ i' (by lia)] at yp;rw[Xa yp];exact T.ris _ _ _ _ lt
   ·rw[hV q'] at yp;by_cases r':i'=below t.place j
    ·rw[hZ r'] at yp;rw[Xa yp];exact a i (by lia) q
    ·rw[hV r',at_ (i' - 1) (by lia)] at yp;rw[Xa yp];have h1:=a i (by lia) q;have h2:=b (i' - 1) (by lia) (by lia);lia
  ·rw[hV q] at e1;rw[hV (by lia),hV (by lia),at_ (i' - 1) (by lia)] at yp;rw[Xa yp];by_cases r:i=below t.place j
   ·rw[hZ r] at e1;rw[Xa e1];have h2:=b (i' - 1) (by lia) (by lia);have h3:=U_ (i' - 1) (by lia);lia
   ·rw[hV r,at_ (i-1) (by lia)] at e1;rw[Xa e1];exact T.ris _ _ _ _ (by lia)
 ·show (insertAt t.place _ j).size=_;rw[fx c,fx c2,T.sz]
 ·rw[fx c2];exact hr
 ·intro i y h;have h:(insertAt t.place (below t.place j) j)[i]? = some y:=h;rw[bD c] at h;split at h
  ·exact T.top i y h
  ·split at h
   ·cases h;exact hj
   ·exact T.top _ y h
 ·intro y v;show Mj C j e y=some v↔∃i,(insertAt t.place (below t.place j) j)[i]? = some y/\(insertAt es (below t.place j) e)[i]? = some v;unfold Mj;constructor
  ·intro h;split at h
   ·rename_i q;cases h;subst q;refine⟨below t.place y,?_,?_⟩
    ·rw[bD c,hV (YH _),hZ rfl]
    ·rw[bD c2,hV (YH _),hZ rfl]
   ·obtain⟨i,h1,h2⟩:=(T.con y v).mp h;by_cases q:i<below t.place j
    ·exact⟨i,by rw[bD c,hZ q];exact h1,by rw[bD c2,hZ q];exact h2⟩
    ·exact⟨i+1,by rw[bD c,hV (by lia),hV (by lia)];exact h1,by rw[bD c2,hV (by lia),hV (by lia)];exact h2⟩
  ·rintro⟨i,h1,h2⟩;rw[bD c] at h1;rw[bD c2] at h2;by_cases q:i<below t.place j
   ·rw[hZ q] at h1 h2;rw[hV (λz=>nz i (by rw[h1,z]))];exact (T.con y v).mpr ⟨i,h1,h2⟩
   ·rw[hV q] at h1 h2;by_cases r:i=below t.place j
    ·rw[hZ r] at h1 h2;rw[hZ (Xa h1).symm];exact h2
    ·rw[hV r] at h1 h2;rw[hV (λz=>nz (i-1) (by rw[h1,z]))];exact (T.con y v).mpr ⟨_,h1,h2⟩
theorem JF.up {st:Int->Probe}(P:JF mask st C){e:Int×V}(hb:∀m,m<n->∃e',C (advs mask m (st e.1)).j=some e')(hc:C (advs mask n (st e.1)).j=none):JF mask st (Mj C (advs mask n (st e.1)).j e):=by
 have GG:∀y,(∃e',C y=some e')->∃e',Mj C (advs mask n (st e.1)).j e y=some e':=λy h00=>by
  obtain⟨e',h⟩:=h00;unfold Mj;split
  ·exact⟨_,rfl⟩
  ·exact⟨e',h⟩
 intro j v h;unfold Mj at h;split at h
 ·rename_i q;cases h;exact⟨n,q.symm,λm hm=>GG _ (hb m hm)⟩
 ·obtain⟨n',h1,h2⟩:=P j v h;exact⟨n',h1,λm hm=>GG _ (h2 m hm)⟩
theorem JF.met {st:Int->Probe}(P:JF mask st C){h:Int}(hc:C (advs mask n (st h)).j=none){e:Int×V}(he:C j=some e)(hh:e.1=h):∃m,m<n/\(advs mask m (st h)).j=j:=by
 obtain⟨m,h1,h2⟩:=P j e he;rw[hh] at h1 h2;rcases abi m n with z|z|z
 ·exact⟨m,z,h1⟩
 ·subst z;rw[h1,he] at hc;cases hc
 ·obtain⟨e',q⟩:=h2 n z;rw[q] at hc;cases hc
end
noncomputable def aaN (mask:Nat)(h:Int):Probe:={j:=bits h % (mask+1),more:=runEnd mask (bits h % (mask+1))-bits h % (mask+1),i:=bits h % (mask+1),perturb:=bits h,dummy:=none}
theorem nu {mask:Nat}:∀(k:Nat) {p:Probe},k<=p.more->(advs mask k p).j=p.j+k/\(advs mask k p).more=p.more-k/\(advs mask k p).i=p.i/\(advs mask k p).perturb=p.perturb/\(advs mask k p).dummy=p.dummy
 |0,p,_=>⟨rfl,rfl,rfl,rfl,rfl⟩
 |k+1,p,h=>by
  obtain⟨a,b,c,d,e⟩:=nu (mask:=mask) k (p:=adv mask p) (by unfold adv;rw[hZ (by lia)];dsimp only;lia);have e1:(adv mask p).j=p.j+1/\(adv mask p).more=p.more-1/\(adv mask p).i=p.i/\(adv mask p).perturb=p.perturb/\(adv mask p).dummy=p.dummy:=by unfold adv;rw[hZ (by lia)];exact⟨rfl,rfl,rfl,rfl,rfl⟩
  refine⟨?_,?_,c.trans e1.2.2.1,d.trans e1.2.2.2.1,e.trans e1.2.2.2.2⟩
  ·show (advs mask k (adv mask p)).j=_;rw[a,e1.1];lia
  ·show (advs mask k (adv mask p)).more=_;rw[b,e1.2.1];lia
theorem tL {mask:Nat}{owner:Array (Option Nat)}(hs:owner.size=mask+1):∀(n fuel:Nat) (p:Probe),p.j=p.i->p.more=runEnd mask p.i-p.i->p.i<=mask->n<fuel->owner[(eO mask n (p.i,p.perturb)).1]? = some none->
  ∃m,layClean.free mask owner fuel p.i p.perturb=some (advs mask m p).j/\owner[(advs mask m p).j]? = some none/\∀a,a<m->∃i,owner[(advs mask a p).j]? = some (some i)
 |n,0,p,_,_,_,hf,_=>by lia
 |n,fuel+1,p,hj,hm,hi,hf,hn=>by
  have re:runEnd mask p.i<=mask/\p.i<=runEnd mask p.i:=by unfold runEnd;split<;>lia
  have at_:∀a,a<=p.more->∃o,owner[p.i+a]? = some o:=λa ha=>⟨owner[p.i+a]'(by lia),Xf (by lia)⟩;have gd:∀a o,owner[p.i+a]? = some o->owner.getD (p.i+a) (some 0)=o:=λa o h=>by
   obtain⟨h1,h2⟩:=XU.mp h;simp[abh,h1,h2]
  unfold layClean.free;cases hq:(Xo (runEnd mask p.i+1-p.i)).find? (λk=>(owner.getD (p.i+k) (some 0)).isNone) with
  |some k=>
   obtain⟨h1,as,bs,h2,h3⟩:=List.find?_eq_some_iff_append.mp hq;have hk:k<runEnd mask p.i+1-p.i:=XF.mp (by rw[h2];simp);have K0:k<=p.more:=by lia
   obtain⟨o,ho⟩:=at_ k K0;rw[gd k o ho] at h1;have on:o=none:=by cases o with
    |none=>rfl
    |some x=>cases h1
   subst on;refine⟨k,?_,?_,λa ha=>?_⟩
   ·dsimp only;rw[(nu k K0).1,hj]
   ·rw[(nu k K0).1,hj];exact ho
   ·rw[(nu a (by lia)).1,hj];obtain⟨o,ho⟩:=at_ a (by lia);have am:a∈as:=by
     have la:as.length=k:=by
      have e:(Xo (runEnd mask p.i+1-p.i))[as.length]? = some k:=by rw[h2,XT (WR _),acg];rfl
      have lt:as.length<runEnd mask p.i+1-p.i:=by
       have:=(WL.mp e).1;simpa using this
      rw[ZT lt] at e;exact Xa e
     have e:(Xo (runEnd mask p.i+1-p.i))[a]? = some a:=ZT (by lia);rw[h2,Yd (by lia)] at e;exact Yh e
    have:=h3 a am;rw[gd a o ho] at this;cases o with
    |none=>simp at this
    |some x=>exact⟨x,ho⟩
  |none=>
   have all:=aaX.mp hq;have Ug:∀a,a<=p.more->∃i,owner[p.i+a]? = some (some i):=λa ha=>by
    obtain⟨o,ho⟩:=at_ a ha;have:=all a (XF.mpr (by lia));rw[gd a o ho] at this;cases o with
    |none=>simp at this
    |some x=>exact⟨x,ho⟩
   cases n with
   |zero=>
    obtain⟨i,h⟩:=Ug 0 (X5 _);rw[show eO mask 0 (p.i,p.perturb)=(p.i,p.perturb) from rfl,←ach p.i,h] at hn;cases hn
   |succ n=>
    obtain⟨a1,a2,a3,a4,a5⟩:=nu (mask:=mask) p.more (p:=p) (WR _);have e1:advs mask (p.more+1) p={advs mask p.more p with j:=(leap mask p.i p.perturb).1,more:=runEnd mask (leap mask p.i p.perturb).1-(leap mask p.i p.perturb).1,i:=(leap mask p.i p.perturb).1,perturb:=(leap mask p.i p.perturb).2}:=by
     rw[tJ];unfold adv;rw[hV (by lia),a3,a4]
    obtain⟨m,g1,g2,g3⟩:=tL hs n fuel (advs mask (p.more+1) p) (by rw[e1]) (by rw[e1]) (by rw[e1];exact Zc (aal _ (aab _))) (by lia) (by rw[e1];exact hn);refine⟨p.more+1+m,?_,by rw[gF];exact g2,λa ha=>?_⟩
    ·rw[gF];rw[e1] at g1 ⊢;exact g1
    ·rcases Zv a (p.more+1) with z|z
     ·rw[(nu a (by lia)).1,hj];exact Ug a (by lia)
     ·have:=g3 (a-(p.more+1)) (by lia);rw[←gF,show p.more+1+(a-(p.more+1))=a by lia] at this;exact this
end Hc.Sx
namespace Hc.Sx
open PySem.SetTable
structure JG (mask:Nat)(owner:Array (Option Nat))(k:Nat)(Hf:Nat->Int):Prop where
 sz:owner.size=mask+1
 ix:∀(j i:Nat),owner[j]? = some (some i)->i<k
 ex:∀i:Nat,i<k->∃j:Nat,owner[j]? = some (some i)
 un:∀(j j' i:Nat),owner[j]? = some (some i)->owner[j']? = some (some i)->j=j'
 pt:∀(j i:Nat),owner[j]? = some (some i)->∃n,(advs mask n (aaN mask (Hf i))).j=j/\∀m,m<n->∃i':Nat,owner[(advs mask m (aaN mask (Hf i))).j]? = some (some i')
section
variable {owner:Array (Option Nat)}{Hf:Nat->Int}
theorem JG.free (O:JG mask owner k Hf)(hk:k<=mask):∃y,y<=mask/\owner[y]? = some none:=by
 refine Zz λhn=>?_;have SO:∀y,y<mask+1->∃i,owner[y]? = some (some i):=λy hy=>by
  have h1:y<owner.size:=by rw[O.sz];exact hy
  cases e:owner[y] with
  |none=>exact absurd ⟨y,by lia,by rw[Xf h1,e]⟩ hn
  |some i=>exact⟨i,by rw[Xf h1,e]⟩
 have g:∀y,∃i,y<mask+1->owner[y]? = some (some i):=λy=>by
  by_cases h:y<mask+1
  ·obtain⟨i,e⟩:=SO y h;exact⟨i,λ_=>e⟩
  ·exact⟨0,λz=>absurd z h⟩
 let f:=λy=>Classical.choose (g y)
 have hf:∀y,y<mask+1->owner[y]? = some (some (f y)):=λy=>Classical.choose_spec (g y);have:=ZQ (l₁:=(Xo (mask+1)).map f) (l₂:=Xo k) (by
  unfold List.Nodup;rw[Zb];refine ZM (λ{a b} ha hb uu e=>?_) abB;have h1:=hf a (XF.mp ha);have h2:=hf b (XF.mp hb);rw[e] at h1;exact uu (O.un _ _ _ h1 h2)) (λx hx=>by
  obtain⟨y,hy,rfl⟩:=WS.mp hx;exact XF.mpr (O.ix y _ (hf y (XF.mp hy))))
 rw[WA,XJ,XJ] at this;lia
theorem JG.step (O:JG mask owner k Hf)(hp:∃p,mask+1=2 ^ p)(hk:k<=mask):∃j,layClean.free mask owner (turns mask) (bits (Hf k) % (mask+1)) (bits (Hf k))=some j/\JG mask (owner.setIfInBounds j (some k)) (k+1) Hf:=by
 obtain⟨y,hy,ho⟩:=O.free hk;obtain⟨p,hp⟩:=hp;have hi:bits (Hf k) % (mask+1)<=mask:=Zc (aal _ (aab _));obtain⟨n,h1,h2⟩:=tH hp (i:=bits (Hf k) % (mask+1)) (q:=bits (Hf k)) hi (AM _) hy;obtain⟨m,g1,g2,g3⟩:=tL O.sz n (turns mask) (aaN mask (Hf k)) rfl rfl hi (by unfold turns;lia) (by
  show owner[(eO mask n (bits (Hf k) % (mask+1),bits (Hf k))).1]? = _;rw[h2];exact ho)
 refine⟨_,g1,?_⟩;have hj:(advs mask m (aaN mask (Hf k))).j<owner.size:=(XU.mp g2).1;generalize ej:(advs mask m (aaN mask (Hf k))).j=j at *;have gt:∀x,(owner.setIfInBounds j (some k))[x]? = if x=j then some (some k) else owner[x]? := λx=>by
  rw[Array.getElem?_setIfInBounds];by_cases c:j=x
  ·rw[hZ c,hZ c.symm,hZ hj]
  ·rw[hV c,hV (λz=>c z.symm)]
 have GG:∀x:Nat,(∃i':Nat,owner[x]? = some (some i'))->∃i':Nat,(owner.setIfInBounds j (some k))[x]? = some (some i'):=λx h00=>by
  obtain⟨i',h⟩:=h00;rw[gt];split
  ·exact⟨k,rfl⟩
  ·exact⟨i',h⟩
 refine⟨by rw[Array.size_setIfInBounds];exact O.sz,λx i h=>?_,λi hi=>?_,λx x' i h h'=>?_,λx i h=>?_⟩
 ·rw[gt] at h;split at h
  ·cases h;lia
  ·have:=O.ix x i h;lia
 ·by_cases c:i=k
  ·exact⟨j,by rw[gt,hZ rfl,c]⟩
  ·obtain⟨x,h⟩:=O.ex i (by lia);refine⟨x,?_⟩;rw[gt,hV (λz=>by rw[z,g2] at h;cases h)];exact h
 ·rw[gt] at h h';by_cases c:x=j
  ·by_cases c':x'=j
   ·rw[c,c']
   ·rw[hZ c] at h;rw[hV c'] at h';cases h;have:=O.ix _ _ h';lia
  ·by_cases c':x'=j
   ·rw[hV c] at h;rw[hZ c'] at h';cases h';have:=O.ix _ _ h;lia
   ·rw[hV c] at h;rw[hV c'] at h';exact O.un _ _ _ h h'
 ·rw[gt] at h;split at h
  ·rename_i c;cases h;exact⟨m,by rw[ej,c],λa ha=>GG _ (g3 a ha)⟩
  ·obtain⟨n,h1,h2⟩:=O.pt x i h;exact⟨n,h1,λa ha=>GG _ (h2 a ha)⟩
end
noncomputable def Im (mask:Nat)(bz:Option (Array (Option Nat)×Nat))(h:Int):Option (Array (Option Nat)×Nat):=do
  let (owner,k) ←bz
  let j ←layClean.free mask owner (turns mask) (bits h % (mask+1)) (bits h)
  pure (owner.setIfInBounds j (some k),k+1)
theorem AO {mask:Nat}{Hf:Nat->Int}(hp:∃p,mask+1=2 ^ p):∀(hs:List Int) (k:Nat) (owner:Array (Option Nat)),JG mask owner k Hf->(∀i,i<hs.length->hs[i]? = some (Hf (k+i)))->k+hs.length<=mask->
  ∃owner',hs.foldl (Im mask) (some (owner,k))=some (owner',k+hs.length)/\JG mask owner' (k+hs.length) Hf
 | [],k,owner,O,_,_=>⟨owner,rfl,O⟩
 |h::hs,k,owner,O,he,hl=>by
  have e0:h=Hf k:=by have:=he 0 (by simp);simpa using this
  rw[WT] at hl;obtain⟨j,g1,g2⟩:=O.step hp (by lia);obtain⟨owner',f1,f2⟩:=AO hp hs (k+1) _ g2 (λi hi=>by
   have:=he (i+1) (by rw[WT];lia);rw[X_] at this;rw[this];congr 2;lia) (by lia)
  refine⟨owner',?_,?_⟩
  ·rw[YX,show Im mask (some (owner,k)) h=some (owner.setIfInBounds j (some k),k+1) by unfold Im;rw[e0];simp[g1],f1,WT];congr 2;lia
  ·rw[WT,show k+(hs.length+1)=k+1+hs.length by lia];exact f2
theorem Io (mask:Nat)(Hf:Nat->Int):JG mask (Array.replicate (mask+1) none) 0 Hf:=by
 have no:∀(j i:Nat),(Array.replicate (mask+1) (none:Option Nat))[j]? ≠ some (some i):=λj i h=>by
  rw[Array.getElem?_replicate] at h;split at h<;>cases h
 exact⟨by simp,λj i h=>absurd h (no j i),λi h=>absurd h (Nat.not_lt_zero _),λj _ i h=>absurd h (no j i),λj i h=>absurd h (no j i)⟩
theorem iG {α β:Type}{f:α->Option β}:∀{l:List α},(∀x∈l,∃y,f x=some y)->∀n:Nat,(l.filterMap f)[n]? = (l[n]?).bind f
 | [],_,n=>by simp
 |x::l,h,n=>by
  obtain⟨y,hy⟩:=h x WG;rw[acD hy];cases n with
  |zero=>simp[hy]
  |succ n=>simpa using iG (λz hz=>h z (WI _ hz)) n
theorem kK {α β:Type}{f:α->Option β}:∀{l:List α},(∀x∈l,∃y,f x=some y)->(l.filterMap f).length=l.length
 | [],_=>rfl
 |x::l,h=>by
  obtain⟨y,hy⟩:=h x WG;rw[acD hy,WT,WT,kK λz hz=>h z (WI _ hz)]
variable {V:Type}
theorem uT {finger moves:Nat}{led plain:Bool}{es:Array (Int×V)}(hp:∃p,mask+1=2 ^ p)(hl:es.size<=mask):∃(t:aaw) (order:Array Nat) (C:Nat->Option (Int×V)),laid mask finger moves led plain (es.map (·.1))=some (t,order)/\
  AL t (order.filterMap (es[·]?)) C/\JF mask (aaN mask) C/\(order.filterMap (es[·]?)).size=es.size/\t.mask=mask/\t.finger=finger/\t.moves=moves/\t.led=led/\t.plain=plain/\
  (order.filterMap (es[·]?)).toList.Perm es.toList:=by
 obtain⟨owner,f1,O⟩:=AO (Hf:=λi=>(es[i]?.map (·.1)).getD 0) hp (es.map (·.1)).toList 0 _ (Io mask _) (λi hi=>by
  have Qv:i<es.size:=by simpa using hi
  simp[Qv]) (by simpa using hl)
 rw[Zs,WO,Array.size_map] at f1 O;have lc:layClean mask (es.map (·.1))=some owner:=by
  unfold layClean;rw[←Array.foldl_toList];show ((es.map (·.1)).toList.foldl (Im mask) (some (Array.replicate (mask+1) none,0))).map (·.1)=some owner;rw[f1];rfl
 let live:=(Xo (mask+1)).filterMap λj=>(owner.getD j none).map (j,·)
 have gd:∀j i,owner.getD j none=some i↔owner[j]? = some (some i):=λj i=>by
  by_cases h:j<owner.size
  ·simp[abh,h]
  ·simp[abh,h]
 have ml:∀j i,(j,i)∈live↔owner[j]? = some (some i):=λj i=>by
  show (j,i)∈List.filterMap _ _↔_;rw[ab8];constructor
  ·rintro⟨a,_,h⟩;cases e:owner.getD a none with
   |none=>rw[e] at h;cases h
   |some x=>rw[e] at h;cases h;exact (gd _ _).mp e
  ·intro h;refine⟨j,XF.mpr ?_,by rw[(gd j i).mpr h];rfl⟩;have:=(XU.mp h).1;rw[O.sz] at this;exact this
 have pw:live.Pairwise (λa b=>a.1<b.1/\a.2≠b.2):=by
  show List.Pairwise _ (List.filterMap _ _);rw[List.pairwise_filterMap];refine List.pairwise_lt_range.imp λ{a b} uu x hx y hy=>?_;cases e:owner.getD a none with
  |none=>rw[e] at hx;cases hx
  |some i=>cases e':owner.getD b none with
   |none=>rw[e'] at hy;cases hy
   |some i'=>
    rw[e] at hx;rw[e'] at hy;cases hx;cases hy;refine⟨uu,λz=>?_⟩;dsimp only at z;subst z;have:=O.un _ _ _ ((gd _ _).mp e) ((gd _ _).mp e');lia
 have Uh:(live.map (·.2)).Perm (Xo es.size):=by
  have nd:(live.map (·.2)).Nodup:=by
   unfold List.Nodup;rw[Zb];exact pw.imp λh=>h.2
  exact (ab3 nd abB).mpr λi=>by
   rw[WS,XF];constructor
   ·rintro⟨⟨j,i'⟩,h,rfl⟩;exact O.ix j i' ((ml j i').mp h)
   ·intro h;obtain⟨j,e⟩:=O.ex i h;exact⟨(j,i),(ml j i).mpr e,rfl⟩
 have len:live.length=es.size:=by
  have:=Uh.length_eq
  rwa [WA,XJ] at this
 have Va:∀x∈live,∃y,es[x.2]? = some y:=λx hx=>by
  have:=O.ix x.1 x.2 ((ml x.1 x.2).mp hx);exact⟨es[x.2],Xf this⟩
 have Qw:∀x∈live.map (·.2),∃y,es[x]? = some y:=λx hx=>by
  obtain⟨z,hz,rfl⟩:=WS.mp hx;exact Va z hz
 have SQ:((live.map (·.2)).toArray.filterMap (es[·]?)).toList=(live.map (·.2)).filterMap (es[·]?):=by simp
 have Ui:∀n:Nat,((live.map (·.2)).toArray.filterMap (es[·]?))[n]? = (live[n]?).bind λx=>es[x.2]? := λn=>by
  rw[←W9,SQ,iG Qw,W3];cases live[n]? <;> rfl
 have SS:∀n:Nat,(live.map (·.1)).toArray[n]? = (live[n]?).map (·.1):=λn=>by
  rw[←W9];simp
 let C:Nat->Option (Int×V):=λj=>(owner.getD j none).bind (es[·]?)
 have hC:∀j e,C j=some e↔∃i,owner[j]? = some (some i)/\es[i]? = some e:=λj e=>by
  show (owner.getD j none).bind _=some e↔_;cases q:owner.getD j none with
  |none=>
   refine⟨λh=>(by cases h),fun⟨i,h,_⟩=>?_⟩;rw[(gd j i).mpr h] at q;cases q
  |some i=>
   constructor
   ·intro h;exact⟨i,(gd j i).mp q,h⟩
   ·rintro⟨i',h,h2⟩;rw[(gd j i').mpr h] at q;cases q;exact h2
 have GV:((live.map (·.2)).toArray.filterMap (es[·]?)).size=es.size:=by
  rw[←WO,SQ,kK Qw,WA,len]
 refine⟨{mask,place:=(live.map (·.1)).toArray,dummies:=#[],finger,led,moves,plain},(live.map (·.2)).toArray,C,?_,⟨?_,?_,rfl,hp,?_,?_,?_⟩,?_,GV,rfl,rfl,rfl,rfl,rfl,?_⟩
 ·unfold laid;rw[lc];rfl
 ·intro i j hi hj lt;have g:=pw;rw[ZA] at g;have yx:i<live.length:=by simpa using hi
  have Vb:j<live.length:=by simpa using hj
  have:=(g i j yx Vb lt).1;simpa using this
 ·show ((live.map (·.1)).toArray).size=_;rw[GV];simp[len]
 ·rw[GV];exact hl
 ·intro i j h;have h:(live.map (·.1)).toArray[i]? = some j:=h;rw[SS] at h;cases e:live[i]? with
  |none=>rw[e] at h;cases h
  |some x=>
   rw[e] at h;cases h;have:=(XU.mp ((ml x.1 x.2).mp (Yh e))).1;rw[O.sz] at this;exact Zc this
 ·intro j e;show C j=some e↔∃i:Nat,(live.map (·.1)).toArray[i]? = some j/\_;rw[hC];constructor
  ·rintro⟨i,h1,h2⟩;obtain⟨n,hn⟩:=List.mem_iff_getElem?.mp ((ml j i).mpr h1);exact⟨n,by rw[SS,hn];rfl,by rw[Ui,hn];exact h2⟩
  ·rintro⟨n,h1,h2⟩;rw[SS] at h1;rw[Ui] at h2;cases q:live[n]? with
   |none=>rw[q] at h1;cases h1
   |some x=>
    rw[q] at h1 h2;cases h1;exact⟨x.2,(ml x.1 x.2).mp (Yh q),h2⟩
 ·intro j e h;obtain⟨i,h1,h2⟩:=(hC j e).mp h;obtain⟨n,g1,g2⟩:=O.pt j i h1;have hf:(es[i]?.map (·.1)).getD 0=e.1:=by rw[h2];rfl
  rw[hf] at g1 g2;refine⟨n,g1,λm hm=>?_⟩;obtain⟨i',h3⟩:=g2 m hm;have:=O.ix _ _ h3;exact⟨es[i'],(hC _ _).mpr ⟨i',h3,Xf this⟩⟩
 ·rw[SQ];refine (Uh.filterMap _).trans ?_;have e:(Xo es.size).filterMap (es[·]?)=es.toList:=by
   refine aak λn=>?_;rw[iG (λx hx=>⟨es[x]'(XF.mp hx),Xf (XF.mp hx)⟩)];by_cases h:n<es.size
   ·rw[ZT h];simp
   ·rw[XY.mpr (by simpa using h),XY.mpr (by simpa using h)];rfl
  rw[e]
end Hc.Sx
namespace Hc.Sx
open PySem.SetTable
theorem wW:∀(fuel size n:Nat),(∃p,size=2 ^ p)->8<=size->(size<=8\/size<=2*n)->n<size*2 ^ fuel->(∃p,sizeAbove.go n fuel size=2 ^ p)/\n<sizeAbove.go n fuel size/\8<=sizeAbove.go n fuel size/\(sizeAbove.go n fuel size<=8\/sizeAbove.go n fuel size<=2*n)
 |0,size,n,hp,h8,hb,hn=>by
  unfold sizeAbove.go;exact⟨hp,by simpa using hn,h8,hb⟩
 |fuel+1,size,n,⟨p,hp⟩,h8,hb,hn=>by
  unfold sizeAbove.go;by_cases c:size<=n
  ·rw[hZ c];exact wW fuel (size*2) n ⟨p+1,by rw[hp,Zu]⟩ (by lia) (.inr (by lia)) (by rw[Zu,YT (2 ^ fuel) 2,←Yp] at hn;exact hn)
  ·rw[hV c];exact⟨⟨p,hp⟩,by lia,h8,hb⟩
theorem EG (h:n<2 ^ 60):(∃p,sizeAbove n=2 ^ p)/\n<sizeAbove n/\8<=sizeAbove n/\(sizeAbove n<=8\/sizeAbove n<=2*n):=
 wW 64 8 n ⟨3,rfl⟩ (WR _) (.inl (WR _)) (Nat.lt_trans h (by decide))
structure nX {prog:ZI}{w:Z1}{K:Type}[DecidableEq K](knd:aaU prog w K):Prop where
 cls:∀{A:XD} {E:WM->WY->Prop} {s:WY} {k:K} {a:W7} {Q:Bool->WY->Prop},knd.is s.heap k a->Q false s->W4 (Xg prog w) A (ofAClassStatement 8 (.ref a)) Q E s
 byv:∀{A:XD} {E:WM->WY->Prop} {s:WY} {k:K} {a:W7} {Q:Bool->WY->Prop},knd.is s.heap k a->Q true s->W4 (Xg prog w) A (hashByValue 8 (.ref a)) Q E s
 kept:∀{h h':ZG} {k:K} {a d:W7} {o:Obj} {es:Array (Int×WM)} {ep:Nat} {t:aaw},knd.is h k a->h.get? d=some o->o.data=.set es ep t->Yg d h h'->knd.is h' k a
section
variable {K:Type}[DecidableEq K]{knd:aaU prog w K}
noncomputable def QR (knd:aaU prog w K)(x:K×W7):Int×WM:=(knd.hash x.1,.ref x.2)
structure HS (knd:aaU prog w K)(h:ZG)(xs:List (K×W7))(es:Array (Int×WM))(t:aaw)(C:Nat->Option (Int×WM)):Prop where
 tab:AL t es C
 pth:JF t.mask (aaN t.mask) C
 pl:t.plain=true
 lo:7<=t.mask
 hi:t.mask<=8191
 few:es.size*5<t.mask*3
 per:es.toList.Perm (xs.map (QR knd))
 keys:∀x∈xs,knd.is h x.1 x.2
 nd:(xs.map (·.1)).Nodup
def kZ (knd:aaU prog w K)(byText:Bool)(h:ZG)(a:W7)(xs:List (K×W7)):Prop:=
 ∃o es ep t C,h.get? a=some o/\o.ExactSet/\o.data=.set es ep t/\HS knd h xs es t C/\(byText=true\/t.led=true)
variable {A:XD}
theorem HS.fits {xs:List (K×W7)}{es:Array (Int×WM)}(S:HS knd h xs es t C):t.fits es.size=true:=by
 unfold SetTable.fits SetTable.fill;rw[S.tab.sz,S.tab.dum];simp;exact S.tab.room
theorem HS.stays {xs:List (K×W7)}{es:Array (Int×WM)}(S:HS knd h xs es t C):t.gaveWay=false:=by
 unfold SetTable.gaveWay;obtain⟨p,hp⟩:=S.tab.pow;have:=S.lo;cases p with
 |zero=>simp at hp;lia
 |succ p=>rw[Zu] at hp;simp;lia
theorem HS.entry {xs:List (K×W7)}{es:Array (Int×WM)}(S:HS knd h xs es t C){e:Int×WM}(he:e∈es.toList):∃k b,(k,b)∈xs/\e=(knd.hash k,.ref b)/\knd.is h k b:=by
 obtain⟨⟨k,b⟩,hx,rfl⟩:=WS.mp (S.per.mem_iff.mp he);exact⟨k,b,hx,rfl,S.keys _ hx⟩
theorem HS.at {xs:List (K×W7)}{es:Array (Int×WM)}(S:HS knd h xs es t C){e:Int×WM}(hc:C j=some e):∃k b,(k,b)∈xs/\e=(knd.hash k,.ref b)/\knd.is h k b:=by
 obtain⟨i,_,h2⟩:=(S.tab.con j e).mp hc;exact S.entry (by have:=Array.mem_of_getElem? h2;simpa using this)
theorem HS.has {xs:List (K×W7)}{es:Array (Int×WM)}(S:HS knd h xs es t C){k:K}(hx:(k,b)∈xs):∃j,C j=some (knd.hash k,.ref b):=by
 have:QR knd (k,b)∈es.toList:=S.per.mem_iff.mpr (WS.mpr ⟨_,hx,rfl⟩);obtain⟨i,hi⟩:=List.mem_iff_getElem?.mp this;rw[W9] at hi;have h2:i<t.place.size:=by rw[S.tab.sz];exact (XU.mp hi).1
 exact⟨t.place[i],(S.tab.con _ _).mpr ⟨i,Xf h2,hi⟩⟩
theorem CC (sk:nX knd){k:K}(hk:knd.is s.heap k b){Q:Bool->WY->Prop}(l:List WM)(hl:∀y∈l,∃k' b',y=.ref b'/\knd.is s.heap k' b')(h:Q false s):W4 (Xg prog w) A (searchCouldBeSeen (.ref b) l) Q E s:=by
 unfold searchCouldBeSeen;refine Wy ?_;refine wpAny_forIn_list _ (λrest r s'=>r.1=none/\s'=s/\∀y∈rest,∃k' b',y=.ref b'/\knd.is s.heap k' b') _ ?_ ?_ _ _ ⟨rfl,rfl,hl⟩
 ·rintro y rest r s' ⟨hr,rfl,hy⟩;obtain⟨k',b',rfl,K0⟩:=hy y WG;have next:∀z∈rest,∃k' b',z=Value.ref b'/\knd.is s'.heap k' b':=λz hz=>hy z (WI _ hz)
  dsimp only;split
  ·exact WB ⟨rfl,rfl,next⟩
  ·refine Wy (knd.quiet hk ?_);simp only[Zt,Xq,if_false];refine Wy (knd.quiet K0 ?_);simp only[Zt,Xq,if_false];refine Wy (sk.cls hk ?_);simp only[Xq,if_false];refine Wy (sk.cls K0 ?_);simp only[Xq,if_false];exact WB ⟨rfl,rfl,next⟩
 ·rintro⟨r1,r2⟩ s' ⟨hr,rfl,_⟩;simp only at hr;subst hr;exact WB h
end
end Hc.Sx
namespace Hc.Sx
open PySem.SetTable
section
variable {K:Type}[DecidableEq K]{knd:aaU prog w K}{A:XD}
variable {o:Obj}{es:Array (Int×WM)}{xs:List (K×W7)}{k:K}
noncomputable abbrev AQ (t:aaw)(h:Int)(n:Nat):Nat:=(advs t.mask n (aaN t.mask h)).j
theorem nY (sk:nX knd)(hr:knd.room A)(hk:knd.is s.heap k b)(ho:s.heap.get? a=some o)(hd:o.data=.set es ep t)(S:HS knd s.heap xs es t C){Q:SetFound->WY->Prop}{N:Nat}(hN:C (AQ t (knd.hash k) N)=none)
  (vQ:k∈xs.map (·.1)->Q (.there none) s)
  (rX:k∉xs.map (·.1)->∀n,(∀m,m<n->∃e,C (AQ t (knd.hash k) m)=some e)->C (AQ t (knd.hash k) n)=none->Q (.free (AQ t (knd.hash k) n) false) s) :
  ∀(fuel n:Nat) (stand:Option Probe),stand.getD (t.probeStart (knd.hash k))=advs t.mask n (aaN t.mask (knd.hash k))->N<n+fuel->(∀m,m<n->∃k' b',C (AQ t (knd.hash k) m)=some (knd.hash k',.ref b')/\(k',b')∈xs/\k'≠k)->
   W4 (Xg prog w) A (setSearchFrom a (.ref b) (knd.hash k) true fuel stand) Q E s
 |0,n,stand,hs,hf,hb=>by
  obtain⟨k',b',e,_⟩:=hb N (by lia);rw[e] at hN;cases hN
 |fuel+1,n,stand,hs,hf,hb=>by
  unfold setSearchFrom;refine Wy (Yf ho hd S.fits ?_);dsimp only;rw[S.stays];simp only[Xq,if_false];obtain⟨m',g1,g2⟩:=zf S.tab (hashAt:=λi=>(es[i]?.map (·.1)).getD 0) (λi e h=>by show (es[i]?.map (·.1)).getD 0=e.1;rw[h];rfl) (knd.hash k) (jO.advs n (jO.start t (knd.hash k)));have pa:∀x,(advs t.mask x (advs t.mask n (t.probeStart (knd.hash k)))).j=AQ t (knd.hash k) (n+x):=λx=>by rw[←gF];rfl
  have Ra:∀m,m<n+m'->∃k' b',C (AQ t (knd.hash k) m)=some (knd.hash k',.ref b')/\(k',b')∈xs/\k'≠k:=λm hm=>by
   rcases Zv m n with z|z
   ·exact hb m z
   ·obtain⟨e,h1,h2⟩:=g1 (m-n) (by lia);rw[pa,show n+(m-n)=m by lia] at h1;obtain⟨k',b',hx,rfl,_⟩:=S.at h1;exact⟨k',b',h1,hx,λz=>h2 (by rw[z])⟩
  have pe:t.probe (λi=>(es[i]?.map (·.1)).getD 0) (knd.hash k) (stand.getD (t.probeStart (knd.hash k)))=t.probe (λi=>(es[i]?.map (·.1)).getD 0) (knd.hash k) (advs t.mask n (t.probeStart (knd.hash k))):=by rw[hs];rfl
  rcases g2 with⟨c1,c2⟩|⟨e,i,c1,c2,c3,c4,c5⟩
  ·
   have SV:=pe.trans c2;rw[pa] at c1 SV;have nx:k∉xs.map (·.1):=λhm=>by
    obtain⟨⟨k0,b0⟩,hx,rfl⟩:=WS.mp hm;obtain⟨j,hj⟩:=S.has hx;obtain⟨m,hm,hmj⟩:=S.pth.met c1 hj rfl;obtain⟨k',b',h1,h2,h3⟩:=Ra m hm;have h1:C j=some (knd.hash k',.ref b'):=by rw[←hmj];exact h1
    rw[hj] at h1;have eb:b0=b':=by
     have:=(Prod.mk.inj (Xa h1)).2;injection this
    subst eb;exact h3 (knd.inj (S.keys _ h2) (S.keys _ hx))
   have fin:=rX nx (n+m') (λm hm=>let ⟨k',b',h1,_⟩:=Ra m hm;⟨_,h1⟩) c1;split
   ·rename_i met hq;have e:=(hq.symm.trans SV);cases e;exact WB fin
   ·rename_i hq;exact absurd SV (by intro z;exact hq _ z)
  ·
   have NA:=pe.trans c5;rw[pa] at c1 c4 NA;rw[←gF] at NA;obtain⟨k',b',hx,rfl,K0⟩:=S.at c1;have lN:n+m'<N:=by
    rcases abi N (n+m') with z|z|z
    ·obtain⟨_,_,e,_⟩:=Ra N z;rw[e] at hN;cases hN
    ·rw[z,c1] at hN;cases hN
    ·exact z
   have body:∀R:Sem SetFound,R=(do
     let some (_,y):=es[i]? | aaC "internal:set-entry"
     let equal ←holding [y] (eqBool y (.ref b))
     let (GH,_,t') ←setState a
     if true&&equal then return .there none
     let some same:=t'.sameMemory t.moves t.mask|aaC "set.changed-during-lookup:is-the-new-block-at-the-old-address"
     let BS ←match (if same then t'.slot (AQ t (knd.hash k) (n+m')) else .empty) with
      | .live i'=>match GH[i']? with
       |some (_,y')=>do pure (if ←isSame y' y then some i' else none)
       |none=>pure none
      |_=>pure none
     match BS with
     |none=>rule "set.search.anew";setSearchFrom a (.ref b) (knd.hash k) true fuel none
     |some i'=>if equal then return .there (some i') else setSearchFrom a (.ref b) (knd.hash k) true fuel (some (advs t.mask (n+(m'+1)) (t.probeStart (knd.hash k)))))->W4 (Xg prog w) A R Q E s:=λR hR=>by
    subst hR;rw[c3];dsimp only;refine Wy (Yl (knd.eqBool hr K0 hk ?_));refine Wy (Yf ho hd S.fits ?_);dsimp only;by_cases q:k'=k
    ·rw[hG q];simp only[Bool.and_self,if_true];subst q;exact WB (vQ (WS.mpr ⟨_,hx,rfl⟩))
    ·rw[hJ q];simp only[abo,Xq,if_false];have sm:t.sameMemory t.moves t.mask=some true:=by unfold SetTable.sameMemory;simp
     rw[sm];dsimp only;obtain⟨i2,l1,l2,l3⟩:=S.tab.live c1;rw[l1];simp only[if_true];rw[l2];dsimp only;refine Wy (wpAny_isSame_ref_self ?_);simp only[if_true];refine Wy (WB ?_);dsimp only;refine nY sk hr hk ho hd S hN vQ rX fuel (n+(m'+1)) _ rfl (by lia) λm hm=>?_;rcases Zv m (n+m') with z|z
     ·exact Ra m z
     ·have:m=n+m':=by lia
      subst this;exact⟨k',b',c1,hx,q⟩
   split
   ·rename_i met hq;have e:=(hq.symm.trans NA);cases e;dsimp only;split
    ·refine Wy (CC sk hk _ (λy hy=>?_) ?_)
     ·obtain⟨e,he,rfl⟩:=WS.mp hy;have he:e∈es.toList:=by
       have:e∈(es.filter λx=>x.1==knd.hash k):=by simpa using he
       have:=(Array.mem_filter.mp this).1;simpa using this
      obtain⟨k2,b2,_,rfl,h2⟩:=S.entry he;exact⟨k2,b2,rfl,h2⟩
     ·simp only[Xq,if_false];exact body _ rfl
    ·exact body _ rfl
   ·rename_i hq;exact absurd NA (by intro z;exact hq _ z)
theorem CD (sk:nX knd)(hr:knd.room A)(hk:knd.is s.heap k b)(ho:s.heap.get? a=some o)(hd:o.data=.set es ep t)(S:HS knd s.heap xs es t C){Q:SetFound->WY->Prop}
  (vQ:k∈xs.map (·.1)->Q (.there none) s)
  (rX:k∉xs.map (·.1)->∀n,(∀m,m<n->∃e,C (AQ t (knd.hash k) m)=some e)->C (AQ t (knd.hash k) n)=none->Q (.free (AQ t (knd.hash k) n) false) s) :
  W4 (Xg prog w) A (setSearch a (.ref b) (knd.hash k) true) Q E s:=by
 obtain⟨y,hy,hc⟩:=S.tab.free;obtain⟨p,hp⟩:=S.tab.pow;obtain⟨N,h1,h2⟩:=tK hp (jO.start t (knd.hash k)) hy;unfold setSearch;refine nY sk hr hk ho hd S (N:=N) (by show C (advs t.mask N (t.probeStart (knd.hash k))).j=none;rw[h2];exact hc) vQ rX 100000 0 none rfl ?_ λm hm=>by lia
 have:=S.hi;unfold turns at h1;lia
end
end Hc.Sx
namespace Hc.Sx
open PySem.SetTable
theorem kM {α:Type}(xs:Array α)(p:Nat)(x:α):(insertAt xs p x).toList.Perm (xs.toList++[x]):=by
 rw[iF];have h:(x::xs.toList.drop p).Perm (xs.toList.drop p++[x]):=(List.perm_append_singleton x _).symm;refine (X7 _ h).trans ?_;rw[←W8,Xu]
section
variable {K:Type}[DecidableEq K]{knd:aaU prog w K}{A:XD}
variable {o:Obj}{es:Array (Int×WM)}{xs:List (K×W7)}{k:K}{byText:Bool}
noncomputable def kN (xs:List (K×W7))(k:K)(b:W7):List (K×W7):=if k∈xs.map (·.1) then xs else xs++[(k,b)]
theorem stored (ho:h.get? a=some o)(hd:o.data=.set es ep t)(GH:Array (Int×WM))(t':aaw) :
  (h.update a (acE GH t')).get? a=some {o with data:=.set GH (ep+1) t'}:=by
 have:=YE (acE GH t') ho (by rw[putSet_of GH t' hd];rfl);rw[putSet_of GH t' hd] at this;exact this
theorem EH {h:ZG}(sk:nX knd)(ho:s.heap.get? a=some o)(GR:o.ExactSet)(hd:o.data=.set es ep t)(tab:AL t es C)(pl:t.plain=true)(per:es.toList.Perm (xs.map (QR knd)))(keys:∀x∈xs,knd.is s.heap x.1 x.2)(nd:(xs.map (·.1)).Nodup)(led:byText=true\/t.led=true)(hn:es.size=n)(Wi:1<=n)(Uj:n<=2047){Q:Unit->WY->Prop}(q:∀h',Yg a s.heap h'->kZ knd byText h' a xs->Q () {s with heap:=h'}) :
  W4 (Xg prog w) A (setRelay a (grown n)) Q E s:=by
 have hw:grown n=n*4:=by unfold grown;rw[hV (by lia)]
 have ab:=EG (n:=grown n) (by rw[hw];exact Z6 (show n*4<=8192 by lia) (by decide));have sz:WJ=16777216:=rfl;generalize eS:sizeAbove (grown n)=sA at ab;obtain⟨⟨p,hp⟩,a1,a2,a3⟩:=ab;have m1:sA-1+1=2 ^ p:=by lia
 have m8:sA<=8192:=by
  have Wj:p<14:=by
   refine Zz λz=>?_;have Wl:(2:Nat) ^ 14<=2 ^ p:=Nat.pow_le_pow_right (by decide) (by lia);rw[hw] at a3;lia
  have Wm:(2:Nat) ^ p<=2 ^ 13:=Nat.pow_le_pow_right (by decide) (by lia);lia
 have Vc:t.fits es.size=true:=by
  unfold SetTable.fits SetTable.fill;rw[tab.sz,tab.dum];simp;exact tab.room
 obtain⟨t',order,C',h1,T',P',hsz,e1,e2,e3,e4,e5,hall⟩:=uT (mask:=sA-1) (finger:=t.finger) (moves:=t.movedTo (sA-1)) (led:=t.led) (plain:=t.plain) (es:=es) ⟨p,m1⟩ (by rw[hw] at a1;lia);unfold setRelay;refine Wy (Yf ho hd Vc ?_);dsimp only;rw[eS,hV (by rw[hw] at a3;lia)];have hr:t.relaid (es.map (·.1)) (grown n)=some (t',order):=by unfold SetTable.relaid;rw[eS];exact h1
 have GV:(order.filterMap (es[·]?)).size<=WJ:=by rw[hsz,hn];lia
 have KY:¬(((order.filterMap (es[·]?)).size != es.size)=true):=by rw[hsz];simp
 refine Wy (aaD (a:=(order.filterMap (es[·]?),t')) (by rw[hr];exact hV KY) ?_);refine wpAny_storeSet_of ho hd ?_ GV;have NB:=XZ s.heap a (acE (order.filterMap (es[·]?)) t');refine q _ NB ⟨_,_,_,t',C',stored ho hd _ _,GR,rfl,⟨T',by rw[e1];exact P',by rw[e5];exact pl,by rw[e1];lia,by rw[e1];rw[hw] at a3;lia,by rw[hsz,e1,hn];rw[hw] at a1;lia,?_,λx hx=>sk.kept (keys x hx) ho hd NB,nd⟩,led.imp id λz=>by rw[e4];exact z⟩;exact hall.trans per
end
end Hc.Sx
namespace Hc.Sx
open PySem.SetTable
section
variable {K:Type}[DecidableEq K]{knd:aaU prog w K}{A:XD}
variable {xs:List (K×W7)}{k:K}{byText:Bool}
theorem zg (b:W7)(es:Array (Int×WM)):byScan (.ref b) es=false:=by unfold byScan Value.scannable;simp
theorem Ml (sk:nX knd)(hr:knd.room A)(hk:knd.is s.heap k b)(hS:kZ knd byText s.heap a xs)(hl:xs.length+1<=2047){Q:Bool->WY->Prop}
  (q:∀h' r,Yg a s.heap h'->kZ knd byText h' a (kN xs k b)->Q r {s with heap:=h'}):W4 (Xg prog w) A (setAddHashed a (.ref b) (knd.hash k)) Q E s:=by
 obtain⟨o,es,ep,t,C,ho,GR,hd,S,led⟩:=hS;have Wn:es.size=xs.length:=by have:=S.per.length_eq;simpa using this
 unfold setAddHashed setAddHashedIn;refine Yl (Wy (Yf ho hd S.fits ?_));dsimp only;rw[zg];simp only[Xq,if_false];refine Wy (CD sk hr hk ho hd S (λC_=>?_) λQx n hb hc=>?_)
 ·dsimp only;refine WB ?_;have e:s={s with heap:=s.heap}:=by cases s;rfl
  rw[e];exact q s.heap false (Heap.SameBut.refl a s.heap) (by unfold kN;rw[hZ C_];exact⟨o,es,ep,t,C,ho,GR,hd,S,led⟩)
 ·dsimp only;refine Wy (Yf ho hd S.fits ?_);dsimp only;have few:=S.few;have lo:=S.lo;have jm:AQ t (knd.hash k) n<=t.mask:=by
   obtain⟨p,hp⟩:=S.tab.pow;have:∀n,(advs t.mask n (aaN t.mask (knd.hash k))).j+(advs t.mask n (aaN t.mask (knd.hash k))).more<=t.mask:=by
    intro n
    induction n with
    |zero=>
     show bits (knd.hash k) % (t.mask+1)+(runEnd t.mask (bits (knd.hash k) % (t.mask+1))-bits (knd.hash k) % (t.mask+1))<=t.mask;have:bits (knd.hash k) % (t.mask+1)<t.mask+1:=aal _ (aab _);unfold runEnd;split<;>lia
    |succ n ih=>
     rw[tJ];unfold adv;split
     ·dsimp only;lia
     ·dsimp only;have:(leap t.mask (advs t.mask n (aaN t.mask (knd.hash k))).i (advs t.mask n (aaN t.mask (knd.hash k))).perturb).1<t.mask+1:=aal _ (aab _);unfold runEnd;split<;>lia
   have:=this n;show (advs t.mask n (aaN t.mask (knd.hash k))).j<=t.mask;lia
  obtain⟨T1,p1,p2,p3,p4,p5⟩:=S.tab.put (e:=(knd.hash k,Value.ref b)) jm hc (by lia);have P1:=JF.up S.pth (e:=(knd.hash k,Value.ref b)) hb hc;generalize et:(t.put (AQ t (knd.hash k) n)).1=t1 at *;generalize ei:(t.put (AQ t (knd.hash k) n)).2=ip at *;have GV:(insertAt es ip (knd.hash k,Value.ref b)).size=es.size+1:=by
   have:=(kM es ip (knd.hash k,Value.ref b)).length_eq;simpa using this
  rw[hZ (by rw[p2];exact S.pl)];refine Wy (sk.byv hk ?_);simp only[if_true];have sl:WJ=16777216:=rfl;refine Wy (wpAny_storeSet_of ho hd ?_ (by rw[GV];lia));have NB:=XZ s.heap a (acE (insertAt es ip (knd.hash k,Value.ref b)) t1);have Uk:=stored ho hd (insertAt es ip (knd.hash k,Value.ref b)) t1;have Ul:kN xs k b=xs++[(k,b)]:=by unfold kN;rw[hV Qx]
  have Qy:(insertAt es ip (knd.hash k,Value.ref b)).toList.Perm ((xs++[(k,b)]).map (QR knd)):=by
   rw[WW];exact (kM _ _ _).trans (Yk _ S.per)
  have K1:∀x∈xs++[(k,b)],knd.is (s.heap.update a (acE (insertAt es ip (knd.hash k,Value.ref b)) t1)) x.1 x.2:=λx hx=>by
   rcases W0.mp hx with z|z
   ·exact sk.kept (S.keys x z) ho hd NB
   ·rw[WU.mp z];exact sk.kept hk ho hd NB
  have Rb:((xs++[(k,b)]).map (·.1)).Nodup:=by
   rw[WW,Ye];exact⟨S.nd,by simp,λx hx y hy e=>by
    simp at hy;subst e hy;exact Qx hx⟩
  have Qz:byText=true\/t1.led=true:=led.imp id λz=>by rw[p3];exact z
  have QA:t1.fill=es.size+1:=by
   unfold SetTable.fill;rw[T1.sz,T1.dum,GV];rfl
  cases tf:t1.tooFull with
  |false=>
   simp only[acm,abo,Xq,if_false];refine WB (q _ true NB ?_);rw[Ul];refine⟨_,_,_,t1,_,Uk,GR,rfl,⟨T1,by rw[p1];exact P1,by rw[p2];exact S.pl,by rw[p1];exact lo,by rw[p1];exact S.hi,?_,Qy,K1,Rb⟩,Qz⟩;unfold SetTable.tooFull at tf;rw[QA] at tf;rw[GV];simpa using tf
  |true=>
   simp only[acm,Bool.and_self,if_true];refine Wy (EH (h:=s.heap) (s:={s with heap:=s.heap.update a (acE (insertAt es ip (knd.hash k,Value.ref b)) t1)}) sk Uk GR rfl T1 (by rw[p2];exact S.pl) Qy K1 Rb Qz GV (by lia) (by lia) λh' SW H'=>?_);refine WB (q h' true (NB.trans SW) ?_);rw[Ul];exact H'
theorem EI {led:Bool}(hl:byText=true\/led=true)(hg:h.get? a=some {cls:=.type "set",dict:=none,data:=.set #[] 0 (.fresh 0 0 led)}):kZ knd byText h a []:=by
 refine⟨_,#[],0,.fresh 0 0 led,λ_=>none,hg,⟨rfl,rfl,rfl⟩,rfl,⟨⟨λi j hi=>absurd hi (Nat.not_lt_zero _),rfl,rfl,⟨3,rfl⟩,X5 _,λi j h=>?_,λj e=>⟨λh=>(by cases h),fun⟨i,h,_⟩=>?_⟩⟩,λj e h=>(by cases h),rfl,WR _,(show (7:Nat)<=8191 by decide),(show 0*5<7*3 by decide),Yo _,λx hx=>(by cases hx),Y9⟩,hl⟩
 ·have h:(#[]:Array Nat)[i]? = some j:=h;simp at h
 ·have h:(#[]:Array Nat)[i]? = some j:=h;simp at h
end
end Hc.Sx
namespace Hc.Sx
open PySem.SetTable
section
variable {K:Type}[DecidableEq K]{knd:aaU prog w K}{A:XD}
variable {xs:List (K×W7)}{k:K}{byText:Bool}
theorem kZ.keep (H:kZ knd byText h a xs)(e:∀o,h.get? a=some o->h'.get? a=some o)(hk:∀x∈xs,knd.is h' x.1 x.2):kZ knd byText h' a xs:=by
 obtain⟨o,es,ep,t,C,ho,GR,hd,S,led⟩:=H;exact⟨o,es,ep,t,C,e o ho,GR,hd,⟨S.tab,S.pth,S.pl,S.lo,S.hi,S.few,S.per,hk,S.nd⟩,led⟩
theorem kZ.setAt (H:kZ knd byText h a xs):∃o es ep t,h.get? a=some o/\o.data=.set es ep t:=by
 obtain⟨o,es,ep,t,C,ho,GR,hd,S,led⟩:=H;exact⟨o,es,ep,t,ho,hd⟩
noncomputable def dH (val:Nat->K×W7):Nat->List (K×W7)
 |0=>[]
 |i+1=>kN (dH val i) (val i).1 (val i).2
theorem wX (val:Nat->K×W7){i:Nat}:∀{n:Nat},i<=n->(dH val i).length<=(dH val n).length
 |0,h=>by rw[Nat.le_zero.mp h];exact WR _
 |n+1,h=>by
  by_cases e:i=n+1
  ·rw[e];exact WR _
  ·refine XC (wX val (n:=n) (by lia)) ?_;show (dH val n).length<=(kN _ _ _).length;unfold kN;split
   ·exact WR _
   ·rw[WN];lia
theorem j9 (val:Nat->K×W7):∀(i:Nat) (x:K×W7),x∈dH val i->∃j,j<i/\x=val j
 |0,x,h=>by cases h
 |i+1,x,h=>by
  unfold dH kN at h;split at h
  ·obtain⟨j,h1,h2⟩:=j9 val i x h;exact⟨j,by lia,h2⟩
  ·rcases W0.mp h with z|z
   ·obtain⟨j,h1,h2⟩:=j9 val i x z;exact⟨j,by lia,h2⟩
   ·exact⟨i,by lia,WU.mp z⟩
variable {R:Result->WY->Prop}{I:W7}{wr:List W7}{G:Array GenState->Array GenState->Prop}{P:Nat->WM->Prop}{St:Nat->WY->Prop}
theorem CF (sk:nX knd)(hr:knd.room A.in1)(W:WalksS prog w A.in1 I fp wr G n P St)(S:W7)(Um:S∉fp)(val:Nat->K×W7)(SX:∀i v,P i v->v=.ref (val i).2)(hn:(dH val n).length+1<=2047)
  (mv:∀i (s s':WY),i<=n->St i s->Moved wr G s s'->(∀j,j<n->knd.is s.heap (val j).1 (val j).2)->∀j,j<n->knd.is s'.heap (val j).1 (val j).2) :
  ∀(d i:Nat) (s:WY),n-i=d->i<=n->St i s->(∀j,j<n->knd.is s.heap (val j).1 (val j).2)->kZ knd byText s.heap S (dH val i)->
   (∀s',Moved (S::wr) G s s'->(∀j,j<n->knd.is s'.heap (val j).1 (val j).2)->kZ knd byText s'.heap S (dH val n)->R (.ok (.ret .none)) s')->
   codeAny (Xg prog w) A (.builtin "set.update.loop" ⟨[.ref S,.ref I],[]⟩) R s:=by
 have nS:S∉wr:=λh=>Um (W.sub _ h);have up:∀b∈wr,b∈S::wr:=λb hb=>WI _ hb;have BS:∀i (s s':WY),i<=n->St i s->Moved wr G s s'->(∀j,j<n->knd.is s.heap (val j).1 (val j).2)->kZ knd byText s.heap S (dH val i)->kZ knd byText s'.heap S (dH val i):=λi s s' hi st m hk H=>
  H.keep (λo e=>m.heap S o nS e) λx hx=>by
   obtain⟨j,h1,rfl⟩:=j9 val i x hx;exact mv i s s' hi st m hk j (by lia)
 intro d
 induction d with
 |zero=>
  intro i s hd hi st hk H q;obtain rfl:i=n:=by lia
  refine Zf F.entry_set_update_loop ?_;rw[YQ aaY _];show W4 _ A.in1 (aaI (Value.ref I) >>= _) _ _ s;refine Wy (W.done s _ _ st λs' m=>?_);exact WB (q s' (m.mono up) (mv i s s' hi st m hk) (BS i s s' hi st m hk H))
 |succ d ih=>
  intro i s hd hi st hk H q;have lt:i<n:=by lia
  refine Zf F.entry_set_update_loop ?_;rw[YQ aaY _];show W4 _ A.in1 (aaI (Value.ref I) >>= _) _ _ s;refine Wy (W.item i s _ _ lt st λv s1 hP yn m=>?_);obtain rfl:=SX i v hP;have H1:=BS i s s1 hi st m hk H;have Ab:=mv i s s1 hi st m hk;show W4 _ A.in1 (holding [Value.ref (val i).2] (setAdd S (Value.ref (val i).2)) >>= _) _ _ s1;refine Wy (Yl ?_);unfold setAdd;refine Yl (Wy (knd.pyHash hr (Ab i lt) ?_));refine Ml (s:={s1 with toks:=s1.toks+knd.draws (val i).1}) sk hr (Ab i lt) H1 (by have:=wX val hi;lia) λh' r sb H2=>?_;obtain⟨oS,eS,epS,tS,gS,dS⟩:=H1.setAt;have GW:∀j,j<n->knd.is h' (val j).1 (val j).2:=λj hj=>sk.kept (Ab j hj) gS dS sb;refine WB ⟨plainId_quiet aaY _,ih (i+1) _ (by lia) lt (W.frame _ s1 _ _ yn (Yz _ _) λb hb o e=>?_) GW H2 λs2 m2 Vd H3=>?_⟩
  ·rw[sb.2 b (λz:b=S=>Um (by rw[←z];exact hb))];exact e
  ·refine q s2 (Moved.trans W.gtrans ((m.mono up).then_heap (Yz _ _) λb o hb e=>?_) m2) Vd H3;rw[sb.2 b (λz:b=S=>hb (by rw[z];exact WG))];exact e
end
end Hc.Sx
namespace Hc.Sx
open PySem.SetTable
noncomputable abbrev yu (w:Z1):Bool:=w.params.followText "set-order"
noncomputable abbrev pb (w:Z1):Obj:={cls:=.type "set",dict:=none,data:=.set #[] 0 (.fresh 0 0 (!yu w))}
section
variable {A:XD}
theorem EJ (x:WM)(q:Q (.ref s.heap.objs.size) {s with heap:=s.heap.push (pb w)}):codeAny (Xg prog w) A (.call (.builtin "set.__new__") ⟨[.type "set",x],[]⟩) (wants Q E) s:=by
 refine codeAny_of_tree ?_;show W4 _ A.in1 (do checkBuiltinCall "set.__new__" ⟨[Value.type "set",x],[]⟩;again (.builtin "set.__new__" ⟨[Value.type "set",x],[]⟩)) _ _ s;refine Wy (aaD (PySem.F.newCall_set_1 x) (WB ⟨plainId_quiet PySem.F.plain_set_new _,Zf PySem.F.entry_set_new ?_⟩));rw[YQ PySem.F.plain_set_new _];unfold Builtin.«set.__new__» Builtin.Frozenset.newClass;have sb:=sub_set_self;obtain⟨hp,g,d,tk,os⟩:=s;dsimp only;wp_walk;refine Y2 (WB ?_);dsimp only;simp only[newObj];exact Wy (wpAny_alloc (WB (WB q)))
theorem EK {t:W7}(R:WY->Prop)(fill:W4 (Xg prog w) A.in1.in1 (Builtin.«set.__init__» ⟨[.ref s.heap.objs.size,.ref t],[]⟩) (λfin s'=>∃r,fin=.done (.ret r)/\r=.none/\R s') E {s with heap:=s.heap.push (pb w)})(q:∀s',R s'->Q (.ref s.heap.objs.size) s'):W4 (Xg prog w) A (call (.type "set") [.ref t]) Q E s:=by
 obtain⟨c0,tl0,mro0⟩:=PySem.F.called_set.mro;have Wo:=PySem.F.called_set.made;have Wq:=PySem.F.called_set.sub;have Wr:=PySem.F.called_set.notType;have Ws:=PySem.F.called_set.canCreate;have Wt:=PySem.F.typeCall_set_1 (Value.ref t);refine wpAny_call (codeAny_of_tree ?_);show W4 _ _ (callAny (Value.type "set") _) _ _ _;refine WB ⟨Code.quiet_builtin _ (by decide+kernel),Zf PySem.F.entry_type_call ?_⟩;rw[Around.under_plain (weight_type_call_type "set" [Value.ref t] []) rfl]
 repeat (any_goals first|assumption|wp_step)
 refine abt (EJ (Value.ref t) (E:=E) (Q:=λx s1=>x=.ref s.heap.objs.size/\s1={s with heap:=s.heap.push (pb w)}) ⟨rfl,rfl⟩) λr s1 hr=>?_;cases r with
 |error e=>exact hr
 |ok fl=>
  cases fl with
  |ret ob=>
   obtain⟨rfl,rfl⟩:=hr;have gS:(s.heap.push (pb w)).get? s.heap.objs.size=some (pb w):=WQ _ rfl;have tS:Shared.TypeIs {s with heap:=s.heap.push (pb w)} (.ref s.heap.objs.size) "set":=⟨_,gS,rfl⟩;have il:=PySem.F.called_set.init.lookup;have ib:=PySem.F.called_set.init.bind (Value.ref s.heap.objs.size)
   repeat (any_goals first|assumption|wp_step)
   refine abt (codeAny_call_builtin (R:=wants (λr s2=>r=.none/\R s2) E) PySem.F.called_set.init.plain PySem.F.entry_set_init (check_set_init_1 tS ?_)) λr2 s2 eV=>?_
   ·exact Yc fill (λfin s' ⟨r,e,h1,h2⟩=>by subst e;exact⟨h1,h2⟩) (λe s' h=>h)
   ·cases r2 with
    |error e=>exact eV
    |ok f2=>
     cases f2 with
     |ret r=>
      obtain⟨rfl,h2⟩:=eV
      repeat (any_goals first|assumption|wp_step)
      exact q _ h2
     |_=>exact eV.elim
  |_=>exact hr.elim
variable {K:Type}[DecidableEq K]{knd:aaU prog w K}
theorem wY {l:W7}{ao:Array WM}(sk:nX knd)(mono:∀{h h':ZG} {k:K} {a:W7},knd.is h k a->(∀b ao,h.IsTuple b ao->h'.IsTuple b ao)->knd.is h' k a)(hr:knd.room A.in1.in1.in1)(hh:A.handled=none)(hl:s.heap.IsList l ao)(val:Nat->K×W7)(hv:∀(i:Nat) (v:WM),ao[i]? = some v->v=.ref (val i).2)(hk:∀j,j<ao.size->knd.is s.heap (val j).1 (val j).2)(hb:(dH val ao.size).length+1<=2047)(q:∀(h':ZG) (tk:Nat),kZ knd (yu w) h' s.heap.objs.size (dH val ao.size)->(∀b o,s.heap.get? b=some o->h'.get? b=some o)->Q (.ref s.heap.objs.size) {s with heap:=h',toks:=tk}) :
  W4 (Xg prog w) A (call (.type "set") [.ref l]) Q E s:=by
 refine EK (λs'=>∃h' tk,s'={s with heap:=h',toks:=tk}/\kZ knd (yu w) h' s.heap.objs.size (dH val ao.size)/\∀b o,s.heap.get? b=some o->h'.get? b=some o) ?_ λs' ⟨h',tk,e,h1,h2⟩=>by subst e;exact q h' tk h1 h2
 obtain⟨ot,gt,ct,nt,dt⟩:=hl;obtain⟨oc,od,oda,os⟩:=ot;simp only at ct dt;subst ct;subst dt;have Ve:(s.heap.push (pb w)).get? l=some {cls:=.type "list",dict:=od,data:=.seq ao nt,slots:=os}:=WC _ gt;have gS:(s.heap.push (pb w)).get? s.heap.objs.size=some (pb w):=WQ _ rfl;have n1:=PySem.F.sub_list_set;have n2:=PySem.F.sub_list_frozenset;have n3:(Value.type "list"==Value.type "dict")=false:=by decide
 have Rc:(s.heap.push (pb w)).IsList l ao:=⟨_,Ve,rfl,nt,rfl⟩;unfold Builtin.«set.__init__» noKeywords Builtin.Frozenset.updateFrom;generalize ePI:pyIter=PI;wp_walk;subst ePI;refine aa_ Rc ?_;refine Wy (wpAny_runValue ?_);have lt:l<s.heap.objs.size:=WX gt;have h3:A.in1.in1.in1.handled=none:=by simp[hh]
 have Vf:l≠(s.heap.push (pb w)).objs.size:=by rw[YW];exact Xj (aaj lt)
 have ni:s.heap.objs.size∉[(s.heap.push (pb w)).objs.size,l]:=by
  rw[YW];simp only[WV,abC,or_false,not_or];exact⟨Xj (Nat.lt_succ_self _),ZP lt⟩
 have Uo:∀(h:ZG) (o:Obj) b ao,h.IsTuple b ao->(h.push o).IsTuple b ao:=λh o b ao x=>x.push o;refine CF (byText:=yu w) sk hr ((Walks.list h3 _ l Vf ao).toS) s.heap.objs.size ni val hv hb (λi u u' _ st m ks j hj=>?_) (ao.size-0) 0 _ (by lia) (X5 _) ⟨⟨_,WQ _ rfl,rfl,rfl⟩,Rc.push _⟩ (λj hj=>mono (hk j hj) λb i2 x=>Uo _ _ _ _ (Uo _ _ _ _ x)) ?z0 ?zR
 ·refine mono (ks j hj) λb i2 ⟨o,e,c,n,d⟩=>⟨o,m.heap b o (λhm=>?_) e,c,n,d⟩;rw[WU] at hm;subst hm;obtain⟨o2,e2,c2,_⟩:=st.1;rw[e] at e2;cases e2;rw[c] at c2;exact absurd c2 (by decide)
 case z0=>exact EI (by cases yu w<;>simp) (WC _ gS)
 case zR=>
  intro s' hm _ Nv;obtain⟨h',g',d',SM,o'⟩:=s';have eg:g'=s.gens:=hm.gens;have ed:d'=s.drawn:=hm.drawn;have Vg:o'=s.os:=hm.os;subst eg;subst ed;subst Vg;show W4 _ _ _ _ _ _;refine WB ?_;show W4 _ _ (ret Value.none) _ _ _;refine WB ⟨_,rfl,rfl,h',SM,rfl,Nv,λb o e=>?_⟩;have Up:=WX e;refine hm.heap b o ?_ (WC _ (WC _ e));rw[YW];simp only[WV,abC,or_false,not_or];exact⟨Xj Up,Xj (aaj Up)⟩
end
end Hc.Sx
namespace L2
section
variable {e:YO}{pos2 p1:Pos}{b1:Bool}{ga:Ev->R (List U×Ev)}
theorem Mm:XB "set"=some (.type "set"):=by decide+kernel
end
@[irreducible] noncomputable def Mn (X:Cx)(G:Gm)(es:List YO)(b p:Bool)(g:Ev->R (List U×Ev)):Prop:=DA X G es b p g
section
variable {e:YO}{es:List YO}{b1 b2 p:Bool}{m1:Md}{g1:Ev->R (U×Ev)}{ga:Ev->R (List U×Ev)}
theorem V_ (h:Mn X G es b1 p ga):DA X G es b1 p ga:=by unfold Mn at h;exact h
theorem QS:Mn X G [] false p aq:=by unfold Mn;exact aj
theorem O4 (ha:DE X G e b1 m1 g1)(hr:Mn X G es b2 p ga)(hm:m1=.P->(p=true/\b2=false):=by first|exact λ_=>⟨rfl,rfl⟩|exact λh=>nomatch h)
  (hs:W5 (e::es) X.env=(false,Z4 e X.env)::W5 es X.env:=by rfl):Mn X G (e::es) (b1||b2) p (ag g1 ga):=by
 unfold Mn at hr ⊢;exact ae ha hr hm hs
end
end L2
namespace Hc.Zp
def ic (l:Bool)(h:ZG)(a:W7)(xs:Array WM):Prop:=if l=true then h.IsList a xs else h.IsTuple a xs
def fh (l:Bool)(h:ZG)(it a:W7)(i:Nat):Prop:=if l=true then h.IsListIter it a i else h.IsTupleIter it a i
noncomputable def CG (l:Bool):String:=if l=true then "list_iterator" else "tuple_iterator"
theorem ic.at {l:Bool}{xs:Array WM}(x:ic l h a xs)(e:∀o,h.get? a=some o->h'.get? a=some o):ic l h' a xs:=by
 cases l with
 |true=>exact Heap.IsList.at x e
 |false=>exact Heap.IsTuple.at x e
theorem fh.at {l:Bool}(x:fh l h it a i)(e:∀o,h.get? it=some o->h'.get? it=some o):fh l h' it a i:=by
 cases l with
 |true=>exact Heap.IsListIter.at x e
 |false=>exact Heap.IsTupleIter.at x e
theorem fh.obj {l:Bool}(x:fh l h it a i):∃o,h.get? it=some o/\o.data=.fields #[.ref a,.int i 0]/\o.cls=.type (CG l):=by
 cases l with
 |true=>obtain⟨o,e,c,d⟩:=x;exact⟨o,e,d,c⟩
 |false=>obtain⟨o,e,c,d⟩:=x;exact⟨o,e,d,c⟩
section
variable {A:XD}
theorem zh {xs:Array WM}{x:WM}(hi:s.heap.IsTupleIter it a i)(ha:s.heap.IsTuple a xs)(hx:xs[i]? = some x)(q:∀h',h'.IsTupleIter it a (i+1)->Yg it s.heap h'->Q x {s with heap:=h'}):W4 (Xg prog w) A (XG (.ref it)) Q E s:=by
 obtain⟨o,ho,hc,hd⟩:=id hi;obtain⟨oa,hoa,_,na,hda⟩:=ha;unfold XG;refine Wy (Xy (name:=YC "__next__") hi.typeIs Zm (Xr Zm hi.typeIs abU ?_ (abJ _)));show W4 _ _ (field (Value.ref it) 0 >>= _) _ _ s;refine Wy (Yj ho hd (x:=.ref a) rfl ?_);show W4 _ _ (if (Value.ref a==Value.none)=true then _ else _) _ _ s;rw[hV (show ¬((Value.ref a==Value.none)=true) from WE)];show W4 _ _ (field (Value.ref it) 1 >>= _) _ _ s;refine Wy (Yj ho hd (x:=.int i 0) rfl ?_);show W4 _ _ (seqItems? (Value.ref a) >>= _) _ _ s;refine Wy (Y8 hoa hda ?_);simp only[Xm,hx];refine Wy (ZC ho hd (by simp) (WB ⟨x,rfl,WB (q _ ⟨_,YE _ ho (aac (YM hd _)),(abj ..).trans hc,?_⟩ (XZ ..))⟩));rw[YM hd];simp[abr]
theorem CH {xs:Array WM}(hh:A.handled=none)(hi:s.heap.IsTupleIter it a i)(ha:s.heap.IsTuple a xs)(hx:xs[i]? = none)(q:∀h' e,Heap.ExtBut it s.heap h'->(∃o,h'.get? e=some o/\o.cls=.type "StopIteration")->E (.ref e) {s with heap:=h'}):W4 (Xg prog w) A (XG (.ref it)) Q E s:=by
 obtain⟨o,ho,hc,hd⟩:=id hi;obtain⟨oa,hoa,_,na,hda⟩:=ha;unfold XG;refine Wy (Xy (name:=YC "__next__") hi.typeIs Zm (Xr Zm hi.typeIs abU ?_ (abJ _)));show W4 _ _ (field (Value.ref it) 0 >>= _) _ _ s;refine Wy (Yj ho hd (x:=.ref a) rfl ?_);show W4 _ _ (if (Value.ref a==Value.none)=true then _ else _) _ _ s;rw[hV (show ¬((Value.ref a==Value.none)=true) from WE)];show W4 _ _ (field (Value.ref it) 1 >>= _) _ _ s;refine Wy (Yj ho hd (x:=.int i 0) rfl ?_);show W4 _ _ (seqItems? (Value.ref a) >>= _) _ _ s;refine Wy (Y8 hoa hda ?_);simp only[Xm,hx];refine Wy (Y_ (Wy (ZC ho hd (by simp) ?_)));show W4 _ _ (newExc (Value.type "StopIteration") [] >>= _) _ _ _;refine Wy ?_;simp only[newExc,newTuple];refine Wy (Xk ?_ (by size_fits));refine Wy (m:=ZD _ _) (aaD (a:=Value.none) (by first|rfl|(simp only[ZD];rfl)) ?_);refine Xk ?_ (by size_fits);simp only[raiseNew];refine Wy (wpAny_handled ?_)
 first|rw[show A.in1.handled=none from hh]|rw[hh]
 exact Wy (WB (wpAny_throw (q _ _ (((XZ ..).extBut.push _).push _) ⟨_,WQ _ rfl,rfl⟩)))
theorem nv {l:Bool}{xs:Array WM}{x:WM}(hi:fh l s.heap it a i)(ha:ic l s.heap a xs)(hx:xs[i]? = some x)(q:∀h',fh l h' it a (i+1)->Yg it s.heap h'->Q x {s with heap:=h'}):W4 (Xg prog w) A (XG (.ref it)) Q E s:=by
 cases l with
 |true=>exact wpAny_nextOf_list_item hi ha hx q
 |false=>exact zh hi ha hx q
theorem wZ {l:Bool}{xs:Array WM}(hh:A.handled=none)(hi:fh l s.heap it a i)(ha:ic l s.heap a xs)(hx:xs[i]? = none)(q:∀h' e,Heap.ExtBut it s.heap h'->(∃o,h'.get? e=some o/\o.cls=.type "StopIteration")->E (.ref e) {s with heap:=h'}):W4 (Xg prog w) A (XG (.ref it)) Q E s:=by
 cases l with
 |true=>exact wpAny_nextOf_list_end hh hi ha hx q
 |false=>exact CH hh hi ha hx q
theorem AR {l:Bool}{xs:Array WM}(ha:ic l s.heap a xs)(q:Q (.ref s.heap.objs.size) {s with heap:=s.heap.push {cls:=.type (CG l),data:=.fields #[.ref a,.int 0 0]}}):W4 (Xg prog w) A (pyIter (.ref a)) Q E s:=by
 cases l with
 |true=>exact aa_ ha q
 |false=>exact wpAny_pyIter_tuple ha q
theorem CI {TI TO:W7}{xs:Array WM}{x y p:WM}(D:ZipApart z TI TO i1 i2 a1 a2)(hz:IsZip s.heap z TI TO .none)(NC:aao s.heap TI (.ref i1) (.ref i2))(ND:aao s.heap TO p q)(h1:fh l1 s.heap i1 a1 k)(h2:fh l2 s.heap i2 a2 k)(g1:ic l1 s.heap a1 xs)(g2:ic l2 s.heap a2 ys)(hx:xs[k]? = some x)(hy:ys[k]? = some y)(hQ:∀h',IsZip h' z TI TO (abr s.heap.objs.size)->aao h' TO x y->fh l1 h' i1 a1 (k+1)->fh l2 h' i2 a2 (k+1)->aao h' s.heap.objs.size x y->(∀c o,c≠z->c≠TO->c≠i1->c≠i2->s.heap.get? c=some o->h'.get? c=some o)->Q (.ref s.heap.objs.size) {s with heap:=h'}) :
  W4 (Xg prog w) A (Builtin.«zip.__next__» ⟨[.ref z],[]⟩) (λfin s'=>∃v,fin=.done (.ret v)/\Q v s') E s:=by
 show W4 _ _ (field (Value.ref z) 2 >>= _) _ _ _;refine Wy (Yj hz rfl (x:=.bool false) rfl ?_);show W4 _ _ (field (Value.ref z) 3 >>= _) _ _ _;refine Wy (Yj hz rfl (x:=.ref TI) rfl (Wy (Y8 NC rfl ?_)));show W4 _ _ (YB (Value.ref z) >>= _) _ _ _;refine Wy ?_;unfold YB;refine Wy (Yj hz rfl (x:=.none) rfl (WB ?_));simp only[if_true];refine Wy (Y_ (Wy (Yj hz rfl (x:=.ref TO) rfl (Wy (X6 hz (by simp) λw1 z1 b1=>?_)))))
 replace z1:IsZip w1 z TI TO .ellipsis:=z1
 refine Wy ?_;simp only[List.zipIdx_cons,List.zipIdx_nil,aaT,List.forIn_nil];refine Wy (Wy (wpAny_onRaise ?_));show W4 _ _ (XG (Value.ref i1) >>= _) _ _ _;refine Wy (nv (h1.at λo e=>b1.extBut _ _ D.i1z e) (g1.at λo e=>b1.extBut _ _ D.l1z e) hx λw2 n2 b2=>WB ?_);have t2:aao w2 TO p q:=b2.extBut _ _ D.TOi1 (b1.extBut _ _ D.TOz ND);refine Wy (Y8 t2 rfl (Wy (abH t2 λw3 t3 b3=>?_)))
 replace t3:aao w3 TO x q:=t3
 refine Wy (wpAny_letGo (WB ?_));refine Wy (Wy (wpAny_onRaise ?_));show W4 _ _ (XG (Value.ref i2) >>= _) _ _ _;refine Wy (nv (h2.at λo e=>b3.extBut _ _ D.TOi2.symm (b2.extBut _ _ D.i12.symm (b1.extBut _ _ D.i2z e))) (g2.at λo e=>b3.extBut _ _ D.l2TO (b2.extBut _ _ D.l2i1 (b1.extBut _ _ D.l2z e))) hy λw4 n4 b4=>WB ?_);have t4:aao w4 TO x q:=b4.extBut _ _ D.TOi2 t3;refine Wy (Y8 t4 rfl (Wy (abH t4 λw5 t5 b5=>?_)))
 replace t5:aao w5 TO x y:=t5
 refine Wy (wpAny_letGo (WB (WB ?_)));refine Wy (Y8 t5 rfl (Wy (wpAny_newTuple ?_)));have sz:w5.objs.size=s.heap.objs.size:=by rw[b5.1,b4.1,b3.1,b2.1,b1.1]
 have z5:IsZip w5 z TI TO .ellipsis:=b5.extBut _ _ D.TOz.symm (b4.extBut _ _ D.i2z.symm (b3.extBut _ _ D.TOz.symm (b2.extBut _ _ D.i1z.symm z1)));have kp:∀c o,c≠z->c≠TO->c≠i1->c≠i2->s.heap.get? c=some o->w5.get? c=some o:=λc o c1 c2 c3 c4 e=>b5.extBut _ _ c2 (b4.extBut _ _ c4 (b3.extBut _ _ c2 (b2.extBut _ _ c3 (b1.extBut _ _ c1 e))));have n5:fh l1 w5 i1 a1 (k+1):=n2.at λo e=>b5.extBut _ _ D.TOi1.symm (b4.extBut _ _ D.i12 (b3.extBut _ _ D.TOi1.symm e));have m5:fh l2 w5 i2 a2 (k+1):=n4.at λo e=>b5.extBut _ _ D.TOi2.symm e;have lz:z<w5.objs.size:=WX z5;show W4 _ _ (aas (Value.ref z) (Value.ref w5.objs.size) >>= _) _ _ _;refine Wy ?_;unfold aas;have z6:IsZip (w5.push {cls:=.type "tuple",data:=.seq #[x,y]}) z TI TO .ellipsis:=WC _ z5;refine Wy (X6 z6 (by simp) λw7 z7 b7=>?_)
 replace z7:IsZip w7 z TI TO (abr w5.objs.size):=z7
 refine X6 z7 (by simp) λw8 z8 b8=>?_
 replace z8:IsZip w8 z TI TO (abr w5.objs.size):=z8
 have up:∀c o,c≠z->w5.get? c=some o->w8.get? c=some o:=λc o c1 e=>b8.extBut _ _ c1 (b7.extBut _ _ c1 (WC _ e));have t8:aao w8 w5.objs.size x y:=b8.extBut _ _ (ZP lz) (b7.extBut _ _ (ZP lz) (WQ _ rfl));rw[sz] at z8 t8;refine WB ⟨_,rfl,?_⟩;show Q (.ref w5.objs.size) _;rw[sz];exact hQ w8 z8 (up _ _ D.TOz t5) (n5.at λo e=>up _ o D.i1z e) (m5.at λo e=>up _ o D.i2z e) t8 λc o c1 c2 c3 c4 e=>up c o c1 (kp c o c1 c2 c3 c4 e)
theorem EL {TI TO:W7}{xs:Array WM}{p:WM}{Q:Fin->WY->Prop}(hh:A.handled=none)(D:ZipApart z TI TO i1 i2 a1 a2)(hz:IsZip s.heap z TI TO .none)(NC:aao s.heap TI (.ref i1) (.ref i2))(ND:aao s.heap TO p q)(h1:fh l1 s.heap i1 a1 k)(h2:fh l2 s.heap i2 a2 k)(g1:ic l1 s.heap a1 xs)(g2:ic l2 s.heap a2 ys)(NF:xs[k]? = none\/ys[k]? = none)(hE:∀h' e,(∀c o,c≠z->c≠TO->c≠i1->c≠i2->s.heap.get? c=some o->h'.get? c=some o)->(∃o,h'.get? e=some o/\o.cls=.type "StopIteration")->E (.ref e) {s with heap:=h'}) :
  W4 (Xg prog w) A (Builtin.«zip.__next__» ⟨[.ref z],[]⟩) Q E s:=by
 show W4 _ _ (field (Value.ref z) 2 >>= _) _ _ _;refine Wy (Yj hz rfl (x:=.bool false) rfl ?_);show W4 _ _ (field (Value.ref z) 3 >>= _) _ _ _;refine Wy (Yj hz rfl (x:=.ref TI) rfl (Wy (Y8 NC rfl ?_)));show W4 _ _ (YB (Value.ref z) >>= _) _ _ _;refine Wy ?_;unfold YB;refine Wy (Yj hz rfl (x:=.none) rfl (WB ?_));simp only[if_true];refine Wy (Y_ (Wy (Yj hz rfl (x:=.ref TO) rfl (Wy (X6 hz (by simp) λw1 z1 b1=>?_)))))
 replace z1:IsZip w1 z TI TO .ellipsis:=z1
 refine Wy ?_;simp only[List.zipIdx_cons,List.zipIdx_nil,aaT,List.forIn_nil];refine Wy (Wy (wpAny_onRaise ?_));show W4 _ _ (XG (Value.ref i1) >>= _) _ _ _;cases hx:xs[k]? with
 |none=>
  refine Wy (wZ hh (h1.at λo e=>b1.extBut _ _ D.i1z e) (g1.at λo e=>b1.extBut _ _ D.l1z e) hx λw2 e b2 he=>?_);obtain⟨oe,hoe,hce⟩:=he;have z2:IsZip w2 z TI TO .ellipsis:=b2 _ _ D.i1z.symm z1;have nz:e≠z:=λx=>by subst x;rw[z2] at hoe;cases hoe;simp at hce
  exact X6 z2 (by simp) λw3 _ b3=>hE w3 e (λc o c1 _ c3 _ x=>b3.extBut _ _ c1 (b2 _ _ c3 (b1.extBut _ _ c1 x))) ⟨oe,b3.extBut _ _ nz hoe,hce⟩
 |some x=>
  have hy:ys[k]? = none:=by rcases NF with h|h;rw[hx] at h;cases h;exact h
  refine Wy (nv (h1.at λo e=>b1.extBut _ _ D.i1z e) (g1.at λo e=>b1.extBut _ _ D.l1z e) hx λw2 n2 b2=>WB ?_);have t2:aao w2 TO p q:=b2.extBut _ _ D.TOi1 (b1.extBut _ _ D.TOz ND);refine Wy (Y8 t2 rfl (Wy (abH t2 λw3 t3 b3=>?_)));refine Wy (wpAny_letGo (WB ?_));refine Wy (Wy (wpAny_onRaise ?_));show W4 _ _ (XG (Value.ref i2) >>= _) _ _ _;refine Wy (wZ hh (h2.at λo e=>b3.extBut _ _ D.TOi2.symm (b2.extBut _ _ D.i12.symm (b1.extBut _ _ D.i2z e))) (g2.at λo e=>b3.extBut _ _ D.l2TO (b2.extBut _ _ D.l2i1 (b1.extBut _ _ D.l2z e))) hy λw4 e b4 he=>?_);obtain⟨oe,hoe,hce⟩:=he;have z4:IsZip w4 z TI TO .ellipsis:=b4 _ _ D.i2z.symm (b3.extBut _ _ D.TOz.symm (b2.extBut _ _ D.i1z.symm z1));have nz:e≠z:=λx=>by subst x;rw[z4] at hoe;cases hoe;simp at hce
  exact X6 z4 (by simp) λw5 _ b5=>hE w5 e (λc o c1 c2 c3 c4 x=>b5.extBut _ _ c1 (b4 _ _ c4 (b3.extBut _ _ c2 (b2.extBut _ _ c3 (b1.extBut _ _ c1 x))))) ⟨oe,b5.extBut _ _ nz hoe,hce⟩
theorem CJ {TI TO:W7}{xs:Array WM}{x y p:WM}{Q:Option WM->WY->Prop}(D:ZipApart z TI TO i1 i2 a1 a2)(hz:IsZip s.heap z TI TO .none)(NC:aao s.heap TI (.ref i1) (.ref i2))(ND:aao s.heap TO p q)(h1:fh l1 s.heap i1 a1 k)(h2:fh l2 s.heap i2 a2 k)(g1:ic l1 s.heap a1 xs)(g2:ic l2 s.heap a2 ys)(hx:xs[k]? = some x)(hy:ys[k]? = some y)(hQ:∀h',IsZip h' z TI TO (abr s.heap.objs.size)->aao h' TO x y->fh l1 h' i1 a1 (k+1)->fh l2 h' i2 a2 (k+1)->aao h' s.heap.objs.size x y->(∀c o,c≠z->c≠TO->c≠i1->c≠i2->s.heap.get? c=some o->h'.get? c=some o)->Q (some (.ref s.heap.objs.size)) {s with heap:=h'}) :
  W4 (Xg prog w) A (aaI (.ref z)) Q E s:=by
 have hT:s.TypeIs (.ref z) "zip":=⟨_,hz,rfl⟩;unfold aaI;exact Wy (Zw (Xy (name:=YC "__next__") hT abV (Xr abV hT F.entry_zip_next (CI D hz NC ND h1 h2 g1 g2 hx hy λh' c1 c2 c3 c4 c5 c6=>WB (hQ h' c1 c2 c3 c4 c5 c6)) (F.args_zip_next_1 _))))
theorem CK {TI TO:W7}{xs:Array WM}{p:WM}{Q:Option WM->WY->Prop}(hh:A.handled=none)(D:ZipApart z TI TO i1 i2 a1 a2)(hz:IsZip s.heap z TI TO .none)(NC:aao s.heap TI (.ref i1) (.ref i2))(ND:aao s.heap TO p q)(h1:fh l1 s.heap i1 a1 k)(h2:fh l2 s.heap i2 a2 k)(g1:ic l1 s.heap a1 xs)(g2:ic l2 s.heap a2 ys)(NF:xs[k]? = none\/ys[k]? = none)(hQ:∀h',(∀c o,c≠z->c≠TO->c≠i1->c≠i2->s.heap.get? c=some o->h'.get? c=some o)->Q none {s with heap:=h'}):W4 (Xg prog w) A (aaI (.ref z)) Q E s:=by
 have hT:s.TypeIs (.ref z) "zip":=⟨_,hz,rfl⟩;unfold aaI;refine Wy (Zw (Xy (name:=YC "__next__") hT abV (Xr abV hT F.entry_zip_next (EL hh D hz NC ND h1 h2 g1 g2 NF λh' e hk ⟨o,ho,hc⟩=>?_) (F.args_zip_next_1 _))));exact Wy (ZV (T:="StopIteration") (b:=true) ⟨o,ho,hc⟩ acn (WB (hQ _ hk)))
end
noncomputable abbrev QT (l1:Bool)(h:ZG)(a1:W7):ZG:=h.push {cls:=.type (CG l1),data:=.fields #[.ref a1,.int 0 0]}
noncomputable abbrev QU (l1 l2:Bool)(h:ZG)(a1 a2:W7):ZG:=(QT l1 h a1).push {cls:=.type (CG l2),data:=.fields #[.ref a2,.int 0 0]}
noncomputable abbrev QV (l1 l2:Bool)(h:ZG)(a1 a2:W7):ZG:=(QU l1 l2 h a1 a2).push {cls:=.type "tuple",data:=.seq #[.ref h.objs.size,.ref (QT l1 h a1).objs.size]}
noncomputable abbrev QW (l1 l2:Bool)(h:ZG)(a1 a2:W7):ZG:=(QV l1 l2 h a1 a2).push {cls:=.type "tuple",data:=.seq #[.none,.none]}
noncomputable abbrev NL (l1 l2:Bool)(h:ZG)(a1 a2:W7):ZG:=(QW l1 l2 h a1 a2).push {cls:=.type "zip",data:=.fields #[.none,.bool false,.bool false,.ref (QU l1 l2 h a1 a2).objs.size,.ref (QV l1 l2 h a1 a2).objs.size]}
theorem EM (l1 l2:Bool)(a1 a2:W7)(xs ys:Array WM):Meets (Builtin.«zip.__new__» ⟨[.type "zip",.ref a1,.ref a2],[]⟩) (λ_ R s=>ic l1 s.heap a1 xs/\ic l2 s.heap a2 ys/\R (.ok (.ret (.ref (QW l1 l2 s.heap a1 a2).objs.size))) {s with heap:=NL l1 l2 s.heap a1 a2}):=
 .of_wp λprog w A R s h=>by
  obtain⟨hp,g,d,tk,os⟩:=s;obtain⟨g1,g2,h⟩:=h;have sb:=sub_zip;have q1:ic l1 (Shared.heap ⟨hp,g,d,tk,os⟩) a1 xs:=g1;have q2:ic l2 (Shared.heap ⟨hp.push {cls:=.type (CG l1),data:=.fields #[.ref a1,.int 0 0]},g,d,tk,os⟩) a2 ys:=g2.at λo e=>WC _ e;wp_walk using AR q1,AR q2;exact⟨_,rfl,h⟩
section
variable {A:XD}
theorem CL {xs:Array WM}(g1:ic l1 s.heap a1 xs)(g2:ic l2 s.heap a2 ys)(h:∀h',IsZip h' (s.heap.objs.size+4) (s.heap.objs.size+2) (s.heap.objs.size+3) .none->aao h' (s.heap.objs.size+2) (.ref s.heap.objs.size) (.ref (s.heap.objs.size+1))->aao h' (s.heap.objs.size+3) .none .none->
   fh l1 h' s.heap.objs.size a1 0->fh l2 h' (s.heap.objs.size+1) a2 0->(∀c o,s.heap.get? c=some o->h'.get? c=some o)->Q (.ref (s.heap.objs.size+4)) {s with heap:=h'}):W4 (Xg prog w) A (call (.type "zip") [.ref a1,.ref a2]) Q E s:=by
 refine callType_new F.called_zip (by decide) (F.typeCall_zip_2 _ _) (F.newCall_zip_2 _ _) (λobj=>F.args_object_init_3 obj _ _) F.entry_zip_new (EM l1 l2 a1 a2 xs ys) ⟨g1,g2,?_⟩;have z1:(QT l1 s.heap a1).objs.size=s.heap.objs.size+1:=YW ..;have z2:(QU l1 l2 s.heap a1 a2).objs.size=s.heap.objs.size+2:=by rw[YW,z1]
 have z3:(QV l1 l2 s.heap a1 a2).objs.size=s.heap.objs.size+3:=by rw[YW,z2]
 have z4:(QW l1 l2 s.heap a1 a2).objs.size=s.heap.objs.size+4:=by rw[YW,z3]
 have e5:(NL l1 l2 s.heap a1 a2).get? (QW l1 l2 s.heap a1 a2).objs.size=some _:=WQ _ rfl;have e4:(NL l1 l2 s.heap a1 a2).get? (QV l1 l2 s.heap a1 a2).objs.size=some _:=WC _ (WQ _ rfl);have e3:(NL l1 l2 s.heap a1 a2).get? (QU l1 l2 s.heap a1 a2).objs.size=some _:=WC _ (WC _ (WQ _ rfl));have e2:(NL l1 l2 s.heap a1 a2).get? (QT l1 s.heap a1).objs.size=some _:=WC _ (WC _ (WC _ (WQ _ rfl)));have e1:(NL l1 l2 s.heap a1 a2).get? s.heap.objs.size=some _:=WC _ (WC _ (WC _ (WC _ (WQ _ rfl))));show _/\_;rw[z2,z3,z4] at e5;rw[z1,z2] at e3;rw[z3] at e4;rw[z1] at e2;rw[z4];have mk:∀(l:Bool) (hp:ZG) (it a:W7) (_:hp.get? it=some {cls:=.type (CG l),data:=.fields #[.ref a,.int 0 0]}),fh l hp it a 0:=λl hp it a e=>by
  cases l with
  |true=>exact⟨_,e,rfl,rfl⟩
  |false=>exact⟨_,e,rfl,rfl⟩
 exact⟨⟨_,e5,rfl⟩,h _ e5 e3 e4 (mk l1 _ _ _ e1) (mk l2 _ _ _ e2) λc o x=>WC _ (WC _ (WC _ (WC _ (WC _ x))))⟩
end
end Hc.Zp
namespace L2
open Hc.Zp
section
variable {T:W7}{o:HO}
theorem az.turnNew {t':Nat}(I:az X pins σ H s)(hf:∀b∈fp,oU X pins H b)(k:∀b o,b∉fp->s.heap.get? b=some o->h'.get? b=some o)(hT:s.heap.objs.size<=T)(new:bu X.prog X.w (bV H T o) h' T o) :
  az X pins σ (bV H T o) {s with heap:=h',toks:=t'}:=by
 have hn:H T=none:=I.hok.fresh hT;have nf:∀b u,H b=some u->b∉fp:=λb u e z=>by rw[(hf b z).1] at e;cases e
 have nT:∀b u,H b=some u->b≠T:=λb u e z=>by rw[z,hn] at e;cases e
 refine I.step (g':=s.gens) (d':=s.drawn) (ch:=fp) (λb hb=>?_) (λb o _ _ hc e _=>k b o hc e) (λb o _ _ hc e _=>⟨o.slots,k b o hc e⟩) (λb o _ e n=>?_) (λb o hc e=>⟨o,k b o hc e⟩)
  (λb xs e=>?_) (λb o u e=>?_) (λb ps e=>⟨#[],?_⟩) (λm hm=>?_) (λb u e=>?_) I.bare
 ·obtain⟨f0,f1,f2,f3,f4,f5⟩:=hf b hb;exact⟨f3,f1,f4,f5⟩
 ·rw[aS (Xj (Xx (WX e) hT))];exact n
 ·rw[aS (nT b _ e)];exact e
 ·rw[aS (nT b _ e)];exact e
 ·rw[aS (nT b _ e),e];simp
 ·obtain⟨o,es,ep,ho,r⟩:=hm;exact⟨o,es,ep,k _ o (λz=>(hf _ z).2.1 rfl) ho,r⟩
 ·by_cases c:b=T
  ·subst c;rw[ba] at e;cases e;exact new
  ·rw[aS c] at e;refine (I.hok b u e).stay (λc v hc q=>k c v ?_ q) (λc q=>by rw[aS (nT c _ q)];exact q) λc xs q=>by rw[aS (nT c _ q)];exact q
   rcases hc with z|z
   ·rw[z];exact nf b u e
   ·exact nf c _ z
theorem az.turneds {t':Nat}(I:az X pins σ H s)(hf:∀b∈fp,oU X pins H b)(k:∀b o,b∉fp->s.heap.get? b=some o->h'.get? b=some o):az X pins σ H {s with heap:=h',toks:=t'}:=by
 have nf:∀b u,H b=some u->b∉fp:=λb u e z=>by rw[(hf b z).1] at e;cases e
 refine I.step (g':=s.gens) (d':=s.drawn) (ch:=fp) (λb hb=>?_) (λb o _ _ hc e _=>k b o hc e) (λb o _ _ hc e _=>⟨o.slots,k b o hc e⟩) (λb o _ e n=>n) (λb o hc e=>⟨o,k b o hc e⟩)
  (λb xs e=>e) (λb o u e=>e) (λb ps e=>⟨#[],by rw[e];simp⟩) (λm hm=>?_) (λb u e=>?_) I.bare
 ·obtain⟨f0,f1,f2,f3,f4,f5⟩:=hf b hb;exact⟨f3,f1,f4,f5⟩
 ·obtain⟨o,es,ep,ho,r⟩:=hm;exact⟨o,es,ep,k _ o (λz=>(hf _ z).2.1 rfl) ho,r⟩
 ·refine (I.hok b u e).stay (λc v hc q=>k c v ?_ q) (λ_ q=>q) λ_ _ q=>q;rcases hc with z|z
  ·rw[z];exact nf b u e
  ·exact nf c _ z
def CM (l:Bool)(K:WH)(H:Hp)(a:W7)(xs:List V):Prop:=if l=true then eF K H a xs else fQ K H a xs
theorem az.sq {l:Bool}(I:az X pins σ H s)(q:CM l X.K H a xs):∃ao,aQ xs ao/\ic l s.heap a ao.toArray:=by
 cases l with
 |true=>obtain⟨ao,rv,p,_⟩:=I.list q;exact⟨ao,rv,p.isList⟩
 |false=>obtain⟨ao,rv,p,_⟩:=I.tuple q;exact⟨ao,rv,p⟩
theorem az.sq_inj {l:Bool}{ys:List V}(I:az X pins σ H s)(q:CM l X.K H a xs)(q':CM l X.K H a ys):xs=ys:=by
 cases l with
 |true=>exact I.list_inj q q'
 |false=>exact I.tuple_inj q q'
end
noncomputable def Tr (K:WH)(l1 l2:Bool)(a1 a2:W7):It:=
  ⟨λi H=>∃xs ys x y,CM l1 K H a1 xs/\CM l2 K H a2 ys/\xs[i]? = some x/\ys[i]? = some y,
   λi H v H'=>∃T x y,v=.ref T/\H T=none/\H'=bV H T (.tup [x,y])/\(∀xs,CM l1 K H a1 xs->xs[i]? = some x)/\(∀ys,CM l2 K H a2 ys->ys[i]? = some y),
   λi H=>∃xs ys,CM l1 K H a1 xs/\CM l2 K H a2 ys/\(xs.length<=i\/ys.length<=i)⟩
theorem EN {TI TO:W7}(D:ZipApart z TI TO i1 i2 a1 a2) :
  yA P w K (.Tuple elts kt tp) (Tr K l1 l2 a1 a2) [z,TI,TO,i1,i2] z (λi h=>IsZip h z TI TO .none/\aao h TI (.ref i1) (.ref i2)/\(∃p q,aao h TO p q)/\fh l1 h i1 a1 i/\fh l2 h i2 a2 i) where
 mem:=by simp
 obj:=λi h ⟨hz,hI,⟨p,q,hO⟩,h1,h2⟩ b hb=>by
  obtain⟨o1,e1,d1,_⟩:=h1.obj;obtain⟨o2,e2,d2,_⟩:=h2.obj;simp only[WV,Y1,or_false] at hb;rcases hb with rfl|rfl|rfl|rfl|rfl
  ·exact⟨_,hz,λv e=>by cases e⟩
  ·exact⟨_,hI,λv e=>by cases e⟩
  ·exact⟨_,hO,λv e=>by cases e⟩
  ·exact⟨o1,e1,λv e=>by rw[d1] at e;cases e⟩
  ·exact⟨o2,e2,λv e=>by rw[d2] at e;cases e⟩
 keep:=λi h h' ⟨hz,hI,⟨p,q,hO⟩,h1,h2⟩ k=>⟨k z (by simp) _ hz,k TI (by simp) _ hI,⟨p,q,k TO (by simp) _ hO⟩,h1.at λo e=>k i1 (by simp) o e,h2.at λo e=>k i2 (by simp) o e⟩
 item:=by
  intro X hP hw hK hc i pins s σ H E I hf st hg;subst hP hw hK;obtain⟨hz,hI,⟨p,q,hO⟩,h1,h2⟩:=st;obtain⟨xs,ys,x,y,q1,q2,hx,hy⟩:=hg;obtain⟨is1,v1,g1⟩:=I.sq q1;obtain⟨is2,v2,g2⟩:=I.sq q2;obtain⟨u1,mR,r1⟩:=v1.get hx;obtain⟨u2,S9,r2⟩:=v2.get hy;obtain⟨o1,e1,_,_⟩:=h1.obj;obtain⟨o2,e2,_,_⟩:=h2.obj;have lz:=WX hz;have lI:=WX hI;have lO:=WX hO;have Vh:=WX e1;have Vi:=WX e2;refine CJ D hz hI hO h1 h2 g1 g2 (x:=u1) (y:=u2) (by simpa using mR) (by simpa using S9) λh' c1 c2 c3 c4 c5 kp=>⟨_,rfl,?_⟩;refine wpAny_letOwnedTupleGo_zip c1 λKW z2 sb=>?_;have NA:aao KW s.heap.objs.size u1 u2:=sb.extBut _ _ (ZP lz) c5;have Vj:∀b o,b∉[z,TI,TO,i1,i2]->s.heap.get? b=some o->KW.get? b=some o:=λb o hb e=>by
   simp only[WV,Y1,or_false,not_or] at hb;exact sb.extBut _ _ hb.1 (kp b o hb.1 hb.2.2.1 hb.2.2.2.1 hb.2.2.2.2 e)
  have I2:az X pins σ (bV H s.heap.objs.size (.tup [x,y])) {s with heap:=KW}:=I.turnNew (t':=s.toks) hf Vj (WR _) ⟨by rw[YI];simp,[u1,u2],.cons r1 (.cons r2 .nil),⟨_,NA,rfl,_,rfl⟩,_,NA⟩;have fr:H s.heap.objs.size=none:=I.hok.fresh (WR _);refine⟨.ref s.heap.objs.size,_,I2,rfl,⟨_,x,y,rfl,fr,rfl,λzs hq=>by rw[I.sq_inj hq q1];exact hx,λzs hq=>by rw[I.sq_inj hq q2];exact hy⟩,⟨z2,?_,⟨u1,u2,?_⟩,?_,?_⟩,λb hb=>?_⟩
  ·exact sb.extBut _ _ D.TIz (kp _ _ D.TIz D.TITO D.TIi1 D.TIi2 hI)
  ·exact sb.extBut _ _ D.TOz c2
  ·exact c3.at λo e=>sb.extBut _ _ D.i1z e
  ·exact c4.at λo e=>sb.extBut _ _ D.i2z e
  ·have hn:b≠s.heap.objs.size:=by
    simp only[WV,Y1,or_false] at hb;rcases hb with rfl|rfl|rfl|rfl|rfl
    ·exact Xj lz
    ·exact Xj lI
    ·exact Xj lO
    ·exact Xj Vh
    ·exact Xj Vi
   rw[aS hn];exact (hf b hb).1
 done:=by
  intro X hP hw hK hc i pins s σ H E I hf st hg;subst hP hw hK;obtain⟨hz,hI,⟨p,q,hO⟩,h1,h2⟩:=st;obtain⟨xs,ys,q1,q2,he⟩:=hg;obtain⟨is1,v1,g1⟩:=I.sq q1;obtain⟨is2,v2,g2⟩:=I.sq q2;have n1:=v1.length;have n2:=v2.length;refine CK (I.ok.hd hc) D hz hI hO h1 h2 g1 g2 (by
   rcases he with he|he
   ·exact .inl (by simp;lia)
   ·exact .inr (by simp;lia)) λh' kp=>⟨rfl,I.turneds (t':=s.toks) hf λb o hb e=>?_⟩
  simp only[WV,Y1,or_false,not_or] at hb;exact kp b o hb.1 hb.2.2.1 hb.2.2.2.1 hb.2.2.2.2 e
 self:=λ_ _ _ _ _ st h=>wpAny_pyIter_zip st.1 h
section
variable {p:Pos}{a b:YO}
theorem Mo:XB "zip"=some (.type "zip"):=by decide+kernel
def R3 (K:WH)(ta:TA):TI:=λσ H R=>ta σ H λvs H1=>∃l1 l2 a1 a2 xs ys,vs=[.ref a1,.ref a2]/\CM l1 K H1 a1 xs/\CM l2 K H1 a2 ys/\R (Tr K l1 l2 a1 a2) H1
theorem Mp {ta:TA}(hg:Gl X "zip")(hm:X.mg "zip"=none)(ha:PA X [a,b] ta)(hs:W5 [a,b] X.env=[(false,Z4 a X.env),(false,Z4 b X.env)]:=by rfl)(bT:W5 [b] X.env=[(false,Z4 b X.env)]:=by rfl) :
  PI X (.Tuple elts kt tp) (.Call (.Name "zip" p) [a,b] [] pos) (R3 X.K ta):=by
 intro pins s σ H R I h;refine Call_ (p0 I hg hm Mo (Z8 (du (ha pos pins s σ H _ I h) λus s1 ⟨vs,H1,I1,r1,q1⟩=>?_) (by rw[hs,bT]) (by rw[bT];rfl)));obtain⟨l1,l2,a1,a2,xs,ys,rfl,g1,g2,q⟩:=q1;cases r1 with
 |cons r rr=>
  cases rr with
  |cons r' rr=>
   cases rr;cases r;cases r';obtain⟨is1,v1,m1⟩:=I1.sq g1;obtain⟨is2,v2,m2⟩:=I1.sq g2;have lt:∀(l:Bool) (c:W7) (zs:Array WM),ic l s1.heap c zs->c<s1.heap.objs.size:=λl c zs hq=>by
    cases l with
    |true=>obtain⟨_,e,_⟩:=hq;exact WX e
    |false=>obtain⟨_,e,_⟩:=hq;exact WX e
   refine CL m1 m2 λh' z1 z2 z3 z4 z5 kp=>wpAny_pyIter_zip z1 ?_;refine⟨_,[s1.heap.objs.size+4,s1.heap.objs.size+2,s1.heap.objs.size+3,s1.heap.objs.size,s1.heap.objs.size+1],_,_,H1,rfl,I1.kept (t':=s1.toks) λb o e=>kp b o e,EN (zipApart_new (lt l1 a1 _ m1) (lt l2 a2 _ m2)),⟨z1,z2,⟨_,_,z3⟩,z4,z5⟩,λb hb=>?_,q⟩;have hb:s1.heap.objs.size<=b:=by
    simp only[WV,Y1,or_false] at hb;rcases hb with rfl|rfl|rfl|rfl|rfl
    ·exact Yz _ _
    ·exact Yz _ _
    ·exact Yz _ _
    ·exact WR _
    ·exact Yz _ _
   exact I1.fpOk hb (I1.hok.fresh hb)
end
noncomputable def CN:U->Option (List U)
 | .lst us=>some us
 | .tup us=>some us
 |_=>none
noncomputable def EO (ga:Ev->R (List U×Ev)):Ev->R (List U×Ev):=λρ=>(ga ρ).bind λx=>match x.1 with
 | [u,w]=>match CN u,CN w with
  |some us,some ws=>.ok (X1 (λa b=>.tup [a,b]) us ws,x.2)
  |_,_=>.stk
 |_=>.stk
section
variable {p1:Pos}{a b:YO}{b1:Bool}{ga:Ev->R (List U×Ev)}
theorem ER (e:CN u=some us)(h:Rp K H A u v):∃l a xs,v=.ref a/\us.length<=WJ/\aC K H A us xs/\CM l K H a xs/\∀H',dR A H H'->(∀b,A b->Mu (H b))->CM l K H' a xs:=by
 unfold CN at e;split at e;rotate_right
 ·cases e
 rotate_left
 ·cases e;unfold Rp at h;obtain⟨a,xs,rfl,q,l,z⟩:=h;exact⟨false,a,xs,rfl,l,z,fQ.of q,λH' x mu=>fQ.of (x a _ (λy=>by have:=mu a y;rw[q] at this;exact this) q)⟩
 ·cases e;unfold Rp at h;obtain⟨a,xs,rfl,na,q,l,z⟩:=h;exact⟨true,a,xs,rfl,l,z,eF.of q,λH' x mu=>eF.of (x a _ na q)⟩
theorem ES (ha:DA X G [a,b] b1 false ga)(hm:X.mg "zip"=none)(hg:Gl X "zip":=by rfl)(hs:W5 [a,b] X.env=[(false,Z4 a X.env),(false,Z4 b X.env)]:=by rfl)(bT:W5 [b] X.env=[(false,Z4 b X.env)]:=by rfl) :
  DI X G (.Tuple elts kt tp) (.Call (.Name "zip" p1) [a,b] [] pos) b1 false (EO ga):=⟨(Mp hg hm ha.un hs bT).to λσ H RR h00=>by
 obtain⟨Z,A,ρ,q,f⟩:=h00;unfold EO at f;cases e1:ga ρ with
 |stk=>rw[e1] at f;exact f.elim
 |exc=>rw[e1] at f;exact f.elim
 |ok y=>
  obtain⟨us,ρ1⟩:=y;rw[e1] at f;dsimp only[L2.R.bind] at f;refine⟨Z,A,ρ,q,?_⟩;rw[e1];intro vs H1 q1 x1 s1 vm;split at f
  ·rename_i Ud ρ' e2;split at e2
   ·rename_i u w';split at e2
    ·rename_i as bs ea eb;cases e2;have r:=vm.rps;unfold aC at r;obtain⟨v,vr,rfl,r1,r2⟩:=r;unfold aC at r2;obtain⟨v',vr',rfl,r3,r4⟩:=r2;unfold aC at r4;subst r4;obtain⟨l1,a1,xs,rfl,n1,z1,k1,yn⟩:=ER ea r1;obtain⟨l2,a2,ys,rfl,n2,z2,k2,kr⟩:=ER eb r3;refine⟨l1,l2,a1,a2,xs,ys,rfl,k1,k2,f _ H1 q1 x1 s1 ⟨?_,λH2 A' hx Ac=>?_⟩⟩
     ·rw[Zg];exact XC (Nat.min_le_left _ _) n1
     ·rw[hV WE] at hx;have SY:=yn H2 hx q1.mu;have S2:=kr H2 hx q1.mu;have w1:=z1.re q1.mu hx Ac;have w2:=z2.re q1.mu hx Ac;refine⟨λi u hu=>?_,⟨xs,ys,SY,S2,?_⟩⟩
      ·rw[List.getElem?_zipWith] at hu;cases hA:as[i]? with
       |none=>rw[hA] at hu;cases hu
       |some ua=>cases hB:bs[i]? with
        |none=>rw[hA,hB] at hu;cases hu
        |some ub=>
         rw[hA,hB] at hu;cases hu;obtain⟨x,hx1,px⟩:=w1.get hA;obtain⟨y,hy1,py⟩:=w2.get hB;refine⟨⟨xs,ys,x,y,SY,S2,hx1,hy1⟩,λx' H' yl=>?_⟩;obtain⟨T,x2,y2,rfl,hT,rfl,g1,g2⟩:=yl;have ex:x2=x:=by have:=g1 xs SY;rw[hx1] at this;cases this;rfl
         have ey:y2=y:=by have:=g2 ys S2;rw[hy1] at this;cases this;rfl
         subst ex ey;have sm:=bQ hT (.tup [x2,y2]);refine⟨sm,?_⟩;unfold Rp;exact⟨T,_,rfl,ba,by have:WJ=16777216:=rfl;rw[this];simp,aC.cons (px.same sm) (aC.cons (py.same sm) aC.nil)⟩
      ·rw[Zg,←z1.length,←z2.length];rcases Nat.le_total as.length bs.length with z|z
       ·exact .inl (by rw[Yx z];exact WR _)
       ·exact .inr (by rw[Nat.min_eq_right z];exact WR _)
    ·cases e2
   ·cases e2
  ·exact f.elim⟩
end
end L2
namespace L2
section
variable {A:XD}{b:Bool}
theorem zj {x:V}{u:WM}{n:String}{tp:W7}(I:az X pins σ H s)(rx:aN x u)(ty:sf X.K H x n)(Jq:s.heap.get? tp=some {cls:=.type "tuple",data:=.seq ao.toArray k})(e:aco X.K (.type n) ao=some b)(h:∀tk,Q (.bool b) {s with toks:=tk}) :
  W4 (Xg X.prog X.w) A (call (.builtin "isinstance") [u,.ref tp]) Q E s:=by
 cases ty with
 |non=>cases (show u=Value.none from rx);exact YY PySem.W.kitx_none I.kIn True.intro Jq e (λz=>nomatch z) h
 |bl y=>cases (show u=Value.bool y from rx);exact YY PySem.W.kitx_bool I.kIn True.intro Jq e (λz=>nomatch z) h
 |int i=>obtain⟨t,q⟩:=(show ∃t,u=Value.int i t from rx);cases q;exact YY PySem.W.kitx_int I.kIn True.intro Jq e (λz=>nomatch z) h
 |str y=>obtain⟨t,q⟩:=(show ∃t,u=Value.str y t from rx);cases q;exact YY PySem.W.kitx_str I.kIn True.intro Jq e (λz=>nomatch z) h
 | @lst a xs ea=>
  cases (show u=Value.ref a from rx);obtain⟨_,_,n,_,h1⟩:=(show bu X.prog X.w H s.heap a (.lst xs) from I.hok a _ ea);exact YY aba I.kIn ⟨_,h1,rfl⟩ Jq e (λz=>nomatch z) h
 | @frz a ob xs ea=>
  cases (show u=Value.ref a from rx);obtain⟨_,_,_,n,_,h1⟩:=(show bu X.prog X.w H s.heap a (.frz ob (.lst xs)) from I.hok a _ ea);exact YY aba I.kIn ⟨_,h1,rfl⟩ Jq e (λz=>nomatch z) h
 | @tup a xs ea=>
  cases (show u=Value.ref a from rx);obtain⟨_,_,_,p,_⟩:=(show bu X.prog X.w H s.heap a (.tup xs) from I.hok a _ ea);obtain⟨o,h1,h2,_⟩:=p;exact YY PySem.W.kitx_tuple I.kIn ⟨o,h1,h2⟩ Jq e (λz=>nomatch z) h
 | @dK a aK ea=>
  cases (show u=Value.ref a from rx);obtain⟨_,_,vs,_,p⟩:=(show bu X.prog X.w H s.heap a (.dK aK) from I.hok a _ ea);obtain⟨o,es,ep,h1,h2,_⟩:=p;exact YY abb I.kIn ⟨o,h1,h2.1⟩ Jq e (λz=>nomatch z) h
 | @dT a aK ea=>
  cases (show u=Value.ref a from rx);obtain⟨_,_,xs,_,o,es,ep,h1,h2,_⟩:=(show bu X.prog X.w H s.heap a (.dT aK) from I.hok a _ ea);exact YY abb I.kIn ⟨o,h1,h2.1⟩ Jq e (λz=>nomatch z) h
theorem uU {m1 m2:String}(h1:m1∈["bool","int","str","list","tuple","dict"])(h2:m2∈["bool","int","str","list","tuple","dict"]) :
  dE X (.builtin "isinstance") (λxs H Q=>∃x n p,xs=[x,.ref p]/\H p=some (.tup [.ty m1,.ty m2])/\sf X.K H x n/\Q (.bl (d8 n m1||d8 n m2)) H):=by
 intro pins s σ H xs us Q I r h;obtain⟨x,n,p,rfl,hp,ty,q⟩:=h;obtain⟨u,w',rfl,rx,rt⟩:=v5 r;cases rt;obtain⟨_,ao,vs,_,k,hg⟩:=(show bu X.prog X.w H s.heap p (.tup [.ty m1,.ty m2]) from I.hok p _ hp);obtain⟨a,b,rfl,ra,rb⟩:=v5 vs;cases ra;cases rb;refine zj I rx ty hg (b:=d8 n m1||d8 n m2) ?_ λtk=>⟨.bl _,H,I.tok tk,rfl,q⟩;unfold aco aco aco;rw[DZ X.K ty.mem h1,DZ X.K ty.mem h2];cases d8 n m1<;>cases d8 n m2<;>rfl
end
section
variable {e:YO}{p1 p3 p4:Pos}{b1:Bool}{m1 m:Md}{g1:Ev->R (U×Ev)}{v:Option YO}{w:Option YO}
noncomputable def zk (T1 T2:String)(g:Ev->R (U×Ev)):Ev->R (U×Ev):=λρ=>(g ρ).bind λx=>if Cr x.1="script" then .stk else .ok (.bl (d8 (Cr x.1) T1||d8 (Cr x.1) T2),x.2)
theorem sf.re {x:V}{n:String}(h:sf K H x n)(k:∀a o,H a=some o->H' a=some o):sf K H' x n:=by
 cases h with
 |non=>exact .non
 |bl=>exact .bl _
 |int=>exact .int _
 |str=>exact .str _
 |lst e=>exact .lst (k _ _ e)
 |frz e=>exact .frz (k _ _ e)
 |tup e=>exact .tup (k _ _ e)
 |dK e=>exact .dK (k _ _ e)
 |dT e=>exact .dT (k _ _ e)
theorem ET {T1 T2:String}{x1 x2:Str}{c:Nat}(Vk:T1∈["bool","int","str","list","tuple","dict"])(Vl:T2∈["bool","int","str","list","tuple","dict"])(he:DE X G e b1 m1 g1)(zi:X.mg "isinstance"=none)(Vm:X.mg x1=none)(Vn:XB x1=some (.type T1))(Vo:X.mg x2=none)(Vp:XB x2=some (.type T2))(hg:Gl X "isinstance":=by rfl)(Rc:Gl X x1:=by rfl)(Vq:Gl X x2:=by rfl)
  (Vr:x1≠"__name__":=by decide) (Ad:(x1==("__debug__":Str))=false:=by decide) (NW:x2≠"__name__":=by decide) (BU:(x2==("__debug__":Str))=false:=by decide)
  (hs:W5 [e,.Tuple [.Name x1 p2,.Name x2 p3] c p4] X.env=(false,Z4 e X.env)::W5 [.Tuple [.Name x1 p2,.Name x2 p3] c p4] X.env:=by rfl)
  (bT:W5 [.Tuple [.Name x1 p2,.Name x2 p3] c p4] X.env=(false,Z4 (.Tuple [.Name x1 p2,.Name x2 p3] c p4) X.env)::W5 [] X.env:=by rfl)
  (QB:W5 [.Name x1 p2,.Name x2 p3] X.env=(false,Z4 (.Name x1 p2) X.env)::W5 [.Name x2 p3] X.env:=by rfl)
  (Vs:W5 [.Name x2 p3] X.env=(false,Z4 (.Name x2 p3) X.env)::W5 [] X.env:=by rfl)
  (oR:(Zl pos (W5 [.Tuple [.Name x1 p2,.Name x2 p3] c p4] X.env)).any (·.1)=false:=by rfl) :
  DE X G (.Call (.Name "isinstance" p1) [e,.Tuple [.Name x1 p2,.Name x2 p3] c p4] [] pos) b1 .S (zk T1 T2 g1):=
 ⟨(lT (uU (m1:=T1) (m2:=T2) Vk Vl) hg zi kI (eI he.un (eI (Dx (eI (ux (v:=.ty T1) Rc Vm Vn rfl Vr Ad) (eI (ux (v:=.ty T2) Vq Vo Vp rfl NW BU) jA Vs) QB)) jA bT) hs) (by decide) (by decide) hs oR).to λσ H Q h=>by
 obtain⟨Z,A,ρ,q,f⟩:=h;obtain⟨⟨u,ρ1⟩,e1,f⟩:=f.bind;refine⟨Z,A,ρ,q,?_⟩;rw[e1];intro v H1 q1 x1 s1 vm;dsimp only at f;split at f
 ·exact f.elim
 ·rename_i hn;exact⟨by show 2<=WJ;decide,λp hp=>⟨v,Cr u,p,rfl,ba,(JB vm.pk hn).re λa o z=>by rw[aS (bA z hp)];exact z,f _ _ (q1.same (bQ hp _)) (x1.trans (dR.same (bQ hp _))) (oY s1 (bQ hp _)) (vV.ofS jo)⟩⟩⟩
end
end L2
namespace L2
theorem nr {α:Sort _}{a b:α}(h:a=b):a=b:=h
noncomputable def look (o:Option (Option U))(ρ:Ev):R (U×Ev):=match o with
 |some (some u)=>.ok (u,ρ)
 |_=>.stk
noncomputable def Tt (u:U)(ρ:Ev):R (Bool×Ev):=match u with
 | .bl c=>.ok (c,ρ)
 |_=>.stk
noncomputable def QX (o:Option U):R U:=match o with
 |some u=>.ok u
 |none=>.stk
noncomputable def SR.seq (r:SR)(g:Ev->SR):SR:=match r with
 | .nx ρ=>g ρ
 |r=>r
noncomputable def SR.turn (r:SR)(g:Ev->SR):SR:=match r with
 | .nx ρ=>g ρ
 | .ct ρ=>g ρ
 | .bk ρ=>.nx ρ
 |r=>r
noncomputable def O5 (m:Md)(r:SR):R U:=match r with
 | .rt u _=>.ok u
 | .nx _=>if m=.S then .ok .non else .stk
 | .exc c u=>.exc c u
 |_=>.stk
noncomputable def io0 (u:U)(o:Option (Option U)):R (U×U):=match o with
 |some (some w)=>.ok (u,w)
 |_=>.stk
noncomputable def Mq (r:SR):R (U×U):=match r with
 | .rt u ρ=>io0 u ρ[0]?
 | .nx ρ=>io0 .non ρ[0]?
 | .exc c u=>.exc c u
 |_=>.stk
section
variable {w:U}{α β:Type}{g g1 g2 g3:Ev->R (U×Ev)}{h h1 h2:Ev->R (Bool×Ev)}{s s1 s2:Ev->SR}{ga:Ev->R (List U×Ev)}{m:Md}{ws:List U}
theorem JH:af i ρ=look ρ[i]? ρ:=nr rfl
theorem EU:look (some (some u)) ρ=.ok (u,ρ):=nr rfl
theorem Tu:gC u ρ=.ok (u,ρ):=nr rfl
theorem zm {a:α}{f:α->R β}:(R.ok a).bind f=f a:=nr rfl
theorem JI {f:α->R β}:(R.stk:R α).bind f=.stk:=nr rfl
theorem EV {a:α}{f:α->SR}:SR.of (R.ok a) f=f a:=nr rfl
theorem O6 {p:U->U->R U}:aZ p g1 g2 ρ=(g1 ρ).bind λx=>(g2 x.2).bind λy=>(p x.1 y.1).bind λz=>.ok (z,y.2):=nr rfl
theorem Tv:gB g ρ=(g ρ).bind λx=>Tt x.1 x.2:=nr rfl
theorem JJ {c:Bool}:Tt (.bl c) ρ=.ok (c,ρ):=nr rfl
theorem EW:RQ h1 h2 ρ=(h1 ρ).bind λx=>if x.1=true then h2 x.2 else .ok (false,x.2):=nr rfl
theorem JK:OQ h1 h2 ρ=(h1 ρ).bind λx=>if x.1=true then .ok (true,x.2) else h2 x.2:=nr rfl
theorem EX:D9 h ρ=(h ρ).bind λx=>.ok (!x.1,x.2):=nr rfl
theorem JL:LO g1 g2 ρ=(gB g1 ρ).bind λx=>if x.1=true then g2 x.2 else .ok (.bl false,x.2):=nr rfl
theorem O7:UI g1 g2 ρ=(gB g1 ρ).bind λx=>if x.1=true then .ok (.bl true,x.2) else g2 x.2:=nr rfl
theorem JM:RS g ρ=(gB g ρ).bind λx=>.ok (.bl (!x.1),x.2):=nr rfl
theorem O8:UJ h g1 g2 ρ=(h ρ).bind λx=>if x.1=true then g1 x.2 else g2 x.2:=nr rfl
noncomputable def Tw (p':U->U->R U)(g3:Ev->R (U×Ev))(y:U×Ev)(z:U):R (U×Ev):=match z with
 | .bl k=>if k=true then (g3 y.2).bind λw=>(p' y.1 w.1).bind λz'=>.ok (z',w.2) else .ok (.bl false,y.2)
 |_=>.stk
theorem AS {p p':U->U->R U}:LS p p' g1 g2 g3 ρ=(g1 ρ).bind λx=>(g2 x.2).bind λy=>(p x.1 y.1).bind λz=>Tw p' g3 y z:=nr rfl
theorem JN {p':U->U->R U}{y:U×Ev}{k:Bool}:Tw p' g3 y (.bl k)=if k=true then (g3 y.2).bind λw=>(p' y.1 w.1).bind λz'=>.ok (z',w.2) else .ok (.bl false,y.2):=nr rfl
theorem O9 {p:U->R U}:QL p g ρ=(g ρ).bind λx=>(p x.1).bind λz=>.ok (z,x.2):=nr rfl
theorem EY:aq ρ=.ok ([],ρ):=nr rfl
theorem AU:ag g ga ρ=(g ρ).bind λx=>(ga x.2).bind λy=>.ok (x.1::y.1,y.2):=nr rfl
theorem EZ:c9 ga ρ=(ga ρ).bind λx=>if x.1.length<=WJ then .ok (.tup x.1,x.2) else .stk:=nr rfl
theorem E1:l5 ga ρ=(ga ρ).bind λx=>if x.1.length<=WJ then .ok (.lst x.1,x.2) else .stk:=nr rfl
theorem O_ {p:List U->R U}:i0 p ga ρ=(ga ρ).bind λx=>(p x.1).bind λz=>.ok (z,x.2):=nr rfl
theorem Pa {f:List U->R U}:kz n f ga ρ=(ga ρ).bind λx=>(yS n f x.1).bind λz=>.ok (z,x.2):=nr rfl
theorem JO {f:List U->R α}(h:us.length=n):yS n f us=f us:=hZ h
noncomputable def Tx (n:Nat)(f:List U->R (U×U))(us:List U)(i:Nat)(ρ:Ev)(o:Option (Option U)):R (U×Ev):=match o with
 |some (some u0)=>(yS n f (u0::us)).bind λz=>.ok (z.1,ρ.set i (some z.2))
 |_=>.stk
theorem JP {f:List U->R (U×U)}:Tx n f us i ρ (some (some u))=(yS n f (u::us)).bind λz=>.ok (z.1,ρ.set i (some z.2)):=nr rfl
noncomputable def AV (o:Option (Option U)):Bool:=match o with
 |some (some _)=>true
 |_=>false
theorem AW:AV (some (some u))=true:=nr rfl
theorem Pb {f:List U->R (U×U)}:oZ n i f ga ρ=if AV ρ[i]? = true then (ga ρ).bind λx=>Tx n f x.1 i x.2 x.2[i]? else .stk:=nr rfl
noncomputable def R4 (i:Nat)(p:U->List U->R (U×U))(us:List U)(ρ:Ev)(o:Option (Option U)):R (U×Ev):=match o with
 |some (some u0)=>(p u0 us).bind λz=>.ok (z.1,ρ.set i (some z.2))
 |_=>.stk
theorem JQ {p:U->List U->R (U×U)}:R4 i p us ρ (some (some u))=(p u us).bind λz=>.ok (z.1,ρ.set i (some z.2)):=nr rfl
noncomputable def Tz (T:String)(i:Nat)(p:U->List U->R (U×U))(ga:Ev->R (List U×Ev))(ρ:Ev)(o:Option (Option U)):R (U×Ev):=match o with
 |some (some u1)=>if yU u1 T=true then (ga ρ).bind λx=>R4 i p x.1 x.2 x.2[i]? else .stk
 |_=>.stk
theorem JR {T:String}{p:U->List U->R (U×U)}:Tz T i p ga ρ (some (some u))=if yU u T=true then (ga ρ).bind λx=>R4 i p x.1 x.2 x.2[i]? else .stk:=nr rfl
theorem TB {T:String}{p:U->List U->R (U×U)}:gM T i p ga ρ=Tz T i p ga ρ ρ[i]? := nr rfl
theorem E2:yU (.lst us) "list"=true:=nr rfl
theorem AX:dG ρ=.ok (none,ρ):=nr rfl
noncomputable def TC (u:U)(ρ:Ev):R (Option Int×Ev):=match u with
 | .int i=>.ok (some i,ρ)
 |_=>.stk
theorem JS {k:Int}:TC (.int k) ρ=.ok (some k,ρ):=nr rfl
theorem AY:cV g ρ=(g ρ).bind λx=>TC x.1 x.2:=nr rfl
theorem Pc {p:U->Option Int->Option Int->R U}{lo hi:Ev->R (Option Int×Ev)}:qo p g lo hi ρ=(g ρ).bind λx=>(lo x.2).bind λl=>(hi l.2).bind λh=>(p x.1 l.1 h.1).bind λz=>.ok (z,h.2):=nr rfl
noncomputable def iH (T:String)(u:U)(ρ:Ev):R (U×Ev):=if Cr u="script" then .stk else .ok (.bl (d8 (Cr u) T),ρ)
theorem E3 {T:String}:nV T g ρ=(g ρ).bind λx=>iH T x.1 x.2:=nr rfl
theorem E4:fH ρ=.nx ρ:=nr rfl
theorem AZ:LV ρ=.bk ρ:=nr rfl
theorem E5:OU ρ=.ct ρ:=nr rfl
theorem JT:aR s1 s2 ρ=(s1 ρ).seq s2:=nr rfl
theorem E6:(SR.nx ρ).seq s=s ρ:=nr rfl
theorem E7:(SR.rt u ρ).seq s=.rt u ρ:=nr rfl
theorem E8:(SR.bk ρ).seq s=.bk ρ:=nr rfl
theorem E9:(SR.ct ρ).seq s=.ct ρ:=nr rfl
theorem E_:qr g ρ=SR.of (g ρ) λx=>.nx x.2:=nr rfl
theorem JU:cE g ρ=SR.of (g ρ) λx=>.rt x.1 x.2:=nr rfl
theorem JV:bB i g ρ=SR.of (g ρ) λx=>.nx (x.2.set i (some x.1)):=nr rfl
theorem JW {sg:U->Ev->R Ev}:RW sg g ρ=SR.of (g ρ) λx=>SR.of (sg x.1 x.2) .nx:=nr rfl
theorem JX:wA h s1 s2 ρ=SR.of (h ρ) λx=>if x.1=true then s1 x.2 else s2 x.2:=nr rfl
noncomputable def TF (i j:Nat)(ρ:Ev)(o:Option (Option U)):SR:=match o with
 |some (some u)=>.nx ((ρ.set j none).set i (some u))
 |_=>.stk
theorem Fb:wz i j ρ=TF i j ρ ρ[j]? := nr rfl
theorem JY:TF i j ρ (some (some u))=.nx ((ρ.set j none).set i (some u)):=nr rfl
noncomputable def Pd (i j:Nat)(us:List U)(ρ:Ev):SR:=match us with
 | [u,w]=>.nx ((ρ.set i (some u)).set j (some w))
 |_=>.stk
theorem JZ:HH i j ga ρ=SR.of (ga ρ) λx=>Pd i j x.1 x.2:=nr rfl
theorem Fc:Pd i j [u,w] ρ=.nx ((ρ.set i (some u)).set j (some w)):=nr rfl
noncomputable def QY (i:Nat)(v k:U)(ρ:Ev)(o:Option (Option U)):SR:=match k with
 | .int k=>match o with
  |some (some (.lst us))=>match Dg us.length k with
   |some j=>.nx (ρ.set i (some (.lst (us.set j v))))
   |none=>.stk
  |_=>.stk
 |_=>.stk
theorem Fd:Ay i g1 g2 ρ=SR.of (g1 ρ) λx=>if AV x.2[i]? = true then SR.of (g2 x.2) λy=>QY i x.1 y.1 y.2 y.2[i]? else .stk:=nr rfl
theorem Pe {k:Int}(h:Dg us.length k=some j):QY i w (.int k) ρ (some (some (.lst us)))=.nx (ρ.set i (some (.lst (us.set j w)))):=by
 unfold QY;dsimp only;rw[h]
noncomputable def Pf (i:Nat)(p:U->U->R U)(g:Ev->R (U×Ev))(ρ:Ev)(o:Option (Option U)):SR:=match o with
 |some (some u)=>SR.of (g ρ) λy=>SR.of (p u y.1) λz=>.nx (y.2.set i (some z))
 |_=>.stk
theorem J0 {p:U->U->R U}:RX i p g ρ=Pf i p g ρ ρ[i]? := nr rfl
theorem Fe {p:U->U->R U}:Pf i p g ρ (some (some u))=SR.of (g ρ) λy=>SR.of (p u y.1) λz=>.nx (y.2.set i (some z)):=nr rfl
theorem J1 {gi:Ev->R (List U×Ev)}{sg:U->Ev->R Ev}:m9 gi sg s ρ=SR.of (gi ρ) λx=>fY sg s x.1 x.2:=nr rfl
theorem A4 {sg:U->Ev->R Ev}:fY sg s [] ρ=.nx ρ:=nr rfl
theorem Ff:fY sg s (u::us) ρ=SR.of (sg u ρ) λρ1=>(s ρ1).turn (fY sg s us):=nr rfl
theorem A5:(SR.nx ρ).turn s=s ρ:=nr rfl
theorem A6:(SR.ct ρ).turn s=s ρ:=nr rfl
theorem A7:(SR.bk ρ).turn s=.nx ρ:=nr rfl
theorem A8:(SR.rt u ρ).turn s=.rt u ρ:=nr rfl
theorem pQ:fR h s (n+1) ρ=SR.of (h ρ) λx=>if x.1=true then (s x.2).turn (fR h s n) else .nx x.2:=nr rfl
noncomputable def uW (u:U)(ρ:Ev):R (List U×Ev):=match u with
 | .lst us=>.ok (us,ρ)
 | .tup us=>.ok (us,ρ)
 | .scr us=>.ok (us,ρ)
 |_=>.stk
theorem Fg:dO g ρ=(g ρ).bind λx=>uW x.1 x.2:=nr rfl
theorem qD:uW (.lst us) ρ=.ok (us,ρ):=nr rfl
theorem zo:uW (.tup us) ρ=.ok (us,ρ):=nr rfl
theorem Fh:uW (.scr us) ρ=.ok (us,ρ):=nr rfl
noncomputable def Mr (us:List U)(ρ:Ev):R (List U×Ev):=match us with
 | [.int j]=>if -1000000<=j/\j<=1000000 then .ok (aF 0 j.toNat,ρ) else .stk
 |_=>.stk
theorem Fi:gE ga ρ=(ga ρ).bind λx=>Mr x.1 x.2:=nr rfl
theorem Ms {k:Int}:Mr [.int k] ρ=if -1000000<=k/\k<=1000000 then .ok (aF 0 k.toNat,ρ) else .stk:=nr rfl
noncomputable def Fj (us:List U)(ρ:Ev):R (U×Ev):=match us with
 | [.int j]=>if wM 0 j=true then .ok (.lst (aF 0 (j-0).toNat),ρ) else .stk
 |_=>.stk
noncomputable def Fm (us:List U)(ρ:Ev):R (U×Ev):=match us with
 | [.int j]=>if wM 0 j=true then .ok (.tup (aF 0 (j-0).toNat),ρ) else .stk
 |_=>.stk
theorem Fo:Er ga ρ=(ga ρ).bind λx=>Fj x.1 x.2:=nr rfl
theorem Fp:Es ga ρ=(ga ρ).bind λx=>Fm x.1 x.2:=nr rfl
theorem J2 {k:Int}(h0:0<=k)(h1:k<=1000000):wM 0 k=true:=by
 unfold wM;simp only[W6,decide_eq_true_eq];lia
theorem Iq (n:Nat)(h:n<=1000000):Fj [.int n] ρ=.ok (.lst (aF 0 n),ρ):=by
 unfold Fj;dsimp only;rw[hZ (J2 (by lia) (by lia)),show ((n:Int)-0).toNat=n by lia]
theorem mm (n:Nat)(h:n<=1000000):Fm [.int n] ρ=.ok (.tup (aF 0 n),ρ):=by
 unfold Fm;dsimp only;rw[hZ (J2 (by lia) (by lia)),show ((n:Int)-0).toNat=n by lia]
theorem i_ (n:Nat)(h:n<=1000000):Mr [.int n] ρ=.ok (aF 0 n,ρ):=by
 rw[Ms,hZ (by lia)];rfl
theorem J3 {gi:Ev->R (List U×Ev)}{js:List (Option Nat)}{sg:U->Ev->R Ev}:jG gi js sg h g ρ=(gi ρ).bind λx=>(yt (vW js sg h g x.2) x.1).bind λys=>.ok (.lst ys,x.2):=nr rfl
theorem J5 {G:Gm}{gi:Ev->R (List U×Ev)}{js:List (Option Nat)}{sg:U->Ev->R Ev}:uN G gi js sg h g ρ=(gi ρ).bind λx=>(m_ G js sg h g x.1 x.2).bind λy=>.ok (.lst y.1,y.2):=nr rfl
theorem A9 {js:List (Option Nat)}{sg:U->Ev->R Ev}:vW js sg h g ρ u=(sg u (iP js ρ)).bind λρi=>(h ρi).bind λc=>if c.1=true then (g ρi).bind λy=>.ok (some y.1) else .ok none:=nr rfl
theorem Fq {G:Gm}{js:List (Option Nat)}{sg:U->Ev->R Ev}:m_ G js sg h g [] ρ=.ok ([],ρ):=nr rfl
theorem Mt:m_ G js sg h g (u::us) ρ=(sg u (iP js ρ)).bind λρi=>(h ρi).bind λc=>if c.1=true then (g c.2).bind λy=>(m_ G js sg h g us (wb G js y.2 ρ)).bind λr=>.ok (y.1::r.1,r.2) else m_ G js sg h g us (wb G js c.2 ρ):=nr rfl
theorem Fs:c8 ρ=.ok (true,ρ):=nr rfl
theorem J6:bH i u ρ=.ok (ρ.set i (some u)):=nr rfl
theorem Pg:Me ρ=.ok (.dct [] [],ρ):=nr rfl
theorem uX:fc m n s us=O5 m (s (cF n us)):=nr rfl
theorem A_:O5 m (.rt u ρ)=.ok u:=nr rfl
theorem Ft:wC n s us=Mq (s (cF n us)):=nr rfl
theorem Ba:Mq (.rt u ρ)=io0 u ρ[0]? := nr rfl
theorem J7:io0 u (some (some w))=.ok (u,w):=nr rfl
theorem w6 {ρ:Ev}:iP [] ρ=[]:=nr rfl
theorem tM {js:List (Option Nat)}:iP (none::js) ρ=none::iP js ρ:=nr rfl
theorem tN {js:List (Option Nat)}:iP (some j::js) ρ=(ρ[j]?).getD none::iP js ρ:=by
 unfold iP;rw[WD];congr 1;dsimp only;cases ρ[j]? <;> rfl
end
section
variable {i j k:Int}{ws:List U}{w:U}{lo:Option Int}
theorem Fu:cy (.int i) (.int j)=.ok (.int (i+j)):=nr rfl
theorem Fv:cy (.tup us) (.tup ws)=if us.length+ws.length<=WJ then .ok (.tup (us++ws)) else .stk:=nr rfl
theorem Fw:cy (.lst us) (.lst ws)=if us.length+ws.length<=WJ then .ok (.lst (us++ws)) else .stk:=nr rfl
theorem J8:Cm (.int i) (.int j)=.ok (.int (i-j)):=nr rfl
theorem J9:d_ (.int i) (.int j)=if iE i j=true then .ok (.int (i*j)) else .stk:=nr rfl
theorem zp:iQ (.int i) (.int j)=if wG i j=true then .ok (.int (i / j)) else .stk:=nr rfl
theorem J_:o9 (.int i) (.int j)=if decide (0<j)=true then .ok (.int (i % j)) else .stk:=nr rfl
theorem Ka:HP (.int i) (.int j)=if HN i j=true then .ok (.int (i ^ j.toNat)) else .stk:=nr rfl
theorem Kb:HQ (.int i)=.ok (.int (-i)):=nr rfl
theorem Ph:OW (.int i) (.int j)=.ok (.bl (decide (i<j))):=nr rfl
theorem Pj:UM (.int i) (.int j)=.ok (.bl (decide (i<=j))):=nr rfl
theorem Pl:QO (.int i) (.int j)=.ok (.bl (decide (j<i))):=nr rfl
theorem Pm:RY (.int i) (.int j)=.ok (.bl (decide (j<=i))):=nr rfl
theorem Kc:kJ (.lst us) (.int i)=QX (lU us i):=by show (match lU us i with|some z=>R.ok z|none=>.stk)=_;cases lU us i<;>rfl
theorem Kd:kJ (.tup us) (.int i)=QX (lU us i):=by show (match lU us i with|some z=>R.ok z|none=>.stk)=_;cases lU us i<;>rfl
theorem Ke:kJ (.scr us) (.int i)=QX (lU us i):=by show (match lU us i with|some z=>R.ok z|none=>.stk)=_;cases lU us i<;>rfl
theorem Kg:QX (some u)=.ok u:=nr rfl
theorem Kh:nU (.lst us) lo hi=.ok (.lst (i6 us lo hi)):=nr rfl
theorem Ki:nU (.tup us) lo hi=.ok (.tup (i6 us lo hi)):=nr rfl
theorem Kj:nU (.scr us) lo hi=.ok (.lst (i6 us lo hi)):=nr rfl
theorem Fx:jK [.lst us]=.ok (.int us.length):=nr rfl
theorem zq:jK [.tup us]=.ok (.int us.length):=nr rfl
theorem Fy:jK [.scr us]=.ok (.int us.length):=nr rfl
theorem Fz:fS [.lst us]=.ok (.tup us):=nr rfl
theorem FA:fS [.tup us]=.ok (.tup us):=nr rfl
theorem zu:tm [.lst us]=.ok (.lst us):=nr rfl
theorem FC:tm [.tup us]=.ok (.lst us):=nr rfl
theorem Kk {a b:Bool}{f:Bool->Bool}:R0 f (.bl a) (.bl b)=.ok (.bl (f (decide (a=b)))):=nr rfl
theorem Kl {f:Bool->Bool}:RZ f u .non=.ok (.bl (f (Jz u))):=nr rfl
theorem FD:wI [.int i,.int j]=.ok (.int (if j<i then j else i)):=nr rfl
theorem FE:AF [.int i,.int j]=.ok (.int (if j>i then j else i)):=nr rfl
theorem Pn {f:Bool->Bool}:QP f u w=(El u w).bind λb=>.ok (.bl (f b)):=nr rfl
theorem w9 (n:Nat):lU us (n:Int)=us[n]? := by
 unfold lU Dg;by_cases h:n<us.length
 ·rw[hZ (by lia),hZ (by lia)];rfl
 ·rw[hZ (by lia),hV (by lia)];rw[XY.mpr (by lia)];rfl
theorem Km:lU us 0=us[0]? := w9 0
theorem Kn:lU us 1=us[1]? := w9 1
theorem Ko:lU us 2=us[2]? := w9 2
theorem Po (h:0<us.length):Dg us.length 0=some 0:=by unfold Dg;rw[hZ (by lia),hZ (by lia)];rfl
theorem pR (h0:0<j)(h1:j<18446744073709551616):wG i j=true:=by unfold wG;simp[h0,h1]
theorem qE (h0:0<=i)(h1:i<18446744073709551616):iE i j=true:=by
 unfold iE;simp only[aaa,W6,decide_eq_true_eq];exact .inl ⟨by lia,by lia⟩
theorem ja (h0:0<=j)(h1:j<18446744073709551616):iE i j=true:=by
 unfold iE;simp only[aaa,W6,decide_eq_true_eq];exact .inr ⟨by lia,by lia⟩
end
end L2
namespace L2
theorem Bb {i:Nat}{w u:U}{us:List U}{ρ:Ev}:QY i w (.int 0) ρ (some (some (.lst (u::us))))=.nx (ρ.set i (some (.lst (w::us)))):=by
 rw[Pe (j:=0) (Po (by rw[WT];lia))];rfl
theorem Bc {ρ:Ev}:Mq (.nx ρ)=io0 .non ρ[0]? := rfl
theorem iR {G:Gm}{js:List (Option Nat)}{sg:U->Ev->R Ev}{ge:Ev->R (U×Ev)}{σ:Type}(ev:σ->Ev)(N:Nat)(I:List U->σ->Prop)
  (step:∀done u s,done.length<N->I done s->∃ρi y ρi' s',sg u (iP js (ev s))=.ok ρi/\ge ρi=.ok (y,ρi')/\wb G js ρi' (ev s)=ev s'/\I (done++[y]) s') :
  ∀(us done:List U) (s:σ),done.length+us.length<=N->I done s->∃ys s',m_ G js sg c8 ge us (ev s)=.ok (ys,ev s')/\ys.length=us.length/\I (done++ys) s'
 | [],done,s,_,h=>⟨[],s,rfl,rfl,by rw[Xt];exact h⟩
 |u::us,done,s,hl,h=>by
  rw[WT] at hl;obtain⟨ρi,y,ρi',s',e1,e2,e3,h'⟩:=step done u s (by lia) h;obtain⟨ys,NU,e4,e5,h''⟩:=iR ev N I step us (done++[y]) s' (by rw[WN,YF];lia) h';refine⟨y::ys,NU,?_,by rw[WT,WT,e5],by rw[W8] at h'';exact h''⟩;rw[Mt,e1,zm,Fs,zm,hZ rfl,e2,zm,e3,e4,zm]
theorem dB {s:Ev->SR}(I:Nat->Ev->Prop)(step:∀(i:Nat) (u:U) (ρ:Ev),us[i]? = some u->I i ρ->∃ρ1 ρ2,sg u ρ=.ok ρ1/\(s ρ1=.nx ρ2\/s ρ1=.ct ρ2)/\I (i+1) ρ2)(h:I 0 ρ) :
  ∃ρ',fY sg s us ρ=.nx ρ'/\I us.length ρ':=by
 have gen:∀(n i:Nat) (ρ:Ev),i+n=us.length->I i ρ->∃ρ',fY sg s (us.drop i) ρ=.nx ρ'/\I us.length ρ':=by
  intro n
  induction n with
  |zero=>
   intro i ρ hi h;have:i=us.length:=by lia
   subst this;rw[Zo];exact⟨ρ,rfl,h⟩
  |succ n ih=>
   intro i ρ hi h;have sP:i<us.length:=by lia
   obtain⟨ρ1,ρ2,e1,e2,h2⟩:=step i us[i] ρ (Wz sP) h;obtain⟨ρ',e3,h3⟩:=ih (i+1) ρ2 (by lia) h2;refine⟨ρ',?_,h3⟩;rw[XO sP,Ff,e1,EV];rcases e2 with e2|e2<;>(rw[e2];exact e3)
 have:=gen us.length 0 ρ (by lia) h
 rwa [ZZ] at this
theorem uY {f:U->R (Option U)}{g:U->U}:∀{us:List U},(∀u∈us,f u=.ok (some (g u)))->yt f us=.ok (us.map g)
 | [],_=>rfl
 |u::us,h=>by
  unfold yt;rw[h u WG,zm,uY λw hw=>h w (WI _ hw)];rfl
theorem CO (ns:List Int):jH (ns.map .int)=some (ns.map .int):=by
 induction ns with
 |nil=>unfold jH;rfl
 |cons n ns ih=>rw[WD];unfold jH;rw[ih];unfold qy;rfl
theorem zv (ns:List Int):ig (ns.map .int)=0:=by
 induction ns with
 |nil=>unfold ig;rfl
 |cons n ns ih=>rw[WD];unfold ig;rw[ih];unfold dX;rfl
noncomputable def aV (n:Nat):List Int:=(Xo n).map λi=>(i:Nat)
theorem gG (n:Nat):aF 0 n=(aV n).map .int:=by
 unfold aF aV;rw[Xb];exact Xl λi _=>by show U.int (0+(i:Int))=.int _;rw[Int.zero_add]
theorem fi (n:Nat):(aV n).length=n:=by unfold aV;rw[WA,XJ]
theorem zx {x:Int}:x∈aV n↔0<=x/\x<n:=by
 unfold aV;rw[WS];constructor
 ·rintro⟨i,h,rfl⟩;have:=XF.mp h;lia
 ·intro h;exact⟨x.toNat,XF.mpr (by lia),by lia⟩
theorem qF (us:List U)(c:U->Bool):Ep [.lst (us.map λu=>.bl (c u))]=.ok (.bl (us.all c)):=by
 have e:us.map (λu=>U.bl (c u))=(us.map c).map .bl:=by rw[Xb];rfl
 unfold Ep;dsimp only;rw[e,Co];dsimp only;rw[List.all_map];rfl
end L2
namespace L2
theorem inb (s:String){T:String}{u:U}{ρ:Ev}{b:Bool}(h:Cr u=s)(h1:¬s="script")(h2:d8 s T=b):iH T u ρ=.ok (.bl b,ρ):=by unfold iH;rw[h,hV h1,h2]
theorem nZ {ρ:Ev}:iH "bool" (.non) ρ=.ok (.bl false,ρ):=inb "NoneType" rfl (by decide) (by decide)
theorem qG {ρ:Ev}:iH "int" (.non) ρ=.ok (.bl false,ρ):=inb "NoneType" rfl (by decide) (by decide)
theorem qH {ρ:Ev}:iH "str" (.non) ρ=.ok (.bl false,ρ):=inb "NoneType" rfl (by decide) (by decide)
theorem n0 {ρ:Ev}:iH "list" (.non) ρ=.ok (.bl false,ρ):=inb "NoneType" rfl (by decide) (by decide)
theorem mn {ρ:Ev}:iH "tuple" (.non) ρ=.ok (.bl false,ρ):=inb "NoneType" rfl (by decide) (by decide)
theorem n9 {ρ:Ev}:iH "dict" (.non) ρ=.ok (.bl false,ρ):=inb "NoneType" rfl (by decide) (by decide)
theorem qI {b:Bool}{ρ:Ev}:iH "bool" (.bl b) ρ=.ok (.bl true,ρ):=inb "bool" rfl (by decide) (by decide)
theorem tP {b:Bool}{ρ:Ev}:iH "int" (.bl b) ρ=.ok (.bl true,ρ):=inb "bool" rfl (by decide) (by decide)
theorem tQ {b:Bool}{ρ:Ev}:iH "str" (.bl b) ρ=.ok (.bl false,ρ):=inb "bool" rfl (by decide) (by decide)
theorem qJ {b:Bool}{ρ:Ev}:iH "list" (.bl b) ρ=.ok (.bl false,ρ):=inb "bool" rfl (by decide) (by decide)
theorem n_ {b:Bool}{ρ:Ev}:iH "tuple" (.bl b) ρ=.ok (.bl false,ρ):=inb "bool" rfl (by decide) (by decide)
theorem qK {b:Bool}{ρ:Ev}:iH "dict" (.bl b) ρ=.ok (.bl false,ρ):=inb "bool" rfl (by decide) (by decide)
theorem og {i:Int}{ρ:Ev}:iH "bool" (.int i) ρ=.ok (.bl false,ρ):=inb "int" rfl (by decide) (by decide)
theorem qL {i:Int}{ρ:Ev}:iH "int" (.int i) ρ=.ok (.bl true,ρ):=inb "int" rfl (by decide) (by decide)
theorem qM {i:Int}{ρ:Ev}:iH "str" (.int i) ρ=.ok (.bl false,ρ):=inb "int" rfl (by decide) (by decide)
theorem oh {i:Int}{ρ:Ev}:iH "list" (.int i) ρ=.ok (.bl false,ρ):=inb "int" rfl (by decide) (by decide)
theorem mq {i:Int}{ρ:Ev}:iH "tuple" (.int i) ρ=.ok (.bl false,ρ):=inb "int" rfl (by decide) (by decide)
theorem oj {i:Int}{ρ:Ev}:iH "dict" (.int i) ρ=.ok (.bl false,ρ):=inb "int" rfl (by decide) (by decide)
theorem om {x:Str}{ρ:Ev}:iH "bool" (.str x) ρ=.ok (.bl false,ρ):=inb "str" rfl (by decide) (by decide)
theorem qN {x:Str}{ρ:Ev}:iH "int" (.str x) ρ=.ok (.bl false,ρ):=inb "str" rfl (by decide) (by decide)
theorem qO {x:Str}{ρ:Ev}:iH "str" (.str x) ρ=.ok (.bl true,ρ):=inb "str" rfl (by decide) (by decide)
theorem oo {x:Str}{ρ:Ev}:iH "list" (.str x) ρ=.ok (.bl false,ρ):=inb "str" rfl (by decide) (by decide)
theorem mw {x:Str}{ρ:Ev}:iH "tuple" (.str x) ρ=.ok (.bl false,ρ):=inb "str" rfl (by decide) (by decide)
theorem oq {x:Str}{ρ:Ev}:iH "dict" (.str x) ρ=.ok (.bl false,ρ):=inb "str" rfl (by decide) (by decide)
theorem ou {us:List U}{ρ:Ev}:iH "bool" (.tup us) ρ=.ok (.bl false,ρ):=inb "tuple" rfl (by decide) (by decide)
theorem qP {us:List U}{ρ:Ev}:iH "int" (.tup us) ρ=.ok (.bl false,ρ):=inb "tuple" rfl (by decide) (by decide)
theorem qQ {us:List U}{ρ:Ev}:iH "str" (.tup us) ρ=.ok (.bl false,ρ):=inb "tuple" rfl (by decide) (by decide)
theorem ow {us:List U}{ρ:Ev}:iH "list" (.tup us) ρ=.ok (.bl false,ρ):=inb "tuple" rfl (by decide) (by decide)
theorem my {us:List U}{ρ:Ev}:iH "tuple" (.tup us) ρ=.ok (.bl true,ρ):=inb "tuple" rfl (by decide) (by decide)
theorem ox {us:List U}{ρ:Ev}:iH "dict" (.tup us) ρ=.ok (.bl false,ρ):=inb "tuple" rfl (by decide) (by decide)
theorem oy {us:List U}{ρ:Ev}:iH "bool" (.lst us) ρ=.ok (.bl false,ρ):=inb "list" rfl (by decide) (by decide)
theorem qR {us:List U}{ρ:Ev}:iH "int" (.lst us) ρ=.ok (.bl false,ρ):=inb "list" rfl (by decide) (by decide)
theorem qS {us:List U}{ρ:Ev}:iH "str" (.lst us) ρ=.ok (.bl false,ρ):=inb "list" rfl (by decide) (by decide)
theorem oz {us:List U}{ρ:Ev}:iH "list" (.lst us) ρ=.ok (.bl true,ρ):=inb "list" rfl (by decide) (by decide)
theorem mB {us:List U}{ρ:Ev}:iH "tuple" (.lst us) ρ=.ok (.bl false,ρ):=inb "list" rfl (by decide) (by decide)
theorem oA {us:List U}{ρ:Ev}:iH "dict" (.lst us) ρ=.ok (.bl false,ρ):=inb "list" rfl (by decide) (by decide)
theorem oB {ρ:Ev}:iH "bool" (.dct [] []) ρ=.ok (.bl false,ρ):=inb "dict" rfl (by decide) (by decide)
theorem qT {ρ:Ev}:iH "int" (.dct [] []) ρ=.ok (.bl false,ρ):=inb "dict" rfl (by decide) (by decide)
theorem qU {ρ:Ev}:iH "str" (.dct [] []) ρ=.ok (.bl false,ρ):=inb "dict" rfl (by decide) (by decide)
theorem oC {ρ:Ev}:iH "list" (.dct [] []) ρ=.ok (.bl false,ρ):=inb "dict" rfl (by decide) (by decide)
theorem mC {ρ:Ev}:iH "tuple" (.dct [] []) ρ=.ok (.bl false,ρ):=inb "dict" rfl (by decide) (by decide)
theorem oD {ρ:Ev}:iH "dict" (.dct [] []) ρ=.ok (.bl true,ρ):=inb "dict" rfl (by decide) (by decide)
theorem aD:type_of% @JH/\type_of% @EU/\type_of% @Tu/\type_of% @zm/\type_of% @JI/\type_of% @EV/\type_of% @O6/\type_of% @Tv/\type_of% @JJ/\type_of% @EW/\type_of% @JK/\type_of% @EX/\type_of% @JL/\type_of% @O7/\type_of% @JM/\type_of% @O8/\type_of% @AS/\type_of% @O9/\type_of% @EY/\type_of% @AU/\type_of% @EZ/\type_of% @E1/\type_of% @O_/\type_of% @Pa/\type_of% @JP/\type_of% @AW/\type_of% @Pb/\type_of% @JQ/\type_of% @JR/\type_of% @TB/\type_of% @E2/\type_of% @AX/\type_of% @JS/\type_of% @AY/\type_of% @Pc/\type_of% @E3/\type_of% @E4/\type_of% @AZ/\type_of% @E5/\type_of% @JT/\type_of% @E6/\type_of% @E7/\type_of% @E8/\type_of% @E9/\type_of% @E_/\type_of% @JU/\type_of% @JV/\type_of% @JW/\type_of% @JX/\type_of% @Fb/\type_of% @JY/\type_of% @JZ/\type_of% @Fc/\type_of% @Fd/\type_of% @J0/\type_of% @Fe/\type_of% @J1/\type_of% @A4/\type_of% @A5/\type_of% @A6/\type_of% @A7/\type_of% @A8/\type_of% @Fg/\type_of% @qD/\type_of% @zo/\type_of% @Fh/\type_of% @Fi/\type_of% @Fo/\type_of% @Fp/\type_of% @J3/\type_of% @J5/\type_of% @A9/\type_of% @Fq/\type_of% @Fs/\type_of% @J6/\type_of% @Pg/\type_of% @uX/\type_of% @A_/\type_of% @Ft/\type_of% @Ba/\type_of% @J7/\type_of% @w6/\type_of% @tM/\type_of% @tN/\type_of% @Fu/\type_of% @Fv/\type_of% @Fw/\type_of% @J8/\type_of% @J9/\type_of% @zp/\type_of% @J_/\type_of% @Ka/\type_of% @Kb/\type_of% @Ph/\type_of% @Pj/\type_of% @Pl/\type_of% @Pm/\type_of% @Kc/\type_of% @Kd/\type_of% @Ke/\type_of% @Kg/\type_of% @Kh/\type_of% @Ki/\type_of% @Kj/\type_of% @Fx/\type_of% @zq/\type_of% @Fy/\type_of% @Fz/\type_of% @FA/\type_of% @zu/\type_of% @FC/\type_of% @Kk/\type_of% @Kl/\type_of% @FD/\type_of% @FE/\type_of% @Pn/\type_of% @Km/\type_of% @Kn/\type_of% @Ko/\type_of% @JN/\type_of% @nZ/\type_of% @qG/\type_of% @qH/\type_of% @n0/\type_of% @mn/\type_of% @n9/\type_of% @qI/\type_of% @tP/\type_of% @tQ/\type_of% @qJ/\type_of% @n_/\type_of% @qK/\type_of% @og/\type_of% @qL/\type_of% @qM/\type_of% @oh/\type_of% @mq/\type_of% @oj/\type_of% @om/\type_of% @qN/\type_of% @qO/\type_of% @oo/\type_of% @mw/\type_of% @oq/\type_of% @ou/\type_of% @qP/\type_of% @qQ/\type_of% @ow/\type_of% @my/\type_of% @ox/\type_of% @oy/\type_of% @qR/\type_of% @qS/\type_of% @oz/\type_of% @mB/\type_of% @oA/\type_of% @oB/\type_of% @qT/\type_of% @qU/\type_of% @oC/\type_of% @mC/\type_of% @oD/\type_of% @Bb/\type_of% @Bc:=
 ⟨@JH,@EU,@Tu,@zm,@JI,@EV,@O6,@Tv,@JJ,@EW,@JK,@EX,@JL,@O7,@JM,@O8,@AS,@O9,@EY,@AU,@EZ,@E1,@O_,@Pa,@JP,@AW,@Pb,@JQ,@JR,@TB,@E2,@AX,@JS,@AY,@Pc,@E3,@E4,@AZ,@E5,@JT,@E6,@E7,@E8,@E9,@E_,@JU,@JV,@JW,@JX,@Fb,@JY,@JZ,@Fc,@Fd,@J0,@Fe,@J1,@A4,@A5,@A6,@A7,@A8,@Fg,@qD,@zo,@Fh,@Fi,@Fo,@Fp,@J3,@J5,@A9,@Fq,@Fs,@J6,@Pg,@uX,@A_,@Ft,@Ba,@J7,@w6,@tM,@tN,@Fu,@Fv,@Fw,@J8,@J9,@zp,@J_,@Ka,@Kb,@Ph,@Pj,@Pl,@Pm,@Kc,@Kd,@Ke,@Kg,@Kh,@Ki,@Kj,@Fx,@zq,@Fy,@Fz,@FA,@zu,@FC,@Kk,@Kl,@FD,@FE,@Pn,@Km,@Kn,@Ko,@JN,@nZ,@qG,@qH,@n0,@mn,@n9,@qI,@tP,@tQ,@qJ,@n_,@qK,@og,@qL,@qM,@oh,@mq,@oj,@om,@qN,@qO,@oo,@mw,@oq,@ou,@qP,@qQ,@ow,@my,@ox,@oy,@qR,@qS,@oz,@mB,@oA,@oB,@qT,@qU,@oC,@mC,@oD,@Bb,@Bc⟩
end L2
namespace Hc.Dw
def ju (h:ZG)(a:W7)(ds:Array acH)(ep:Nat):Prop:=∃o,h.get? a=some o/\o.ExactDict/\o.data=.dict ds ep
theorem ju.ty (x:ju s.heap a ds ep):s.TypeIs (.ref a) "dict":=by
 obtain⟨o,e,c,_⟩:=x;exact⟨o,e,c.1⟩
theorem ju.at (x:ju h a ds ep)(e:∀o,h.get? a=some o->h'.get? a=some o):ju h' a ds ep:=by
 obtain⟨o,q,r⟩:=x;exact⟨o,e o q,r⟩
theorem ju.lt (x:ju h a ds ep):a<h.objs.size:=by obtain⟨o,e,_⟩:=x;exact WX e
section
variable {A:XD}{d vw:W7}
theorem Pp (lo:(d==Ys)=false)(x:ju s.heap d ds ep)(q:Q (.ref s.heap.objs.size) {s with heap:=s.heap.push {cls:=.type "dict_keyiterator",data:=.fields #[.ref d,.int 0 0,.int ds.size 0,.int ep 0]}}):W4 (Xg prog w) A (pyIter (.ref d)) Q E s:=by
 have ty:=x.ty;obtain⟨od,e1,e2,e3⟩:=x;refine aam ty F.slot_dict_iter (Xr F.slot_dict_iter ty F.entry_dict_iter ?_ (F.args_dict_iter_1 _));unfold Builtin.«dict.__iter__»;refine Wy ?_;unfold Builtin.Dict.dictSlotNone;refine Wy (aad ty ?_);change W4 _ _ (pure (Value.ref d)) _ _ s;refine WB ?_;change W4 _ _ (YZ d >>= _) _ _ s;unfold YZ;rw[hV (by rw[lo];exact WE)];refine Wy (WB (Wy (Zd e1 e3 (Wy (aae e1 e3 ?_)))));refine Wy (Xk (WB ⟨_,rfl,"dict_keyiterator",_,⟨_,WQ _ rfl,rfl⟩,F.slot_dict_keyiterator_next.lookup,?_⟩));simpa [abr] using q
theorem Pq {Q:Option WM->WY->Prop}(t:s.heap.IsKeyIter it d i ds.size ep)(x:ju s.heap d ds ep)(hi:i<ds.size)
  (q:∀h',h'.IsKeyIter it d (i+1) ds.size ep->Yg it s.heap h'->Q (some ds[i].key) {s with heap:=h'}):W4 (Xg prog w) A (aaI (.ref it)) Q E s:=by
 have ty:=t.typeIs;obtain⟨oi,i1,i2,i3⟩:=t;obtain⟨od,e1,e2,e3⟩:=x;unfold aaI;refine Wy (Zw (Xy (name:=YC "__next__") ty Y6 (Xr Y6 ty abD ?_ (abx _))));refine Wy (WB (Wy (Wy ?_)))
 first|refine Wy (Y3 ty (WB ?_))|refine Wy (ZN ty (WB ?_))
 refine Wy (aat i1 i3 ?_);simp only[show YG "dict_keyiterator"=false by decide,Xq,if_false];change W4 _ _ (if (Value.ref d==Value.none)=true then _ else _) _ _ s;rw[hV (show ¬((Value.ref d==Value.none)=true) from WE)];refine Wy (WB (Wy (Zd e1 e3 ?_)));rw[hV (by simp)];refine Wy (WB (Wy (aae e1 e3 ?_)));rw[hV (by simp)];refine WB ?_;simp only[show ¬((i:Int)<0) from by lia,if_false,Xm,Xf hi];refine Wy ?_
 first|refine Wy (Y3 ty (WB ?_))|refine Wy (ZN ty (WB ?_))
 refine Wy (wpAny_isOneOf_keyiter ty ?_);change W4 _ _ (setField (.ref it) 1 (abr ((i:Int)+1)) >>= _) _ _ s;refine Wy (ZC i1 i3 (by simp) ?_);have t':(s.heap.update it (Obj.mapFields (·.setIfInBounds 1 (abr ((i:Int)+1))))).IsKeyIter it d (i+1) ds.size ep:=
  ⟨_,YE _ i1 (aac (YM i3 _)),(abj ..).trans i2,by rw[YM i3];simp[abr]⟩
 refine Wy (Yl (Wy ?_));refine wpAny_isOneOf_keyiter (s:={s with heap:=s.heap.update it (Obj.mapFields (·.setIfInBounds 1 (abr ((i:Int)+1))))}) t'.typeIs ?_;change W4 _ _ (pure ds[i].key) _ _ _;exact WB (WB ⟨_,rfl,WB (q _ t' (XZ ..))⟩)
theorem Pr {Q:Option WM->WY->Prop}(hh:A.handled=none)(t:s.heap.IsKeyIter it d i ds.size ep)(x:ju s.heap d ds ep)(hi:ds.size<=i)
  (q:∀h',Heap.ExtBut it s.heap h'->Q none {s with heap:=h'}):W4 (Xg prog w) A (aaI (.ref it)) Q E s:=by
 have ty:=t.typeIs;obtain⟨oi,i1,i2,i3⟩:=t;obtain⟨od,e1,e2,e3⟩:=x;unfold aaI;refine Wy (Zw (Xy (name:=YC "__next__") ty Y6 (Xr Y6 ty abD ?_ (abx _))));refine Wy (WB (Wy (Wy ?_)))
 first|refine Wy (Y3 ty (WB ?_))|refine Wy (ZN ty (WB ?_))
 refine Wy (aat i1 i3 ?_);simp only[show YG "dict_keyiterator"=false by decide,Xq,if_false];change W4 _ _ (if (Value.ref d==Value.none)=true then _ else _) _ _ s;rw[hV (show ¬((Value.ref d==Value.none)=true) from WE)];refine Wy (WB (Wy (Zd e1 e3 ?_)));rw[hV (by simp)];refine Wy (WB (Wy (aae e1 e3 ?_)));rw[hV (by simp)];refine WB ?_;simp only[show ¬((i:Int)<0) from by lia,if_false,Xm,Z2 hi];refine Wy ?_
 first|refine Wy (Y3 ty (WB ?_))|refine Wy (ZN ty (WB ?_))
 change W4 _ _ (setField (.ref it) 0 .none >>= _) _ _ s;refine Wy (ZC i1 i3 (by simp) ?_);change W4 _ _ (newExc (.type "StopIteration") [] >>= _) _ _ _;refine Wy ?_;simp only[newExc,newTuple];refine Wy (Xk (hd:=by size_fits) ?_);refine Wy (m:=ZD _ _) (aaD (a:=Value.none) (by first|rfl|(simp only[ZD];rfl)) (Xk (hd:=by size_fits) ?_));simp only[raiseNew];refine Wy (wpAny_handled ?_);rw[show A.in1.handled=none from hh];refine Wy (WB (wpAny_throw ?_));refine Wy (ZV (b:=true) (T:="StopIteration") ⟨_,WQ _ rfl,rfl⟩ acn ?_);exact WB (q _ (((XZ ..).extBut.push _).push _))
theorem TH (lo:(d==Ys)=false)(x:ju s.heap d ds ep)(q:∀h',h'.IsValuesView s.heap.objs.size d->(∀b o,s.heap.get? b=some o->h'.get? b=some o)->Q (.ref s.heap.objs.size) {s with heap:=h'}) :
  W4 (Xg prog w) A (Builtin.«dict.values» ⟨[.ref d],[]⟩) (λf s'=>∃v,f=.done (.ret v)/\Q v s') E s:=by
 refine Wy ?_;unfold Builtin.Dict.noArgs;refine Wy (aad x.ty ?_);change W4 _ _ (pure d) _ _ s;refine WB ?_;change W4 _ _ (YZ d >>= _) _ _ s;unfold YZ;rw[hV (by rw[lo];exact WE)];exact Wy (WB (Wy (Xk (WB ⟨_,rfl,q _ ⟨_,WQ _ rfl,rfl,rfl⟩ λb o e=>WC _ e⟩))))
theorem Pt (lo:(d==Ys)=false)(x:ju s.heap d ds ep)(q:∀h',h'.IsItemsView s.heap.objs.size d->(∀b o,s.heap.get? b=some o->h'.get? b=some o)->Q (.ref s.heap.objs.size) {s with heap:=h'}) :
  W4 (Xg prog w) A (Builtin.«dict.items» ⟨[.ref d],[]⟩) (λf s'=>∃v,f=.done (.ret v)/\Q v s') E s:=by
 unfold Builtin.«dict.items»;refine Wy ?_;unfold Builtin.Dict.noArgs;refine Wy (aad x.ty ?_);change W4 _ _ (pure d) _ _ s;refine WB ?_;change W4 _ _ (YZ d >>= _) _ _ s;unfold YZ;rw[hV (by rw[lo];exact WE)];exact Wy (WB (Wy (Xk (WB ⟨_,rfl,q _ ⟨_,WQ _ rfl,rfl,rfl⟩ λb o e=>WC _ e⟩))))
theorem Pu (hv:s.heap.IsItemsView vw d)(x:ju s.heap d ds ep)(q:∀h',Z0 h' s.heap.objs.size d 0 ds.size ep .none .none->(∀b o,s.heap.get? b=some o->h'.get? b=some o)->Q (.ref s.heap.objs.size) {s with heap:=h'}):W4 (Xg prog w) A (pyIter (.ref vw)) Q E s:=by
 have ty:=hv.typeIs;obtain⟨ov,v1,v2,v3⟩:=hv;obtain⟨od,e1,e2,e3⟩:=x;refine aam ty F.slot_dict_items_iter (Xr F.slot_dict_items_iter ty F.entry_dict_items_iter ?_ (F.args_dict_items_iter_1 _));unfold Builtin.«dict_items.__iter__»;refine Wy (WB (Wy ?_));unfold Builtin.Dict_items.dictOf;refine Wy (Yj v1 v3 (x:=.ref d) rfl (WB (Wy ?_)));unfold Builtin.Dict_items.newIterator;refine Wy (Zd e1 e3 (Wy (aae e1 e3 ?_)));simp only[show YG "dict_itemiterator"=true by decide,if_true];refine Xk (WB ⟨_,rfl,"dict_itemiterator",_,⟨_,WQ _ rfl,rfl⟩,F.slot_dict_itemiterator_next.lookup,?_⟩)
  (by simp only[sizeOk,aaE,WK,WN,WT,aaR,YI];lia)
 exact q _ (by
  have:=WQ s.heap (o:={cls:=.type "dict_itemiterator",data:=.fields #[.none,.bool false,.ref d,.int 0 0,.int ds.size 0,.int ep 0,.none,.none]}) rfl;unfold Z0;simpa [abr,aaE] using this) λb o e=>WC _ e
theorem Pw {ok ov:WM}{Q:Option WM->WY->Prop}(t:Z0 s.heap it d i ds.size ep ok ov)(x:ju s.heap d ds ep)(hi:i<ds.size)
  (q:∀h',IsItemIterOut h' it d (i+1) ds.size ep ds[i].key ds[i].val s.heap.objs.size->h'.get? s.heap.objs.size=some {cls:=.type "tuple",data:=.seq #[ds[i].key,ds[i].val]} ->
   (∀b o,b≠it->s.heap.get? b=some o->h'.get? b=some o)->Q (some (.ref s.heap.objs.size)) {s with heap:=h'}):W4 (Xg prog w) A (aaI (.ref it)) Q E s:=by
 obtain⟨hp,g,dr,tk,os⟩:=s;have ty:Shared.TypeIs ⟨hp,g,dr,tk,os⟩ (.ref it) "dict_itemiterator":=⟨_,t,rfl⟩;obtain⟨od,e1,e2,e3⟩:=x;unfold aaI;refine Wy (Zw (Xy (name:=YC "__next__") ty Y4 (Xr Y4 ty aby ?_ (abk _))));refine Wy (WB (Wy (Wy ?_)))
 first|refine Wy (Y0 ty (WB ?_))|refine Wy (ZE ty (WB ?_))
 refine Wy (aat t rfl ?_);simp only[show YG "dict_itemiterator"=true by decide,if_true];change W4 _ _ (if (Value.ref d==Value.none)=true then _ else _) _ _ _;rw[hV (show ¬((Value.ref d==Value.none)=true) from WE)];refine Wy (WB (Wy (Zd e1 e3 ?_)));rw[hV (by simp)];refine Wy (WB (Wy (aae e1 e3 ?_)));rw[hV (by simp)];refine WB ?_;simp only[show ¬((i:Int)<0) from by lia,if_false,Xm,Xf hi];refine Wy ?_
 first|refine Wy (Y0 ty (WB ?_))|refine Wy (ZE ty (WB ?_))
 refine Wy (aa8 ty ?_);change W4 _ _ (setField (.ref it) 3 (abr ((i:Int)+1)) >>= _) _ _ ⟨hp,g,dr,tk,os⟩;refine Wy (X6 t (by simp) λg1 t1 b1=>?_)
 replace b1:Yg it hp g1:=b1
 replace t1:Z0 g1 it d (i+1) ds.size ep ok ov:=by
  have z:((i+1:Nat):Int)=(i:Int)+1:=by lia
  unfold Z0;rw[z];simpa [abr] using t1
 have Uq:Shared.TypeIs ⟨g1,g,dr,tk,os⟩ (.ref it) "dict_itemiterator":=⟨_,t1,rfl⟩;refine Wy (Yl (Wy (aa8 Uq (Wy (aa8 Uq ?_)))));change W4 _ _ (aa5 (.ref it) 6 ds[i].key ds[i].val) _ _ ⟨g1,g,dr,tk,os⟩;unfold aa5;refine Wy (wpAny_newTuple ?_);have t2:Z0 (g1.push {cls:=.type "tuple",data:=.seq #[ds[i].key,ds[i].val]}) it d (i+1) ds.size ep ok ov:=WC _ t1;have n1:g1.objs.size=hp.objs.size:=b1.1;have lt:it<hp.objs.size:=WX t;have u2:(g1.push {cls:=.type "tuple",data:=.seq #[ds[i].key,ds[i].val]}).get? hp.objs.size=some {cls:=.type "tuple",data:=.seq #[ds[i].key,ds[i].val]}:=by rw[←n1];exact WQ _ rfl
 have k2:∀b o,b≠it->hp.get? b=some o->(g1.push {cls:=.type "tuple",data:=.seq #[ds[i].key,ds[i].val]}).get? b=some o:=λb o hb e=>WC _ (b1.extBut b o hb e);change W4 _ _ (aaF (.ref it) >>= _) _ _ ⟨g1.push {cls:=.type "tuple",data:=.seq #[ds[i].key,ds[i].val]},g,dr,tk,os⟩;rw[n1];generalize g1.push {cls:=.type "tuple",data:=.seq #[ds[i].key,ds[i].val]}=g2 at t2 u2 k2 ⊢;refine Wy ?_;unfold aaF;refine Wy (Yj t2 rfl (x:=.none) rfl (WB ?_));simp only[if_true];refine Wy (Yj t2 rfl (x:=ok) rfl (Wy (Yj t2 rfl (x:=ov) rfl ?_)));refine Wy (X6 t2 (by simp) λg3 t3 b3=>?_)
 replace b3:Yg it g2 g3:=b3
 replace t3:Z0 g3 it d (i+1) ds.size ep ds[i].key ov:=t3
 refine Wy (X6 t3 (by simp) λg4 t4 b4=>?_)
 replace b4:Yg it g3 g4:=b4
 replace t4:Z0 g4 it d (i+1) ds.size ep ds[i].key ds[i].val:=t4
 refine Wy (X6 t4 (by simp) λg5 t5 b5=>?_)
 replace b5:Yg it g4 g5:=b5
 replace t5:IsItemIterOut g5 it d (i+1) ds.size ep ds[i].key ds[i].val hp.objs.size:=t5
 refine Wy (X6 t5 (by simp) λg6 t6 b6=>?_)
 replace b6:Yg it g5 g6:=b6
 replace t6:IsItemIterOut g6 it d (i+1) ds.size ep ds[i].key ds[i].val hp.objs.size:=t6
 have up:∀b o,b≠it->g2.get? b=some o->g6.get? b=some o:=λb o hb e=>b6.extBut b o hb (b5.extBut b o hb (b4.extBut b o hb (b3.extBut b o hb e)));exact Wy (wpAny_letGo (WB (WB ⟨_,rfl,WB (q g6 t6 (up _ _ (ZP lt) u2) λb o hb e=>up b o hb (k2 b o hb e))⟩)))
theorem Px {ok ov:WM}{Q:Option WM->WY->Prop}(hh:A.handled=none)(t:Z0 s.heap it d i ds.size ep ok ov)(x:ju s.heap d ds ep)(hi:ds.size<=i)
  (q:∀h',Heap.ExtBut it s.heap h'->Q none {s with heap:=h'}):W4 (Xg prog w) A (aaI (.ref it)) Q E s:=by
 have ty:s.TypeIs (.ref it) "dict_itemiterator":=⟨_,t,rfl⟩;obtain⟨od,e1,e2,e3⟩:=x;unfold aaI;refine Wy (Zw (Xy (name:=YC "__next__") ty Y4 (Xr Y4 ty aby ?_ (abk _))));refine Wy (WB (Wy (Wy ?_)))
 first|refine Wy (Y0 ty (WB ?_))|refine Wy (ZE ty (WB ?_))
 refine Wy (aat t rfl ?_);simp only[show YG "dict_itemiterator"=true by decide,if_true];change W4 _ _ (if (Value.ref d==Value.none)=true then _ else _) _ _ s;rw[hV (show ¬((Value.ref d==Value.none)=true) from WE)];refine Wy (WB (Wy (Zd e1 e3 ?_)));rw[hV (by simp)];refine Wy (WB (Wy (aae e1 e3 ?_)));rw[hV (by simp)];refine WB ?_;simp only[show ¬((i:Int)<0) from by lia,if_false,Xm,Z2 hi];refine Wy ?_
 first|refine Wy (Y0 ty (WB ?_))|refine Wy (ZE ty (WB ?_))
 change W4 _ _ (setField (.ref it) 2 .none >>= _) _ _ s;refine Wy (ZC t rfl (by simp) ?_);change W4 _ _ (newExc (.type "StopIteration") [] >>= _) _ _ _;refine Wy ?_;simp only[newExc,newTuple];refine Wy (Xk (hd:=by size_fits) ?_);refine Wy (m:=ZD _ _) (aaD (a:=Value.none) (by first|rfl|(simp only[ZD];rfl)) (Xk (hd:=by size_fits) ?_));simp only[raiseNew];refine Wy (wpAny_handled ?_);rw[show A.in1.handled=none from hh];refine Wy (WB (wpAny_throw ?_));refine Wy (ZV (b:=true) (T:="StopIteration") ⟨_,WQ _ rfl,rfl⟩ acn ?_);exact WB (q _ (((XZ ..).extBut.push _).push _))
end
end Hc.Dw
namespace L2
open Hc.Dw
theorem qV {α β:Type}{R:α->β->Prop}:∀{xs:List α} {ys:List β} {i:Nat} {y:β},ab6 R xs ys->ys[i]? = some y->∃x,xs[i]? = some x/\R x y
 |_,_,_,_,.nil,h=>by simp at h
 |x::xs,y'::ys,0,y,.cons r t,h=>by simp at h;subst h;exact⟨x,by simp,r⟩
 |x::xs,y'::ys,i+1,y,.cons r t,h=>by
  obtain⟨x',m,q⟩:=qV t (i:=i) (by simpa using h);exact⟨x',by simpa using m,q⟩
theorem az.rawD (I:az X pins σ H s)(q:H a=some (DN a ep es)):(a==Ys)=false/\∃ds,ju s.heap a ds ep/\ds.size=es.length/\∀(i:Nat) (hi:i<ds.size),∃e,es[i]? = some e/\ds[i].key=.ref e.2.1/\aN e.2.2 ds[i].val:=by
 obtain⟨⟨l,o,ds,xs,h1,h2,h3,h4,h5⟩,_⟩:=I.hok a _ q;have n1:ds.size=es.length:=by rw[←WO,h5,WA,aaf h4]
 refine⟨l,ds,⟨o,h1,h2,h3⟩,n1,λi hi=>?_⟩;have e1:ds.toList[i]? = some ds[i]:=by rw[W9];exact getElem?_pos ds i hi
 rw[h5,W3] at e1;cases e2:xs[i]? with
 |none=>rw[e2] at e1;cases e1
 |some x=>
  rw[e2] at e1;have e3:OL x=ds[i]:=by injection e1
  obtain⟨e,m,r⟩:=qV h4 e2;refine⟨e,m,?_,?_⟩
  ·rw[←e3,r.2.1];rfl
  ·rw[←e3];exact r.2.2
noncomputable def UO (a:W7)(ep:Nat)(es:List (List U×W7×V)):It:=
 ⟨λi H=>H a=some (DN a ep es)/\i<es.length,λi H v H'=>H'=H/\∃e,es[i]? = some e/\v=.ref e.2.1,λi H=>H a=some (DN a ep es)/\es.length<=i⟩
noncomputable def UP (a:W7)(ep:Nat)(es:List (List U×W7×V)):It:=
 ⟨λi H=>H a=some (DN a ep es)/\i<es.length,λi H v H'=>H'=H/\∃e,es[i]? = some e/\v=e.2.2,λi H=>H a=some (DN a ep es)/\es.length<=i⟩
noncomputable def R5 (a:W7)(ep:Nat)(es:List (List U×W7×V)):It:=
 ⟨λi H=>H a=some (DN a ep es)/\i<es.length,λi H v H'=>∃T e,v=.ref T/\H T=none/\es[i]? = some e/\H'=bV H T (.tup [.ref e.2.1,e.2.2]),λi H=>H a=some (DN a ep es)/\es.length<=i⟩
theorem qW:entryFor table "dict_itemiterator.__iter__"=some Builtin.«dict_keyiterator.__iter__» :=
 entryFor_alias (id':="dict_keyiterator.__iter__") (by kernel_rfl) rfl (by decide+kernel) (by kernel_rfl)
theorem zy {A:XD}{ok ov:WM}(st:Z0 s.heap it a i n ep ok ov)(h:Q (.ref it) s):W4 (Xg P w) A (pyIter (.ref it)) Q E s:=by
 have ty:s.TypeIs (.ref it) "dict_itemiterator":=⟨_,st,rfl⟩;refine aam ty abE (Xr abE ty qW ?_ (F.args_dict_itemiterator_iter_1 _));change W4 _ _ (ret (.ref it)) _ _ s;exact WB ⟨_,rfl,"dict_itemiterator",_,ty,F.slot_dict_itemiterator_next.lookup,h⟩
theorem zA:yA P w K (.Tuple elts kt tp) (R5 a ep es) [it] it (λi h=>∃ok ov,Z0 h it a i es.length ep ok ov) where
 mem:=by simp
 obj:=λi h st b hb=>by
  have e:b=it:=by simpa using hb
  subst e;obtain⟨ok,ov,q⟩:=st;exact⟨_,q,λv z=>by cases z⟩
 keep:=λi h h' ⟨ok,ov,q⟩ k=>⟨ok,ov,k it (by simp) _ q⟩
 item:=by
  intro X hP hw hK hc i pins s σ H E I hf st hg;subst hP hw hK;obtain⟨hq,hi⟩:=hg;obtain⟨_,ds,rd,n,at_⟩:=I.rawD hq;obtain⟨ok,ov,st⟩:=st;rw[←n] at st hi;obtain⟨e,m,ek,rv⟩:=at_ i hi;have lt:it<s.heap.objs.size:=WX st;refine Pw st rd hi λh' aH tu kp=>⟨_,rfl,?_⟩;refine wpAny_letOwnedTupleGo_items aH λh2 kr sb=>?_;have Ur:=sb.extBut _ _ (ZP lt) tu;have I2:az X pins σ (bV H s.heap.objs.size (.tup [.ref e.2.1,e.2.2])) {s with heap:=h2}:=I.turnNew (fp:=[it]) (t':=s.toks) hf (λb o hb q=>by
   have hb:b≠it:=by simpa using hb
   exact sb.extBut _ _ hb (kp b o hb q)) (WR _) ⟨by rw[YI];simp,[ds[i].key,ds[i].val],.cons ek (.cons rv .nil),⟨_,Ur,rfl,_,rfl⟩,_,Ur⟩
  refine⟨.ref s.heap.objs.size,_,I2,rfl,⟨_,e,rfl,I.hok.fresh (WR _),m,rfl⟩,⟨_,_,by rw[←n];exact kr⟩,λb hb=>?_⟩;have pZ:b=it:=by simpa using hb
  rw[aS (by rw[pZ];exact Xj lt)];exact (hf b hb).1
 done:=by
  intro X hP hw hK hc i pins s σ H E I hf st hg;subst hP hw hK;obtain⟨hq,hi⟩:=hg;obtain⟨_,ds,rd,n,at_⟩:=I.rawD hq;obtain⟨f0,f1,f2,f3,f4,f5⟩:=hf it (by simp);obtain⟨ok,ov,st⟩:=st;rw[←n] at st hi;exact Px (I.ok.hd hc) st rd hi λh' eb=>⟨rfl,I.turned (t':=s.toks) (λb o hb e=>eb b o hb e) f0 f1 f3 f4 f5⟩
 self:=λ_ _ _ _ _ ⟨ok,ov,st⟩ h=>zy st h
def TJ (J:W7->Nat->List (List U×W7×V)->It)(tl:TE):TI:=λσ H R=>tl σ H λx H1=>∃a ep es,x=.ref a/\H1 a=some (DN a ep es)/\R (J a ep es) H1
structure M0 (X:Cx)(o:YO)(m:Str)(cI cpos:Pos):Prop where
 base:ZR o m X.env (Z4 o X.env)=Z4 o X.env
 few:((Zl cpos (W5 [] X.env)).all (λx=> !x.1)&&(backToKw cpos (abR [] X.env)).all (λx=>x.1.isSome)
  && decide (([]:List YO).length+([]:List abA).length+(if ([]:List abA).isEmpty then 0 else 1)<30))=true
 line:(cI.endLine==cpos.line)=true
 trees:Zl cpos (W5 [] X.env)=[]
section
variable {e:YO}{tl:TE}{cI cpos:Pos}
theorem Mv (I:az X pins σ H s)(q:H a=some (DN a ep es)):s.TypeIs (.ref a) "dict"/\∀b,Value.ref a=.ref b->∃ob,s.heap.get? b=some ob/\ob.dict=none:=by
 obtain⟨_,ds,rd,_⟩:=I.rawD q;refine⟨rd.ty,λb z=>?_⟩;cases z;obtain⟨o,h1,h2,_⟩:=rd;exact⟨o,h1,h2.2.1⟩
theorem FF (hl:PE X e tl)(m:M0 X e "items" cI cpos):PI X (.Tuple elts kt tp) (.Call (.Attribute e "items" cI) [] [] cpos) (TJ R5 tl):=by
 intro pins s σ H R I h;refine acC m.base m.few m.line aaV PySem.F.slot_dict_items PySem.F.type_dict_items (du (hl pins s σ H _ I h) λv s1 ⟨x,H1,I1,r1,a,ep,es,ex,hq,q⟩=>?_);subst ex;cases r1;obtain⟨t1,t2⟩:=Mv I1 hq;refine⟨t1,t2,?_⟩;rw[m.trees];obtain⟨lo,ds,rd,n,_⟩:=I1.rawD hq;refine Zk rfl (PyProof.Rows.evalArgs_none ?_);refine Xr PySem.F.slot_dict_items t1 PySem.F.entry_dict_items (Pt lo rd λh1 vw k1=>?_) (PySem.F.args_dict_items_1 _);refine Pu vw (rd.at λo z=>k1 _ o z) λh2 st k2=>?_;have I2:az X pins σ H1 {s1 with heap:=h2}:=I1.kept (t':=s1.toks) λb o z=>k2 b o (k1 b o z);refine⟨h1.objs.size,[h1.objs.size],_,_,H1,rfl,I2,zA (a:=a) (ep:=ep) (es:=es),⟨_,_,by rw[←n];exact st⟩,λb hb=>?_,q⟩;have e:b=h1.objs.size:=by simpa using hb
 have ge:s1.heap.objs.size<=h1.objs.size:=by
  obtain⟨o,z,_⟩:=vw;exact Nat.le_of_lt (WX z)
 exact I1.fpOk (by rw[e];exact ge) (I1.hok.fresh (by rw[e];exact ge))
end
end L2
namespace L2
open Hc.Dw
mutual
theorem Py {K:WH}{H:Hp}{A:W7->Prop}:∀{u:U} {v:V},KH H u v->Rp K H A u v
 | .int i,v,h=>by unfold KH at h;unfold Rp;exact h
 | .tup us,v,h=>by
  unfold KH at h;unfold Rp;obtain⟨b,ys,e,q,l,z⟩:=h;exact⟨b,ys,e,q,l,zB z⟩
 | .non,v,h=>by unfold KH at h;exact h.elim
 | .bl _,v,h=>by unfold KH at h;exact h.elim
 | .str _,v,h=>by unfold KH at h;exact h.elim
 | .lst _,v,h=>by unfold KH at h;exact h.elim
 | .dct _ _,v,h=>by unfold KH at h;exact h.elim
 | .scr _,v,h=>by unfold KH at h;exact h.elim
theorem zB {K:WH}{H:Hp}{A:W7->Prop}:∀{us:List U} {vs:List V},qg H us vs->aC K H A us vs
 | [],vs,h=>by unfold qg at h;unfold aC;exact h
 |u::us,vs,h=>by
  unfold qg at h;unfold aC;obtain⟨x,r,q,p,z⟩:=h;exact⟨x,r,q,Py p,zB z⟩
end
theorem Kp (h:r6 H us b):Rp K H A (.tup us) (.ref b):=by
 obtain⟨_,ys,q,l,z⟩:=h;unfold Rp;exact⟨b,ys,rfl,q,l,zB z⟩
noncomputable def Mw:U->Bool
 | .tup _=>true
 |_=>false
noncomputable def zC (ks:List U):Bool:= !ks.isEmpty&&ks.all Mw
theorem FG (w:zC ks=true)(d:uJ H a ks xs):∃es ep,H a=some (DN a ep es)/\(∀e∈es,r6 H e.1 e.2.1)/\ks=es.map (λp=>.tup p.1)/\xs=es.map (·.2.2):=by
 unfold zC at w;rw[W6] at w;rcases d with⟨aK,h,rfl,rfl⟩|⟨es,n,h,e1,e2⟩
 ·exfalso;cases aK with
  |nil=>exact absurd w.1 (by simp)
  |cons p r=>
   have:=w.2;rw[WD,Zr,W6] at this;obtain⟨p1,p2⟩:=p;cases p1<;>cases this.1
 ·obtain⟨ep,q⟩:=h.ne n;exact⟨es,ep,q,h.key,e1,e2⟩
theorem Pz (mu:∀a,A a->Mu (H1 a))(w:zC ks=true)(h:Rp K H1 A (.dct ks us) v):∃a ep es,v=.ref a/\H1 a=some (DN a ep es)/\
  Wk K false A ks (UO a ep es) H1/\Wk K false A us (UP a ep es) H1/\Wk K false A (X1 (λk u=>.tup [k,u]) ks us) (R5 a ep es) H1:=by
 unfold Rp at h;obtain⟨a,xs,rfl,na,d,l,z⟩:=h;obtain⟨es,ep,q,kt,e1,e2⟩:=FG w d;subst e1 e2;have le:es.length=us.length:=by rw[z.length,WA]
 have key:∀(i:Nat) (e:List U×W7×V),es[i]? = some e->Rp K H1 A (.tup e.1) (.ref e.2.1):=λi e he=>Kp (kt e (Yh he));have val:∀(i:Nat) (u:U),us[i]? = some u->∃e:List U×W7×V,es[i]? = some e/\Rp K H1 A u e.2.2:=λi u hu=>by
  obtain⟨x,h1,h2⟩:=z.get hu;rw[W3] at h1;cases he:es[i]? with
  |none=>rw[he] at h1;cases h1
  |some e=>rw[he] at h1;cases h1;exact⟨e,rfl,h2⟩
 refine⟨a,ep,es,rfl,q,⟨?_,λH A' hx ha=>?_⟩,⟨l,λH A' hx ha=>?_⟩,⟨?_,λH A' hx ha=>?_⟩⟩
 ·rw[WA,le];exact l
 ·rw[hV WE] at hx;have qa:=hx a _ na q;refine⟨λi u hu=>?_,⟨qa,by rw[WA];exact WR _⟩⟩;rw[W3] at hu;cases he:es[i]? with
  |none=>rw[he] at hu;cases hu
  |some e=>
   rw[he] at hu;cases hu;refine⟨⟨qa,(WL.mp he).1⟩,λx H' y=>?_⟩;obtain⟨rfl,e',GZ,rfl⟩:=y;rw[he] at GZ;cases GZ;exact⟨aG.refl _,(key i e he).re mu hx ha⟩
 ·rw[hV WE] at hx;have qa:=hx a _ na q;refine⟨λi u hu=>?_,⟨qa,by rw[le];exact WR _⟩⟩;obtain⟨e,he,r⟩:=val i u hu;refine⟨⟨qa,(WL.mp he).1⟩,λx H' y=>?_⟩;obtain⟨rfl,e',GZ,rfl⟩:=y;rw[he] at GZ;cases GZ;exact⟨aG.refl _,r.re mu hx ha⟩
 ·rw[Zg];exact XC (Nat.min_le_right _ _) l
 ·rw[hV WE] at hx;have qa:=hx a _ na q;refine⟨λi u hu=>?_,⟨qa,by rw[Zg,WA,le,acd];exact WR _⟩⟩;rw[List.getElem?_zipWith,W3] at hu;cases hU:us[i]? with
  |none=>rw[hU] at hu;cases h:es[i]? <;> rw[h] at hu<;>cases hu
  |some u0=>
   obtain⟨e,he,r⟩:=val i u0 hU;rw[hU,he] at hu;cases hu;refine⟨⟨qa,(WL.mp he).1⟩,λx H' y=>?_⟩;obtain⟨T,e',rfl,hT,GZ,rfl⟩:=y;rw[he] at GZ;cases GZ;have sm:=bQ hT (.tup [.ref e.2.1,e.2.2]);refine⟨sm,?_⟩;unfold Rp;exact⟨T,_,rfl,ba,by have:WJ=16777216:=rfl;rw[this];simp,aC.cons (((key i e he).re mu hx ha).same sm) (aC.cons ((r.re mu hx ha).same sm) aC.nil)⟩
noncomputable def Wa (g:Ev->R (U×Ev)):Ev->R (List U×Ev):=λρ=>(g ρ).bind λx=>match x.1 with
 | .dct ks _=>if zC ks=true then .ok (ks,x.2) else .stk
 |_=>.stk
noncomputable def QZ (g:Ev->R (U×Ev)):Ev->R (List U×Ev):=λρ=>(g ρ).bind λx=>match x.1 with
 | .dct ks us=>if zC ks=true then .ok (X1 (λk u=>.tup [k,u]) ks us,x.2) else .stk
 |_=>.stk
section
variable {e:YO}{cI cpos:Pos}{b1:Bool}{m1:Md}{g1:Ev->R (U×Ev)}
theorem CP {f:List U->List U->List U}{J:W7->Nat->List (List U×W7×V)->It}(n1:m1≠.P)(hw:∀{K:WH} {A:W7->Prop} {H1:Hp} {ks us:List U} {v:V},(∀a,A a->Mu (H1 a))->zC ks=true->Rp K H1 A (.dct ks us) v->∃a ep es,v=.ref a/\H1 a=some (DN a ep es)/\Wk K false A (f ks us) (J a ep es) H1){R:It->Hp->Prop}(h:QN X.K G b1 false (λρ=>(g1 ρ).bind λx=>match x.1 with
   | .dct ks us=>if zC ks=true then .ok (f ks us,x.2) else .stk
   |_=>.stk) σ H R):TJ J (tD X.K G b1 m1 g1) σ H R:=by
 obtain⟨Z,A,ρ,q,h⟩:=h;dsimp only at h;refine⟨Z,A,ρ,q,?_⟩;cases e1:g1 ρ with
 |stk=>rw[e1] at h;exact h.elim
 |exc=>rw[e1] at h;exact h.elim
 |ok y=>
  obtain⟨u,ρ1⟩:=y;rw[e1] at h;intro v H1 q1 x1 s1 vm;cases u with
  |dct ks us=>
   dsimp only[L2.R.bind] at h;split at h
   ·rename_i Ud ρ' e2;split at e2
    ·rename_i c;cases e2;obtain⟨a,ep,es,ev,hq,wk⟩:=hw q1.mu c (vm.rp n1);exact⟨a,ep,es,ev,hq,h _ H1 q1 x1 s1 wk⟩
    ·cases e2
   ·exact h.elim
  |_=>exact h.elim
theorem w_ (h:DE X G e b1 m1 g1)(n1:m1≠.P:=by decide)(m:M0 X e "items" cI cpos:=by exact⟨rfl,rfl,rfl,rfl⟩):DI X G (.Tuple elts kt tp) (.Call (.Attribute e "items" cI) [] [] cpos) b1 false (QZ g1):=⟨(FF h.un m).to λσ H R z=>CP (f:=λks us=>X1 (λk u=>.tup [k,u]) ks us) n1 (λmu w r=>by
 obtain⟨a,ep,es,h1,h2,_,_,h3⟩:=Pz mu w r;exact⟨a,ep,es,h1,h2,h3⟩) z⟩
end
end L2
namespace L2
noncomputable def Gm.un (G:Gm)(i:Nat):Gm:=⟨G.own.set i false,G.io,G.W⟩
theorem jb:(G.un i).is i=false:=by
 unfold Gm.un Gm.is;dsimp only;rw[Zn,List.getElem?_set];split
 ·split<;>rfl
 ·rename_i h;exact absurd rfl h
theorem jP (h:i≠j):(G.un i).is j=G.is j:=by
 unfold Gm.un Gm.is;dsimp only;rw[Zn,Zn,Xs h]
section
variable {A':W7->Prop}{ρ':Ev}
theorem b_.un (r:b_ K G Z A ρ σ H)(hi:G.io=true->i≠0):∃A',b_ K (G.un i) Z A' ρ σ H:=by
 have io0:∀h:(G.un i).io=true,σ[0]? = some (some (.ref Z.a0))/\(G.un i).is 0=true:=λh=>by
  obtain⟨a,b⟩:=r.io0 h;exact⟨a,by rw[jP (hi h)];exact b⟩
 by_cases c:G.is i=true/\∃u,ρ[i]? = some (some u)
 ·obtain⟨c,u,hu⟩:=c;obtain⟨a,h1,h2,h3,h4,h5⟩:=r.own c hu;have na:¬Z.A0 a:=by
   rcases h4 with h4|⟨h4,h6⟩
   ·exact h4
   ·exact absurd h6 (hi h4)
  have sub:∀b,(A b/\b≠a)->A b:=λb z=>z.1;refine⟨λb=>A b/\b≠a,?_⟩;exact {
   slot:=λj w hj=>by
    obtain⟨v,s1,s2⟩:=r.slot j w hj;refine⟨v,s1,?_⟩;by_cases e:i=j
    ·subst e;rw[hu] at hj;cases hj;rw[h1] at s1;cases s1;rw[hV (by rw[jb];exact WE)];exact h5.rp sub λz=>z.2 rfl
    ·rw[jP e];by_cases cj:G.is j=true
     ·rw[hZ cj] at s2 ⊢;obtain⟨b,e1,e2,e3,e4,e5⟩:=s2;refine⟨b,e1,⟨e2,λz=>?_⟩,e3,e4,e5.mono sub⟩;subst z e1;exact r.dis i j u w b c cj e hu hj h1 s1
     ·rw[hV cj] at s2 ⊢;exact s2.mono sub
   dis:=λj k w w' b cj ck ne hj hk sj sk=>by
    have e1:i≠j:=λz=>by subst z;rw[jb] at cj;cases cj
    have e2:i≠k:=λz=>by subst z;rw[jb] at ck;cases ck
    rw[jP e1] at cj;rw[jP e2] at ck;exact r.dis j k w w' b cj ck ne hj hk sj sk
   mu:=λb z=>r.mu b z.1
   sup:=λb z=>⟨r.sup b z,λe=>na (e▸z)⟩
   out:=λb z=>r.out b z.1
   bas:=r.bas
   io0:=io0
   len:=r.len}
 ·refine⟨A,?_⟩;exact {
   slot:=λj w hj=>by
    obtain⟨v,s1,s2⟩:=r.slot j w hj;refine⟨v,s1,?_⟩;by_cases e:i=j
    ·subst e;rw[hV (by rw[jb];exact WE)];rw[hV (λz=>c ⟨z,w,hj⟩)] at s2;exact s2
    ·rw[jP e];exact s2
   dis:=λj k w w' b cj ck ne hj hk sj sk=>by
    have e1:i≠j:=λz=>by subst z;rw[jb] at cj;cases cj
    have e2:i≠k:=λz=>by subst z;rw[jb] at ck;cases ck
    rw[jP e1] at cj;rw[jP e2] at ck;exact r.dis j k w w' b cj ck ne hj hk sj sk
   mu:=r.mu
   sup:=r.sup
   out:=r.out
   bas:=r.bas
   io0:=io0
   len:=r.len}
theorem b_.reun (r:b_ K (G.un i) Z A ρ σ H):b_ K G Z A (ρ.set i none) σ H where
 slot:=λj w hj=>by
  rcases cv hj with⟨rfl,e⟩|⟨ne,e⟩
  ·cases e
  ·obtain⟨v,s1,s2⟩:=r.slot j w e;rw[jP ne] at s2;exact⟨v,s1,s2⟩
 dis:=λj k w w' a cj ck ne hj hk sj sk=>by
  rcases cv hj with⟨rfl,e⟩|⟨n1,e1⟩
  ·cases e
  ·rcases cv hk with⟨rfl,e⟩|⟨n2,e2⟩
   ·cases e
   ·exact r.dis j k w w' a (by rw[jP n1];exact cj) (by rw[jP n2];exact ck) ne e1 e2 sj sk
 mu:=r.mu
 sup:=r.sup
 out:=r.out
 bas:=r.bas
 io0:=λh=>by
  obtain⟨a,b⟩:=r.io0 h;refine⟨a,?_⟩;by_cases e:i=0
  ·subst e;rw[jb] at b;cases b
  ·rw[jP e] at b;exact b
 len:=by rw[X4];exact r.len
end
noncomputable def xb (i:Nat)(g:Ev->SR):Ev->SR:=λρ=>match g ρ with
 | .nx ρ'=>.nx (ρ'.set i none)
 | .bk ρ'=>.bk (ρ'.set i none)
 | .ct ρ'=>.ct (ρ'.set i none)
 | .rt u ρ'=>.rt u (ρ'.set i none)
 |r=>r
section
variable {e:YO}{Qt:List abM}{m m1:Md}{g:Ev->SR}{g1:Ev->R (U×Ev)}{h1:Ev->R (Bool×Ev)}
theorem FH (hi:G.io=true->i≠0){D:kT}(h:NK X.K G m (xb i g) D σ H):NK X.K (G.un i) m g D σ H:=by
 obtain⟨Z,A,ρ,q,f⟩:=h;obtain⟨A',q'⟩:=q.un hi;refine⟨Z,A',ρ,q',?_⟩;unfold xb at f;cases e:g ρ with
 |nx=>rw[e] at f;exact λA2 σ2 H2 q2=>f A2 σ2 H2 q2.reun
 |bk=>rw[e] at f;exact λA2 σ2 H2 q2=>f A2 σ2 H2 q2.reun
 |ct=>rw[e] at f;exact λA2 σ2 H2 q2=>f A2 σ2 H2 q2.reun
 |rt=>rw[e] at f;exact λA2 σ2 H2 v q2 vm=>f A2 σ2 H2 v q2.reun vm
 |exc=>rw[e] at f;exact f
 |stk=>rw[e] at f;exact f.elim
theorem Be (i:Nat)(h:yV X (G.un i) m Qt g)(hi:G.io=true->i≠0:=by decide):yV X G m Qt (xb i g):=⟨h.un.to λ_ _ _ z=>FH hi z⟩
theorem FI (i:Nat)(h:DT X (G.un i) e false h1)(hi:G.io=true->i≠0:=by decide):DT X G e false h1:=⟨h.un.to λσ H Q h00=>by
 obtain⟨Z,A,ρ,q,f⟩:=h00;obtain⟨A',q'⟩:=q.un hi;refine⟨Z,A',ρ,q',?_⟩;cases e:h1 ρ with
 |ok x=>
  obtain⟨c,ρ1⟩:=x;rw[e] at f;intro H' _ _ s1;obtain⟨rfl,sm⟩:=s1 rfl;exact f H' (q.same sm) (dR.same sm) λ_=>⟨rfl,sm⟩
 |exc=>rw[e] at f;exact f.elim
 |stk=>rw[e] at f;exact f.elim⟩
end
end L2
namespace Hc.Ts
noncomputable def fy:Bool->Xd->Array Xd->Nat->Nat->Nat->StateT Xe Sem (Option Nat):=sortPriv% PySem.Builtin.gallop
noncomputable def f7 (left:Bool)(key:Xd)(arr:Array Xd)(base i:Nat):StateT Xe Sem (Option Bool):=do
 let x ←acp arr (base+i)
 if left then lt' x key else return (←lt' key x).map (!·)
theorem zD (left:Bool)(key:Xd)(arr:Array Xd)(base n hint:Nat):fy left key arr base n hint=(do
 let mut lastofs:=0
 let mut ofs:=1
 let mut lo:=0
 let mut hi:=0
 let some right ←f7 left key arr base hint|return none
 if right then
  let maxofs:=n-hint
  for _ in [0:n] do
   if ofs≥maxofs then break
   let some more ←f7 left key arr base (hint+ofs)|return none
   if !more then break
   lastofs:=ofs
   ofs:=2*ofs+1
  lo:=hint+lastofs+1
  hi:=hint+min ofs maxofs
 else
  let maxofs:=hint+1
  for _ in [0:n] do
   if ofs≥maxofs then break
   let some found ←f7 left key arr base (hint-ofs)|return none
   if found then break
   lastofs:=ofs
   ofs:=2*ofs+1
  lo:=hint+1-min ofs maxofs
  hi:=hint-lastofs
 for _ in [0:n] do
  if lo≥hi then break
  let m:=lo+(hi-lo) / 2
  let some more ←f7 left key arr base m|return none
  if more then lo:=m+1 else hi:=m
 return some hi):=rfl
section
variable {A:XD}
noncomputable def Ir (left:Bool)(key:Xd)(arr:Array Xd)(base n Vt S3:Nat):StateT Xe Sem (Option Nat):=do
 let mut lo:=Vt
 let mut hi:=S3
 for _ in [0:n] do
  if lo≥hi then break
  let m:=lo+(hi-lo) / 2
  let some more ←f7 left key arr base m|return none
  if more then lo:=m+1 else hi:=m
 return some hi
theorem Bf {left:Bool}{key:Xd}{lo hi:Nat}{st:Xe}{Q:Option Nat->Xe->Prop}(b:Nat->Bool)(hb:∀i,i<n->∀Q:Option Bool->Xe->Prop,Q (some (b i)) st->wpS M A E s (f7 left key arr base i) Q st)(mono:∀i j,i<=j->j<n->b j=true->b i=true)(h1:lo<=hi)(h2:hi<=n)(hl:∀i,i<lo->b i=true)(hr:∀i,hi<=i->i<n->b i=false)(h:∀k,k<=n->(∀i,i<k->b i=true)->(∀i,k<=i->i<n->b i=false)->Q (some k) st):wpS M A E s (Ir left key arr base n lo hi) Q st:=by
 unfold Ir;refine W2 (Zx (Yn (I:=λx c aH=>aH=st/\∃l r,c=(none,l,r)/\l<=r/\r<=n/\r-l<=n-x/\(∀i,i<l->b i=true)/\∀i,r<=i->i<n->b i=false)
  (Q:=λc aH=>aH=st/\∃k,c=(none,k,k)/\k<=n/\(∀i,i<k->b i=true)/\∀i,k<=i->i<n->b i=false) ?step ?fin ⟨rfl,lo,hi,rfl,h1,h2,by lia,hl,hr⟩) ?post)
 case fin=>
  rintro c aH ⟨rfl,l,r,rfl,a1,a2,a3,a4,a5⟩;have:l=r:=by lia
  subst this;exact⟨rfl,l,rfl,a2,a4,a5⟩
 case step=>
  rintro x c aH _ hx ⟨rfl,l,r,rfl,a1,a2,a3,a4,a5⟩;dsimp only;by_cases c:l≥r
  ·rw[hZ c];have:l=r:=by lia
   subst this;exact W_ ⟨rfl,l,rfl,a2,a4,a5⟩
  ·rw[hV c];refine W2 (hb _ (by lia) _ ?_);dsimp only;cases e:b (l+(r-l) / 2) with
   |true=>
    rw[hZ rfl];exact W_ ⟨rfl,_,r,rfl,by lia,a2,by lia,λi hi=>mono i _ (by lia) (by lia) e,a5⟩
   |false=>
    rw[hV WE];refine W_ ⟨rfl,l,_,rfl,by lia,by lia,by lia,a4,λi h1 h2=>?_⟩;cases e2:b i with
    |false=>rfl
    |true=>rw[mono _ i h1 h2 e2] at e;cases e
 case post=>
  rintro c aH ⟨rfl,k,rfl,a1,a2,a3⟩;exact W_ (h k a1 a2 a3)
theorem tR {left:Bool}{key:Xd}{hint:Nat}{st:Xe}{Q:Option Nat->Xe->Prop}(b:Nat->Bool)(hb:∀i,i<n->∀Q:Option Bool->Xe->Prop,Q (some (b i)) st->wpS M A E s (f7 left key arr base i) Q st)(mono:∀i j,i<=j->j<n->b j=true->b i=true)(hh:hint<n)(h:∀k,k<=n->(∀i,i<k->b i=true)->(∀i,k<=i->i<n->b i=false)->Q (some k) st):wpS M A E s (fy left key arr base n hint) Q st:=by
 have Us:∀i j,i<=j->j<n->b i=false->b j=false:=λi j h1 h2 e=>by
  cases e2:b j with
  |false=>rfl
  |true=>rw[mono i j h1 h2 e2] at e;cases e
 rw[zD];refine W2 (hb hint hh _ ?_);dsimp only;cases e0:b hint with
 |true=>
  rw[hZ rfl];refine W2 (Zx (Yn (I:=λx c aH=>aH=st/\∃l o,c=(none,l,o)/\l<o/\x+1<=o/\hint+l<n/\b (hint+l)=true)
   (Q:=λc aH=>aH=st/\∃l o,c=(none,l,o)/\l<o/\hint+l<n/\b (hint+l)=true/\(o≥n-hint\/b (hint+o)=false)) ?step ?fin ⟨rfl,0,1,rfl,by lia,by lia,hh,e0⟩) ?post)
  case fin=>
   rintro c aH ⟨rfl,l,o,rfl,a1,a2,a3,a4⟩;exact⟨rfl,l,o,rfl,a1,a3,a4,.inl (by lia)⟩
  case step=>
   rintro x c aH _ hx ⟨rfl,l,o,rfl,a1,a2,a3,a4⟩;dsimp only;by_cases c:o≥n-hint
   ·rw[hZ c];exact W_ ⟨rfl,l,o,rfl,a1,a3,a4,.inl c⟩
   ·rw[hV c];refine W2 (hb _ (by lia) _ ?_);dsimp only;cases e:b (hint+o) with
    |true=>
     rw[hV (by decide)];exact W_ ⟨rfl,o,_,rfl,by lia,by lia,by lia,e⟩
    |false=>
     rw[hZ (by decide)];exact W_ ⟨rfl,l,o,rfl,a1,a3,a4,.inr e⟩
  case post=>
   rintro c aH ⟨rfl,l,o,rfl,a1,a3,a4,a5⟩;show wpS _ _ _ _ (Ir left key arr base n (hint+l+1) (hint+min o (n-hint))) _ _;refine Bf b hb mono (by lia) (by lia) (λi hi=>mono i _ (by lia) a3 a4) (λi h1 h2=>?_) h;rcases a5 with a5|a5
   ·lia
   ·by_cases c:o<=n-hint
    ·rw[Yx c] at h1;exact Us _ i h1 h2 a5
    ·lia
 |false=>
  rw[hV WE];refine W2 (Zx (Yn (I:=λx c aH=>aH=st/\∃l o,c=(none,l,o)/\l<o/\x+1<=o/\l<=hint/\b (hint-l)=false)
   (Q:=λc aH=>aH=st/\∃l o,c=(none,l,o)/\l<o/\l<=hint/\b (hint-l)=false/\(o≥hint+1\/b (hint-o)=true)) ?step ?fin ⟨rfl,0,1,rfl,by lia,by lia,by lia,e0⟩) ?post)
  case fin=>
   rintro c aH ⟨rfl,l,o,rfl,a1,a2,a3,a4⟩;exact⟨rfl,l,o,rfl,a1,a3,a4,.inl (by lia)⟩
  case step=>
   rintro x c aH _ hx ⟨rfl,l,o,rfl,a1,a2,a3,a4⟩;dsimp only;by_cases c:o≥hint+1
   ·rw[hZ c];exact W_ ⟨rfl,l,o,rfl,a1,a3,a4,.inl c⟩
   ·rw[hV c];refine W2 (hb _ (by lia) _ ?_);dsimp only;cases e:b (hint-o) with
    |true=>
     rw[hZ rfl];exact W_ ⟨rfl,l,o,rfl,a1,a3,a4,.inr e⟩
    |false=>
     rw[hV WE];exact W_ ⟨rfl,o,_,rfl,by lia,by lia,by lia,e⟩
  case post=>
   rintro c aH ⟨rfl,l,o,rfl,a1,a3,a4,a5⟩;show wpS _ _ _ _ (Ir left key arr base n (hint+1-min o (hint+1)) (hint-l)) _ _;refine Bf b hb mono (by lia) (by lia) (λi hi=>?_) (λi h1 h2=>Us _ i h1 h2 a4) h;rcases a5 with a5|a5
   ·lia
   ·by_cases c:o<=hint+1
    ·rw[Yx c] at hi;exact mono i _ (by lia) (by lia) a5
    ·lia
end
end Hc.Ts
namespace Hc.Ts
section
variable {O:acJ}(key:Xd->O.α)
def g9 (l:List Xd):Prop:=l.Pairwise λx y=>O.kle (key x) (key y)
structure MI (T o ra rb:List Xd):Prop where
 perm:(o++(ra++rb)).Perm T
 so:g9 key o
 sa:g9 key ra
 sb:g9 key rb
 oa:∀x∈o,∀y∈ra,O.kle (key x) (key y)
 ob:∀x∈o,∀y∈rb,O.kle (key x) (key y)
structure MH (T ra rb o:List Xd):Prop where
 perm:((ra++rb)++o).Perm T
 so:g9 key o
 sa:g9 key ra
 sb:g9 key rb
 oa:∀x∈ra,∀y∈o,O.kle (key x) (key y)
 ob:∀x∈rb,∀y∈o,O.kle (key x) (key y)
variable {key}
theorem bh {r:List Xd}:g9 key (l++r)↔g9 key l/\g9 key r/\∀x∈l,∀y∈r,O.kle (key x) (key y):=List.pairwise_append
theorem MI.stepA {T x:List Xd}(h:MI key T o (x++ra) rb)(hx:∀a∈x,∀b∈rb,O.kle (key a) (key b)):MI key T (o++x) ra rb:=by
 obtain⟨s1,s2,s3⟩:=bh.mp h.sa;refine⟨?_,bh.mpr ⟨h.so,s1,λa ha b hb=>h.oa a ha b (Xn _ hb)⟩,s2,h.sb,λa ha b hb=>?_,λa ha b hb=>?_⟩
 ·have e:o++x++(ra++rb)=o++(x++ra++rb):=by simp[W8]
  rw[e];exact h.perm
 ·rcases W0.mp ha with ha|ha
  ·exact h.oa a ha b (WZ _ hb)
  ·exact s3 a ha b hb
 ·rcases W0.mp ha with ha|ha
  ·exact h.ob a ha b hb
  ·exact hx a ha b hb
theorem MI.stepB {T y:List Xd}(h:MI key T o ra (y++rb))(hy:∀b∈y,∀a∈ra,O.kle (key b) (key a)):MI key T (o++y) ra rb:=by
 obtain⟨s1,s2,s3⟩:=bh.mp h.sb;refine⟨?_,bh.mpr ⟨h.so,s1,λa ha b hb=>h.ob a ha b (Xn _ hb)⟩,h.sa,s2,λa ha b hb=>?_,λa ha b hb=>?_⟩
 ·refine List.Perm.trans ?_ h.perm;have e:o++y++(ra++rb)=o++((y++ra)++rb):=by simp[W8]
  have e2:o++(ra++(y++rb))=o++((ra++y)++rb):=by simp[W8]
  rw[e,e2];exact X7 o (Yk rb X8)
 ·rcases W0.mp ha with ha|ha
  ·exact h.oa a ha b hb
  ·exact hy a ha b hb
 ·rcases W0.mp ha with ha|ha
  ·exact h.ob a ha b (WZ _ hb)
  ·exact s3 a ha b hb
theorem MI.endA {T:List Xd}(h:MI key T o ra []):(o++ra).Perm T/\g9 key (o++ra):=by
 refine⟨?_,bh.mpr ⟨h.so,h.sa,h.oa⟩⟩;have:=h.perm;rw[Xt] at this;exact this
theorem MI.endB {T:List Xd}(h:MI key T o [] rb):(o++rb).Perm T/\g9 key (o++rb):=⟨h.perm,bh.mpr ⟨h.so,h.sb,h.ob⟩⟩
theorem MI.last {T:List Xd}(h:MI key T o ra rb)(hl:∀b∈rb,∀a∈ra,O.kle (key b) (key a)):(o++(rb++ra)).Perm T/\g9 key (o++(rb++ra)):=
 ⟨(X7 o X8).trans h.perm,bh.mpr ⟨h.so,bh.mpr ⟨h.sb,h.sa,hl⟩,λa ha b hb=>by
  rcases W0.mp hb with hb|hb
  ·exact h.ob a ha b hb
  ·exact h.oa a ha b hb⟩⟩
theorem MH.stepA {T x:List Xd}(h:MH key T (ra++x) rb o)(hx:∀b∈rb,∀a∈x,O.kle (key b) (key a)):MH key T ra rb (x++o):=by
 obtain⟨s1,s2,s3⟩:=bh.mp h.sa;refine⟨?_,bh.mpr ⟨s2,h.so,λa ha b hb=>h.oa a (WZ _ ha) b hb⟩,s1,h.sb,λa ha b hb=>?_,λa ha b hb=>?_⟩
 ·refine List.Perm.trans ?_ h.perm;have e:ra++rb++(x++o)=(ra++(rb++x))++o:=by simp[W8]
  have e2:ra++x++rb++o=(ra++(x++rb))++o:=by simp[W8]
  rw[e,e2];exact Yk o (X7 ra X8)
 ·rcases W0.mp hb with hb|hb
  ·exact s3 a ha b hb
  ·exact h.oa a (Xn _ ha) b hb
 ·rcases W0.mp hb with hb|hb
  ·exact hx a ha b hb
  ·exact h.ob a ha b hb
theorem MH.stepB {T y:List Xd}(h:MH key T ra (rb++y) o)(hy:∀a∈ra,∀b∈y,O.kle (key a) (key b)):MH key T ra rb (y++o):=by
 obtain⟨s1,s2,s3⟩:=bh.mp h.sb;refine⟨?_,bh.mpr ⟨s2,h.so,λa ha b hb=>h.ob a (WZ _ ha) b hb⟩,h.sa,s1,λa ha b hb=>?_,λa ha b hb=>?_⟩
 ·have e:ra++rb++(y++o)=ra++(rb++y)++o:=by simp[W8]
  rw[e];exact h.perm
 ·rcases W0.mp hb with hb|hb
  ·exact hy a ha b hb
  ·exact h.oa a ha b hb
 ·rcases W0.mp hb with hb|hb
  ·exact s3 a ha b hb
  ·exact h.ob a (Xn _ ha) b hb
theorem MH.endB {T:List Xd}(h:MH key T [] rb o):(rb++o).Perm T/\g9 key (rb++o):=⟨h.perm,bh.mpr ⟨h.sb,h.so,h.ob⟩⟩
theorem MH.endA {T:List Xd}(h:MH key T ra [] o):(ra++o).Perm T/\g9 key (ra++o):=by
 refine⟨?_,bh.mpr ⟨h.sa,h.so,h.oa⟩⟩;have:=h.perm;rw[Xt] at this;exact this
theorem MH.first {T:List Xd}(h:MH key T ra rb o)(hl:∀b∈rb,∀a∈ra,O.kle (key b) (key a)):((rb++ra)++o).Perm T/\g9 key ((rb++ra)++o):=
 ⟨(Yk o X8).trans h.perm,bh.mpr ⟨bh.mpr ⟨h.sb,h.sa,hl⟩,h.so,λa ha b hb=>by
  rcases W0.mp ha with ha|ha
  ·exact h.ob a ha b hb
  ·exact h.oa a ha b hb⟩⟩
end
structure k7 (M:Model)(A:XD)(E:WM->WY->Prop)(s:WY)(O:acJ)(key:Xd->O.α)(knd:aaZ)(D:Xd->Prop):Prop where
 lt:∀(x y:Xd) (st:Xe) (Q:Option Bool->Xe->Prop),D x->D y->Ym st=knd->Q (some (O.blt (key x) (key y))) st->wpS M A E s (lt' x y) Q st
section
variable {A:XD}{O:acJ}{key:Xd->O.α}{knd:aaZ}{D:Xd->Prop}
theorem bw {x:Xd}{st:Xe}{Q:Xd->Xe->Prop}(h:arr.toList[i]? = some x)(q:Q x st):wpS M A E s (acp arr i) Q st:=by
 have h:arr[i]? = some x:=by rw[←W9];exact h
 rw[elem'_eq,h];exact W_ q
theorem k8 (C:k7 M A E s O key knd D){kx:Xd}{hint:Nat}{seg:List Xd}{st:Xe}{Q:Option Nat->Xe->Prop}(NG:∀i x,seg[i]? = some x->arr.toList[base+i]? = some x)(hs:g9 key seg)(hD:∀x∈seg,D x)(hk:D kx)(kd:Ym st=knd)(hh:hint<seg.length)(h:∀k,k<=seg.length->(∀x∈seg.take k,O.kle (key x) (key kx))->(∀x∈seg.drop k,O.klt (key kx) (key x))->Q (some k) st):wpS M A E s (fy false kx arr base seg.length hint) Q st:=by
 have at_:∀i,(hi:i<seg.length)->seg[i]? = some seg[i]:=λi hi=>Wz hi;refine tR (λi=> !(match seg[i]? with|some x=>O.blt (key kx) (key x)|none=>false)) (λi hi Q q=>?_) (λi j sO hj e=>?_) hh λk Ab h1 h2=>h k Ab (λx hx=>?_) λx hx=>?_
 ·rw[at_ i hi] at q;unfold f7;refine W2 (bw (NG i _ (at_ i hi)) ?_);rw[hV WE];exact W2 (C.lt _ _ st _ hk (hD _ (Xp hi)) kd (W_ q))
 ·have hi:i<seg.length:=by lia
  simp only[at_ i hi,at_ j hj,Bool.not_eq_true'] at e ⊢;by_cases c:i=j
  ·subst c;exact e
  ·have:=ZA.mp hs i j hi hj (by lia);exact Xw this e
 ·obtain⟨i,hi,rfl⟩:=aap.mp hx;rw[Xc] at hi;have:=h1 i (by lia);simp only[at_ i (by lia),Bool.not_eq_true'] at this;rw[abl];exact this
 ·obtain⟨i,hi,rfl⟩:=aap.mp hx;rw[XA] at hi;have:=h2 (k+i) (by lia) (by lia);simp only[at_ (k+i) (by lia),Bool.not_eq_false'] at this;rw[List.getElem_drop];exact this
theorem k9 (C:k7 M A E s O key knd D){kx:Xd}{hint:Nat}{seg:List Xd}{st:Xe}{Q:Option Nat->Xe->Prop}(NG:∀i x,seg[i]? = some x->arr.toList[base+i]? = some x)(hs:g9 key seg)(hD:∀x∈seg,D x)(hk:D kx)(kd:Ym st=knd)(hh:hint<seg.length)(h:∀k,k<=seg.length->(∀x∈seg.take k,O.klt (key x) (key kx))->(∀x∈seg.drop k,O.kle (key kx) (key x))->Q (some k) st):wpS M A E s (fy true kx arr base seg.length hint) Q st:=by
 have at_:∀i,(hi:i<seg.length)->seg[i]? = some seg[i]:=λi hi=>Wz hi;refine tR (λi=>match seg[i]? with|some x=>O.blt (key x) (key kx)|none=>false) (λi hi Q q=>?_) (λi j sO hj e=>?_) hh λk Ab h1 h2=>h k Ab (λx hx=>?_) λx hx=>?_
 ·rw[at_ i hi] at q;unfold f7;refine W2 (bw (NG i _ (at_ i hi)) ?_);rw[hZ rfl];exact C.lt _ _ st _ (hD _ (Xp hi)) hk kd q
 ·have hi:i<seg.length:=by lia
  simp only[at_ i hi,at_ j hj] at e ⊢;by_cases c:i=j
  ·subst c;exact e
  ·have:=ZA.mp hs i j hi hj (by lia);exact KeyOrd.klt_of_kle_of_klt this e
 ·obtain⟨i,hi,rfl⟩:=aap.mp hx;rw[Xc] at hi;have:=h1 i (by lia);simp only[at_ i (by lia)] at this;rw[abl];exact this
 ·obtain⟨i,hi,rfl⟩:=aap.mp hx;rw[XA] at hi;have:=h2 (k+i) (by lia) (by lia);simp only[at_ (k+i) (by lia)] at this;rw[List.getElem_drop];exact this
end
end Hc.Ts
namespace Hc.Ts
noncomputable abbrev cX (st:Xe)(g:Nat):Xe:=SortSt.mk' (Ym st) (Xz st) (Xv st) g (aaA st)
noncomputable def bR (g:Nat):StateT Xe Sem Unit:=modify λs=>cX s g
noncomputable def qX:Array Xd->Array Xd->StateT Xe Sem (Array Xd):=sortPriv% PySem.Builtin.mergeLo
noncomputable abbrev Kq:=Option (Array Xd)×Array Xd×Nat×Nat×Nat×Nat×Nat
noncomputable abbrev NM:=Option (Array Xd)×Array Xd×Nat×Nat×Nat×Nat
noncomputable abbrev Q0:=Option (Array Xd)×Array Xd×Nat×Nat×Nat
noncomputable def fT (a b out:Array Xd)(ia ib:Nat):Array Xd:=out++a.extract ia a.size++b.extract ib b.size
noncomputable def k_ (a b out:Array Xd)(ia ib:Nat):Array Xd:=out++b.extract ib b.size++a.extract ia a.size
noncomputable def Iu (a b out:Array Xd)(ia ib g k k1:Nat):StateT Xe Sem (ForInStep Kq):=do
 let x ←acp a ia
 if (ia+1+1==a.size)=true then pure (.done (some (k_ a b (out.push x) (ia+1) ib),out.push x,ia+1,ib,g,k,k1))
 else if (decide (k<7)&&decide (k1<7))=true then pure (.done (none,out.push x,ia+1,ib,g,k,k1))
 else pure (.yield (none,out.push x,ia+1,ib,g,k,k1))
noncomputable def Iv (a b out:Array Xd)(ia ib g k bc:Nat):StateT Xe Sem (ForInStep Kq):=do
 let y ←acp b ib
 if (ib+1==b.size)=true then pure (.done (some (fT a b (out.push y) ia (ib+1)),out.push y,ia,ib+1,g,k,bc))
 else do
  let x ←acp a ia
  let some k1 ←fy true x b (ib+1) (b.size-(ib+1)) 0|pure (.done (some (fT a b (out.push y) ia (ib+1)),out.push y,ia,ib+1,g,k,bc))
  if k1>0 then
   if (ib+1+k1==b.size)=true then pure (.done (some (fT a b (out.push y++b.extract (ib+1) (ib+1+k1)) ia (ib+1+k1)),out.push y++b.extract (ib+1) (ib+1+k1),ia,ib+1+k1,g,k,k1))
   else Iu a b (out.push y++b.extract (ib+1) (ib+1+k1)) ia (ib+1+k1) g k k1
  else Iu a b (out.push y) ia (ib+1) g k k1
noncomputable def Iw (a b out:Array Xd)(ia ib g ac bc:Nat):StateT Xe Sem (ForInStep Kq):=do
 bR g
 let y ←acp b ib
 let some k ←fy false y a ia (a.size-ia) 0|pure (.done (some (fT a b out ia ib),out,ia,ib,g,ac,bc))
 if k>0 then
  if (ia+k+1==a.size)=true then pure (.done (some (k_ a b (out++a.extract ia (ia+k)) (ia+k) ib),out++a.extract ia (ia+k),ia+k,ib,g,k,bc))
  else if (ia+k==a.size)=true then pure (.done (some (fT a b (out++a.extract ia (ia+k)) (ia+k) ib),out++a.extract ia (ia+k),ia+k,ib,g,k,bc))
  else Iv a b (out++a.extract ia (ia+k)) (ia+k) ib g k bc
 else Iv a b out ia ib g k bc
noncomputable def R6 (a b:Array Xd)(_:Nat)(c:Kq):StateT Xe Sem (ForInStep Kq):=
 if c.2.2.2.2.1>1 then Iw a b c.2.1 c.2.2.1 c.2.2.2.1 (c.2.2.2.2.1-1) c.2.2.2.2.2.1 c.2.2.2.2.2.2
 else Iw a b c.2.1 c.2.2.1 c.2.2.2.1 c.2.2.2.2.1 c.2.2.2.2.2.1 c.2.2.2.2.2.2
noncomputable def R7 (a b:Array Xd)(g:Nat)(_:Nat)(c:NM):StateT Xe Sem (ForInStep NM):=do
 let y ←acp b c.2.2.2.1
 let x ←acp a c.2.2.1
 let some bWins ←lt' y x|pure (.done (some (fT a b c.2.1 c.2.2.1 c.2.2.2.1),c.2.1,c.2.2.1,c.2.2.2.1,c.2.2.2.2.1,c.2.2.2.2.2))
 if bWins=true then do
   let y ←acp b c.2.2.2.1
   if (c.2.2.2.1+1==b.size)=true then pure (.done (some (fT a b (c.2.1.push y) c.2.2.1 (c.2.2.2.1+1)),c.2.1.push y,c.2.2.1,c.2.2.2.1+1,0,c.2.2.2.2.2+1))
   else if c.2.2.2.2.2+1≥g then pure (.done (none,c.2.1.push y,c.2.2.1,c.2.2.2.1+1,0,c.2.2.2.2.2+1))
   else pure (.yield (none,c.2.1.push y,c.2.2.1,c.2.2.2.1+1,0,c.2.2.2.2.2+1))
 else do
   let x ←acp a c.2.2.1
   if (c.2.2.1+1+1==a.size)=true then pure (.done (some (k_ a b (c.2.1.push x) (c.2.2.1+1) c.2.2.2.1),c.2.1.push x,c.2.2.1+1,c.2.2.2.1,c.2.2.2.2.1+1,0))
   else if c.2.2.2.2.1+1≥g then pure (.done (none,c.2.1.push x,c.2.2.1+1,c.2.2.2.1,c.2.2.2.2.1+1,0))
   else pure (.yield (none,c.2.1.push x,c.2.2.1+1,c.2.2.2.1,c.2.2.2.2.1+1,0))
noncomputable def R8 (a b:Array Xd)(_:Nat)(c:Q0):StateT Xe Sem (ForInStep Q0):=do
 let d ←forIn [0:a.size+b.size] (none,c.2.1,c.2.2.1,c.2.2.2.1,0,0) (R7 a b c.2.2.2.2)
 match d.1 with
 |some r=>pure (.done (some r,d.2.1,d.2.2.1,d.2.2.2.1,c.2.2.2.2))
 |none=>do
  liftM (rule "list.sort.gallop")
  let e ←forIn [0:a.size+b.size] (none,d.2.1,d.2.2.1,d.2.2.2.1,c.2.2.2.2+1,d.2.2.2.2.1,d.2.2.2.2.2) (R6 a b)
  match e.1 with
  |some r=>pure (.done (some r,e.2.1,e.2.2.1,e.2.2.2.1,e.2.2.2.2.1))
  |none=>do
   bR (e.2.2.2.2.1+1)
   pure (.yield (none,e.2.1,e.2.2.1,e.2.2.2.1,e.2.2.2.2.1+1))
theorem uZ (a b:Array Xd):qX a b=(do
  liftM (rule "list.sort.merge-lo")
  let y ←acp b 0
  if (1==b.size)=true then pure (fT a b #[y] 0 1)
  else if (0+1==a.size)=true then pure (k_ a b #[y] 0 1)
  else do
   let st ←get
   let c ←forIn [0:a.size+b.size] ((none,#[y],0,1,aci st):Q0) (R8 a b)
   match c.1 with
   |some r=>pure r
   |none=>liftM (aaC "internal:list.sort.merge-bound")):=by kernel_rfl
section
variable {A:XD}{O:acJ}{key:Xd->O.α}{knd:aaZ}{D:Xd->Prop}
theorem pS (a:Array Xd)(i:Nat):(a.extract i a.size).toList=a.toList.drop i:=by
 rw[ZH,ZF];exact Yt (by simp)
theorem u4 (a:Array Xd)(i k:Nat):(a.extract i (i+k)).toList=(a.toList.drop i).take k:=by
 rw[ZH,ZF,YN]
theorem xc (a b out:Array Xd)(ia ib:Nat):(fT a b out ia ib).toList=out.toList++(a.toList.drop ia++b.toList.drop ib):=by
 unfold fT;rw[XS,XS,pS,pS,W8]
theorem FJ (a b out:Array Xd)(ia ib:Nat):(k_ a b out ia ib).toList=out.toList++(b.toList.drop ib++a.toList.drop ia):=by
 unfold k_;rw[XS,XS,pS,pS,W8]
theorem j_ (h:i<l.length):l.drop i=[l[i]]++l.drop (i+1):=XO h
theorem qY (i k:Nat):l.drop i=(l.drop i).take k++l.drop (i+k):=by rw[←acq,Xu]
def pT (key:Xd->O.α)(T:List Xd)(r:Array Xd):Prop:=r.toList.Perm T/\g9 key r.toList
structure LI (key:Xd->O.α)(T:List Xd)(a b out:Array Xd)(ia ib:Nat):Prop where
 ha:ia+1<a.size
 hb:ib<b.size
 mi:MI key T out.toList (a.toList.drop ia) (b.toList.drop ib)
structure LR (key:Xd->O.α)(D:Xd->Prop)(a b:Array Xd):Prop where
 da:∀x∈a.toList,D x
 db:∀x∈b.toList,D x
 last:∀i,i+1=a.size->∀y∈b.toList,∀x,a.toList[i]? = some x->O.kle (key y) (key x)
variable {T:List Xd}{a b out:Array Xd}{ia ib:Nat}
theorem LR.fin (R:LR key D a b)(h:MI key T out.toList (a.toList.drop ia) (b.toList.drop ib))(e:ia+1=a.size):pT key T (k_ a b out ia ib):=by
 unfold pT;rw[FJ];refine h.last λy hy x hx=>?_;have hl:ia<a.toList.length:=by rw[WO];lia
 have hn:a.toList.drop (ia+1)=[]:=Z3 (by rw[WO];lia);rw[j_ hl,hn,Xt,WU] at hx;subst hx;exact R.last ia e y (Y5 hy) _ (Wz hl)
theorem Bg (h:MI key T out.toList (a.toList.drop ia) (b.toList.drop ib))(e:ib=b.size):pT key T (fT a b out ia ib):=by
 have hn:b.toList.drop ib=[]:=Z3 (by rw[WO];lia);unfold pT;rw[xc];rw[hn] at h ⊢;rw[Xt];exact h.endA
theorem PB (h:MI key T out.toList (a.toList.drop ia) (b.toList.drop ib))(e:ia=a.size):pT key T (fT a b out ia ib):=by
 have hn:a.toList.drop ia=[]:=Z3 (by rw[WO];lia);unfold pT;rw[xc];rw[hn] at h ⊢;rw[YJ];exact h.endB
theorem jQ (h:g9 key (l.drop i))(hl:i<l.length):∀x∈l.drop i,O.kle (key l[i]) (key x):=by
 intro x hx;rw[j_ hl] at h hx;rcases W0.mp hx with hx|hx
 ·rw[WU] at hx;subst hx;exact Yy _
 ·exact (bh.mp h).2.2 _ (by simp) x hx
theorem Kr (h:MI key T out.toList (a.toList.drop ia) (b.toList.drop ib))(hl:ia<a.toList.length)(hx:∀y∈b.toList.drop ib,O.kle (key a.toList[ia]) (key y)):MI key T (out.push a.toList[ia]).toList (a.toList.drop (ia+1)) (b.toList.drop ib):=by
 rw[Ze];rw[j_ hl] at h;exact h.stepA λx oQ y hy=>by rw[WU] at oQ;subst oQ;exact hx y hy
theorem FK (h:MI key T out.toList (a.toList.drop ia) (b.toList.drop ib))(hl:ib<b.toList.length)(hx:∀x∈a.toList.drop ia,O.kle (key b.toList[ib]) (key x)):MI key T (out.push b.toList[ib]).toList (a.toList.drop ia) (b.toList.drop (ib+1)):=by
 rw[Ze];rw[j_ hl] at h;exact h.stepB λx oQ y hy=>by rw[WU] at oQ;subst oQ;exact hx y hy
def GE (key:Xd->O.α)(T:List Xd)(a b:Array Xd)(n:Nat)(cg:Xe)(c:Kq)(st:Xe):Prop:=
 (∃g,st=cX cg g)/\((∃r,c.1=some r/\pT key T r)\/(c.1=none/\LI key T a b c.2.1 c.2.2.1 c.2.2.2.1/\n<=c.2.2.1+c.2.2.2.1))
def GS (key:Xd->O.α)(T:List Xd)(a b:Array Xd)(n:Nat)(cg:Xe)(r:ForInStep Kq)(st:Xe):Prop:=
 match r with
 | .done c=>GE key T a b n cg c st
 | .yield c=>GE key T a b n cg c st/\c.1=none
theorem Bh (R:LR key D a b){k1:Nat}{st cg:Xe}(iB:∃g,st=cX cg g)(h:LI key T a b out ia ib)(hn:n<=ia+ib)(hx:∀(hl:ia<a.toList.length),∀y∈b.toList.drop ib,O.kle (key a.toList[ia]) (key y)) :
  wpS M A E s (Iu a b out ia ib g k k1) (GS key T a b n cg) st:=by
 have hl:ia<a.toList.length:=by have:=h.ha;rw[WO];lia
 have m:=Kr h.mi hl (hx hl);unfold Iu;refine W2 (bw (Wz hl) ?_);by_cases c:ia+1+1=a.size
 ·rw[hZ (by simpa using c)];exact W_ ⟨iB,.inl ⟨_,rfl,R.fin m c⟩⟩
 ·rw[hV (by simpa using c)];have L:LI key T a b (out.push a.toList[ia]) (ia+1) ib:=⟨by have:=h.ha;lia,h.hb,m⟩;by_cases c2:(decide (k<7)&&decide (k1<7))=true
  ·rw[hZ c2];exact W_ ⟨iB,.inr ⟨rfl,L,by simp only;lia⟩⟩
  ·rw[hV c2];exact W_ ⟨⟨iB,.inr ⟨rfl,L,by simp only;lia⟩⟩,rfl⟩
theorem Bi (C:k7 M A E s O key knd D)(R:LR key D a b){st cg:Xe}(iB:∃g,st=cX cg g)(kd:Ym cg=knd)(h:LI key T a b out ia ib)(hn:n<=ia+ib)(hx:∀(hl:ib<b.toList.length),∀x∈a.toList.drop ia,O.kle (key b.toList[ib]) (key x)) :
  wpS M A E s (Iv a b out ia ib g k bc) (GS key T a b n cg) st:=by
 have lF:ib<b.toList.length:=by have:=h.hb;rw[WO];lia
 have pF:ia<a.toList.length:=by have:=h.ha;rw[WO];lia
 have m:=FK h.mi lF (hx lF);have GI:Ym st=knd:=by obtain⟨g,rfl⟩:=iB;exact kd
 unfold Iv;refine W2 (bw (Wz lF) ?_);by_cases c:ib+1=b.size
 ·rw[hZ (by simpa using c)];exact W_ ⟨iB,.inl ⟨_,rfl,Bg m c⟩⟩
 ·rw[hV (by simpa using c)];refine W2 (bw (Wz pF) ?_);have cJ:b.size-(ib+1)=(b.toList.drop (ib+1)).length:=by rw[XA,WO]
  rw[cJ];refine W2 (k9 C (seg:=b.toList.drop (ib+1)) (λi x e=>by rw[aaW] at e;exact e) m.sb (λx hx=>R.db x (Y5 hx)) (R.da _ (Xp pF)) GI (by rw[←cJ];have:=h.hb;lia) λk1 Ab p1 p2=>?_);dsimp only;by_cases c1:k1>0
  ·rw[hZ c1];have m2:MI key T (out.push b.toList[ib]++b.extract (ib+1) (ib+1+k1)).toList (a.toList.drop ia) (b.toList.drop (ib+1+k1)):=by
    rw[XS,u4];have m':=m;rw[qY (l:=b.toList) (ib+1) k1] at m';exact m'.stepB λy hy x oQ=>Xw (XQ (p1 y hy)) (jQ h.mi.sa pF x oQ)
   by_cases c2:ib+1+k1=b.size
   ·rw[hZ (by simpa using c2)];exact W_ ⟨iB,.inl ⟨_,rfl,Bg m2 c2⟩⟩
   ·rw[hV (by simpa using c2)];have:k1<=b.size-(ib+1):=by rw[cJ];exact Ab
    refine Bh R iB ⟨h.ha,by have:=h.hb;lia,m2⟩ (by lia) λhl y hy=>?_;rw[←acq] at hy;exact p2 y hy
  ·rw[hV c1];have:k1=0:=by lia
   subst this;refine Bh R iB ⟨h.ha,by have:=h.hb;lia,m⟩ (by lia) λhl y hy=>p2 y hy
theorem Bj (C:k7 M A E s O key knd D)(R:LR key D a b){ac:Nat}{st cg:Xe}(iB:∃g,st=cX cg g)(kd:Ym cg=knd)(h:LI key T a b out ia ib)(hn:n<=ia+ib) :
  wpS M A E s (Iw a b out ia ib g ac bc) (GS key T a b n cg) st:=by
 have lF:ib<b.toList.length:=by have:=h.hb;rw[WO];lia
 have pF:ia<a.toList.length:=by have:=h.ha;rw[WO];lia
 unfold Iw bR;have yq:∃g',cX st g=cX cg g':=by obtain⟨g0,rfl⟩:=iB;exact⟨g,rfl⟩
 have GI:Ym (cX st g)=knd:=by obtain⟨g0,rfl⟩:=iB;exact kd
 refine W2 (aaL ?_);refine W2 (bw (Wz lF) ?_);have cJ:a.size-ia=(a.toList.drop ia).length:=by rw[XA,WO]
 rw[cJ];refine W2 (k8 C (seg:=a.toList.drop ia) (λi x e=>by rw[aaW] at e;exact e) h.mi.sa (λx hx=>R.da x (Y5 hx)) (R.db _ (Xp lF)) GI (by rw[←cJ];have:=h.ha;lia) λk hk p1 p2=>?_);dsimp only;by_cases c1:k>0
 ·rw[hZ c1];have m2:MI key T (out++a.extract ia (ia+k)).toList (a.toList.drop (ia+k)) (b.toList.drop ib):=by
   rw[XS,u4];have m':=h.mi;rw[qY (l:=a.toList) ia k] at m';exact m'.stepA λx hx y hy=>Xw (p1 x hx) (jQ h.mi.sb lF y hy)
  by_cases c2:ia+k+1=a.size
  ·rw[hZ (by simpa using c2)];exact W_ ⟨yq,.inl ⟨_,rfl,R.fin m2 c2⟩⟩
  ·rw[hV (by simpa using c2)];by_cases c3:ia+k=a.size
   ·rw[hZ (by simpa using c3)];exact W_ ⟨yq,.inl ⟨_,rfl,PB m2 c3⟩⟩
   ·rw[hV (by simpa using c3)];have:k<=a.size-ia:=by rw[cJ];exact hk
    refine Bi C R yq kd ⟨by have:=h.ha;lia,h.hb,m2⟩ (by lia) λhl x hx=>?_;rw[←acq] at hx;exact XQ (p2 x hx)
 ·rw[hV c1];have:k=0:=by lia
  subst this;exact Bi C R yq kd h hn λhl x hx=>XQ (p2 x hx)
theorem My (C:k7 M A E s O key knd D)(R:LR key D a b){c:Kq}{st cg:Xe}(iB:∃g,st=cX cg g)(kd:Ym cg=knd)(h:LI key T a b c.2.1 c.2.2.1 c.2.2.2.1)(hn:n<=c.2.2.1+c.2.2.2.1) :
  wpS M A E s (R6 a b i c) (GS key T a b n cg) st:=by
 unfold R6;split
 ·exact Bj C R iB kd h hn
 ·exact Bj C R iB kd h hn
theorem Mz (C:k7 M A E s O key knd D)(R:LR key D a b){c:NM}{st:Xe}{Q:ForInStep NM->Xe->Prop}(kd:Ym st=knd)(h:LI key T a b c.2.1 c.2.2.1 c.2.2.2.1)(h1:∀d:NM,(∃r,d.1=some r/\pT key T r)\/(d.1=none/\LI key T a b d.2.1 d.2.2.1 d.2.2.2.1/\c.2.2.1+c.2.2.2.1+1=d.2.2.1+d.2.2.2.1)->Q (.done d) st)(h2:∀d:NM,d.1=none->LI key T a b d.2.1 d.2.2.1 d.2.2.2.1->c.2.2.1+c.2.2.2.1+1=d.2.2.1+d.2.2.2.1->Q (.yield d) st) :
  wpS M A E s (R7 a b g i c) Q st:=by
 obtain⟨r0,out,ia,ib,ac,bc⟩:=c;dsimp only at h h1 h2 ⊢;have lF:ib<b.toList.length:=by have:=h.hb;rw[WO];lia
 have pF:ia<a.toList.length:=by have:=h.ha;rw[WO];lia
 unfold R7;dsimp only;refine W2 (bw (Wz lF) ?_);refine W2 (bw (Wz pF) ?_);refine W2 (C.lt _ _ st _ (R.db _ (Xp lF)) (R.da _ (Xp pF)) kd ?_);dsimp only;cases e:O.blt (key b.toList[ib]) (key a.toList[ia]) with
 |true=>
  rw[hZ rfl];have m:=FK h.mi lF λx hx=>Xw (XQ e) (jQ h.mi.sa pF x hx);refine W2 (bw (Wz lF) ?_);by_cases c:ib+1=b.size
  ·rw[hZ (by simpa using c)];exact W_ (h1 _ (.inl ⟨_,rfl,Bg m c⟩))
  ·rw[hV (by simpa using c)];have L:LI key T a b (out.push b.toList[ib]) ia (ib+1):=⟨h.ha,by have:=h.hb;lia,m⟩;split
   ·exact W_ (h1 _ (.inr ⟨rfl,L,by simp only;lia⟩))
   ·exact W_ (h2 _ rfl L (by simp only;lia))
 |false=>
  rw[hV WE];have m:=Kr h.mi pF λy hy=>Xw (show O.kle _ _ from e) (jQ h.mi.sb lF y hy);refine W2 (bw (Wz pF) ?_);by_cases c:ia+1+1=a.size
  ·rw[hZ (by simpa using c)];exact W_ (h1 _ (.inl ⟨_,rfl,R.fin m c⟩))
  ·rw[hV (by simpa using c)];have L:LI key T a b (out.push a.toList[ia]) (ia+1) ib:=⟨by have:=h.ha;lia,h.hb,m⟩;split
   ·exact W_ (h1 _ (.inr ⟨rfl,L,by simp only;lia⟩))
   ·exact W_ (h2 _ rfl L (by simp only;lia))
theorem MA (C:k7 M A E s O key knd D)(R:LR key D a b){c:Q0}{st cg:Xe}(iB:∃g,st=cX cg g)(kd:Ym cg=knd)(h:LI key T a b c.2.1 c.2.2.1 c.2.2.2.1) :
  wpS M A E s (R8 a b i c) (λr aH=>(∃g,aH=cX cg g)/\match r with
   | .done d=>∃r,d.1=some r/\pT key T r
   | .yield d=>d.1=none/\LI key T a b d.2.1 d.2.2.1 d.2.2.2.1/\c.2.2.1+c.2.2.2.1+1<=d.2.2.1+d.2.2.2.1) st:=by
 obtain⟨r0,out,ia,ib,g0⟩:=c;dsimp only at h ⊢;have GI:Ym st=knd:=by obtain⟨g,rfl⟩:=iB;exact kd
 unfold R8;dsimp only;have hs:1<=a.size+b.size:=by have:=h.hb;lia
 refine W2 (Zx (Yn (I:=λx d aH=>aH=st/\d.1=none/\LI key T a b d.2.1 d.2.2.1 d.2.2.2.1/\ia+ib+x=d.2.2.1+d.2.2.2.1)
  (Q:=λd aH=>aH=st/\((∃r,d.1=some r/\pT key T r)\/(d.1=none/\LI key T a b d.2.1 d.2.2.1 d.2.2.2.1/\ia+ib+1<=d.2.2.1+d.2.2.2.1))) ?step ?fin ⟨rfl,rfl,h,by simp only;lia⟩) ?post)
 case fin=>
  rintro d aH ⟨rfl,e1,e2,e3⟩;exact⟨rfl,.inr ⟨e1,e2,by lia⟩⟩
 case step=>
  rintro x d aH _ hx ⟨rfl,e1,e2,e3⟩;refine Mz C R GI e2 (λd' hd=>?_) λd' p1 p2 p3=>?_
  ·rcases hd with hd|⟨p1,p2,p3⟩
   ·exact⟨rfl,.inl hd⟩
   ·exact⟨rfl,.inr ⟨p1,p2,by lia⟩⟩
  ·exact⟨rfl,p1,p2,by lia⟩
 case post=>
  rintro d aH ⟨rfl,hd⟩;obtain⟨dr,dout,dia,dib,dac,dbc⟩:=d;dsimp only at hd ⊢;rcases hd with⟨r,rfl,hr⟩|⟨rfl,hL,hn⟩
  ·exact W_ ⟨iB,r,rfl,hr⟩
  ·dsimp only;refine W2 (wpS_lift (Y_ ⟨rfl,?_⟩));refine W2 (Zx (Yn (I:=λx d aH=>GE key T a b (ia+ib+1) cg d aH/\d.1=none)
    (Q:=λd aH=>GE key T a b (ia+ib+1) cg d aH) ?_ (λd aH h=>h.1) ⟨⟨iB,.inr ⟨rfl,hL,hn⟩⟩,rfl⟩) ?_)
   ·rintro x d aH _ hx ⟨⟨hs',hd⟩,e1⟩;rcases hd with⟨r,e2,_⟩|⟨_,e3,e4⟩
    ·rw[e1] at e2;cases e2
    ·refine Zx (My C R hs' kd e3 e4) λr NH hr=>?_;cases r with
     |done d'=>exact hr
     |yield d'=>exact hr
   ·rintro d aH ⟨hs',hd⟩;obtain⟨er,eout,eia,eib,eg,eac,ebc⟩:=d;dsimp only at hd ⊢;rcases hd with⟨r,rfl,hr⟩|⟨rfl,hL2,NW⟩
    ·exact W_ ⟨hs',r,rfl,hr⟩
    ·dsimp only;unfold bR;refine W2 (aaL (W_ ⟨?_,rfl,hL2,NW⟩));obtain⟨g,rfl⟩:=hs';exact⟨_,rfl⟩
theorem zE (C:k7 M A E s O key knd D)(R:LR key D a b){st:Xe}{Q:Array Xd->Xe->Prop}(kd:Ym st=knd)(sa:g9 key a.toList)(sb:g9 key b.toList)(ha:0<a.size)(hb:0<b.size)
  (first:∀y,b.toList[0]? = some y->∀x∈a.toList,O.kle (key y) (key x))
  (h:∀r g,r.toList.Perm (a.toList++b.toList)->g9 key r.toList->Q r (cX st g)):wpS M A E s (qX a b) Q st:=by
 have lF:0<b.toList.length:=by rw[WO];exact hb
 have m:MI key (a.toList++b.toList) (#[b.toList[0]]:Array Xd).toList (a.toList.drop 0) (b.toList.drop 1):=by
  have m0:MI key (a.toList++b.toList) (#[]:Array Xd).toList (a.toList.drop 0) (b.toList.drop 0):=
   ⟨by simp,List.Pairwise.nil,sa,sb,λx hx=>absurd hx (by simp),λx hx=>absurd hx (by simp)⟩
  exact FK m0 lF (λx hx=>first _ (Wz lF) x hx)
 have fin:∀r g,pT key (a.toList++b.toList) r->Q r (cX st g):=λr g hr=>h r g hr.1 hr.2;rw[uZ];refine W2 (wpS_lift (Y_ ⟨rfl,?_⟩));refine W2 (bw (Wz lF) ?_);by_cases c:1=b.size
 ·rw[hZ (by simpa using c)];exact W_ (fin _ (aci st) (Bg m c))
 ·rw[hV (by simpa using c)];by_cases c2:0+1=a.size
  ·rw[hZ (by simpa using c2)];exact W_ (fin _ (aci st) (R.fin m c2))
  ·rw[hV (by simpa using c2)];refine W2 (wpS_get ?_);refine W2 (Zx (Yn (I:=λx d aH=>(∃g,aH=cX st g)/\d.1=none/\LI key (a.toList++b.toList) a b d.2.1 d.2.2.1 d.2.2.2.1/\x<=d.2.2.1+d.2.2.2.1)
    (Q:=λd aH=>(∃g,aH=cX st g)/\∃r,d.1=some r/\pT key (a.toList++b.toList) r) ?step ?fin ⟨⟨aci st,rfl⟩,rfl,⟨by simp only;lia,by simp only;lia,m⟩,by simp only;lia⟩) ?post)
   case fin=>
    rintro d aH ⟨hs',e1,e2,e3⟩;have:=e2.ha;have:=e2.hb;lia
   case step=>
    rintro x d aH _ hx ⟨hs',e1,e2,e3⟩;refine Zx (MA C R hs' kd e2) λr NH hr=>?_;obtain⟨bT,hr⟩:=hr;cases r with
    |done d'=>exact⟨bT,hr⟩
    |yield d'=>exact⟨bT,hr.1,hr.2.1,by have:=hr.2.2;lia⟩
   case post=>
    rintro d aH ⟨⟨g,rfl⟩,r,e,hr⟩;obtain⟨dr,d'⟩:=d;dsimp only at e ⊢;subst e;exact W_ (fin r g hr)
end
end Hc.Ts
namespace Hc.Ts
noncomputable def qZ:Array Xd->Array Xd->StateT Xe Sem (Array Xd):=sortPriv% PySem.Builtin.mergeHi
noncomputable abbrev Ks:=Option (Array Xd)×Nat×Nat×Array Xd×Nat×Nat×Nat
noncomputable abbrev NN:=Option (Array Xd)×Nat×Nat×Array Xd×Nat×Nat
noncomputable abbrev Q1:=Option (Array Xd)×Nat×Nat×Array Xd×Nat
noncomputable def fU (a b out:Array Xd)(na nb:Nat):Array Xd:=a.extract 0 na++b.extract 0 nb++out.reverse
noncomputable def jc (a b out:Array Xd)(na nb:Nat):Array Xd:=b.extract 0 nb++a.extract 0 na++out.reverse
noncomputable def Iy (a b out:Array Xd)(na nb g k k1:Nat):StateT Xe Sem (ForInStep Ks):=do
 let x ←acp a (na-1)
 if (na-1==0)=true then pure (.done (some (fU a b (out.push x) (na-1) nb),na-1,nb,out.push x,g,k,k1))
 else if (decide (k<7)&&decide (k1<7))=true then pure (.done (none,na-1,nb,out.push x,g,k,k1))
 else pure (.yield (none,na-1,nb,out.push x,g,k,k1))
noncomputable def Iz (a b out:Array Xd)(na nb g k bc:Nat):StateT Xe Sem (ForInStep Ks):=do
 let y ←acp b (nb-1)
 if (nb-1==1)=true then pure (.done (some (jc a b (out.push y) na (nb-1)),na,nb-1,out.push y,g,k,bc))
 else do
  let x ←acp a (na-1)
  let some j1 ←fy true x b 0 (nb-1) (nb-1-1)|pure (.done (some (fU a b (out.push y) na (nb-1)),na,nb-1,out.push y,g,k,bc))
  if nb-1-j1>0 then
   if (j1==1)=true then pure (.done (some (jc a b (out.push y++(b.extract j1 (nb-1)).reverse) na j1),na,j1,out.push y++(b.extract j1 (nb-1)).reverse,g,k,nb-1-j1))
   else if (j1==0)=true then pure (.done (some (fU a b (out.push y++(b.extract j1 (nb-1)).reverse) na j1),na,j1,out.push y++(b.extract j1 (nb-1)).reverse,g,k,nb-1-j1))
   else Iy a b (out.push y++(b.extract j1 (nb-1)).reverse) na j1 g k (nb-1-j1)
  else Iy a b (out.push y) na (nb-1) g k (nb-1-j1)
noncomputable def IA (a b out:Array Xd)(na nb g ac bc:Nat):StateT Xe Sem (ForInStep Ks):=do
 bR g
 let y ←acp b (nb-1)
 let some uv ←fy false y a 0 na (na-1)|pure (.done (some (fU a b out na nb),na,nb,out,g,ac,bc))
 if na-uv>0 then
  if (uv==0)=true then pure (.done (some (fU a b (out++(a.extract uv na).reverse) uv nb),uv,nb,out++(a.extract uv na).reverse,g,na-uv,bc))
  else Iz a b (out++(a.extract uv na).reverse) uv nb g (na-uv) bc
 else Iz a b out na nb g (na-uv) bc
noncomputable def R9 (a b:Array Xd)(_:Nat)(c:Ks):StateT Xe Sem (ForInStep Ks):=
 if c.2.2.2.2.1>1 then IA a b c.2.2.2.1 c.2.1 c.2.2.1 (c.2.2.2.2.1-1) c.2.2.2.2.2.1 c.2.2.2.2.2.2
 else IA a b c.2.2.2.1 c.2.1 c.2.2.1 c.2.2.2.2.1 c.2.2.2.2.2.1 c.2.2.2.2.2.2
noncomputable def R_ (a b:Array Xd)(g:Nat)(_:Nat)(c:NN):StateT Xe Sem (ForInStep NN):=do
 let y ←acp b (c.2.2.1-1)
 let x ←acp a (c.2.1-1)
 let some aWins ←lt' y x|pure (.done (some (fU a b c.2.2.2.1 c.2.1 c.2.2.1),c.2.1,c.2.2.1,c.2.2.2.1,c.2.2.2.2.1,c.2.2.2.2.2))
 if aWins=true then do
  let x ←acp a (c.2.1-1)
  if (c.2.1-1==0)=true then pure (.done (some (fU a b (c.2.2.2.1.push x) (c.2.1-1) c.2.2.1),c.2.1-1,c.2.2.1,c.2.2.2.1.push x,c.2.2.2.2.1+1,0))
  else if c.2.2.2.2.1+1≥g then pure (.done (none,c.2.1-1,c.2.2.1,c.2.2.2.1.push x,c.2.2.2.2.1+1,0))
  else pure (.yield (none,c.2.1-1,c.2.2.1,c.2.2.2.1.push x,c.2.2.2.2.1+1,0))
 else do
  let y ←acp b (c.2.2.1-1)
  if (c.2.2.1-1==1)=true then pure (.done (some (jc a b (c.2.2.2.1.push y) c.2.1 (c.2.2.1-1)),c.2.1,c.2.2.1-1,c.2.2.2.1.push y,0,c.2.2.2.2.2+1))
  else if c.2.2.2.2.2+1≥g then pure (.done (none,c.2.1,c.2.2.1-1,c.2.2.2.1.push y,0,c.2.2.2.2.2+1))
  else pure (.yield (none,c.2.1,c.2.2.1-1,c.2.2.2.1.push y,0,c.2.2.2.2.2+1))
noncomputable def Sa (a b:Array Xd)(_:Nat)(c:Q1):StateT Xe Sem (ForInStep Q1):=do
 let d ←forIn [0:a.size+b.size] (none,c.2.1,c.2.2.1,c.2.2.2.1,0,0) (R_ a b c.2.2.2.2)
 match d.1 with
 |some r=>pure (.done (some r,d.2.1,d.2.2.1,d.2.2.2.1,c.2.2.2.2))
 |none=>do
  liftM (rule "list.sort.gallop")
  let e ←forIn [0:a.size+b.size] (none,d.2.1,d.2.2.1,d.2.2.2.1,c.2.2.2.2+1,d.2.2.2.2.1,d.2.2.2.2.2) (R9 a b)
  match e.1 with
  |some r=>pure (.done (some r,e.2.1,e.2.2.1,e.2.2.2.1,e.2.2.2.2.1))
  |none=>do
   bR (e.2.2.2.2.1+1)
   pure (.yield (none,e.2.1,e.2.2.1,e.2.2.2.1,e.2.2.2.2.1+1))
theorem u5 (a b:Array Xd):qZ a b=(do
  liftM (rule "list.sort.merge-hi")
  let x ←acp a (a.size-1)
  if (a.size-1==0)=true then pure (fU a b #[x] (a.size-1) b.size)
  else if (b.size==1)=true then pure (jc a b #[x] (a.size-1) b.size)
  else do
   let st ←get
   let c ←forIn [0:a.size+b.size] ((none,a.size-1,b.size,#[x],aci st):Q1) (Sa a b)
   match c.1 with
   |some r=>pure r
   |none=>liftM (aaC "internal:list.sort.merge-bound")):=by kernel_rfl
section
variable {A:XD}{O:acJ}{key:Xd->O.α}{knd:aaZ}{D:Xd->Prop}
theorem u6 (a:Array Xd)(n:Nat):(a.extract 0 n).toList=a.toList.take n:=by
 rw[ZH,ZF];rfl
theorem u7 (a:Array Xd)(i n:Nat):(a.extract i n).toList=(a.toList.take n).drop i:=by
 rw[ZH,ZF,List.drop_take]
theorem xf (a b out:Array Xd)(na nb:Nat):(fU a b out na nb).toList=(a.toList.take na++b.toList.take nb)++out.toList.reverse:=by
 unfold fU;rw[XS,XS,u6,u6,aaq]
theorem CQ (a b out:Array Xd)(na nb:Nat):(jc a b out na nb).toList=(b.toList.take nb++a.toList.take na)++out.toList.reverse:=by
 unfold jc;rw[XS,XS,u6,u6,aaq]
theorem ny (h0:0<n)(h:n-1<l.length):l.take n=l.take (n-1)++[l[n-1]]:=by
 obtain⟨m,rfl⟩:∃m,n=m+1:=⟨n-1,by lia⟩;simp only[Nat.add_sub_cancel] at h ⊢;exact Xi h
theorem q_ (h:k<=n):l.take n=l.take k++(l.take n).drop k:=by
 conv=>lhs;rw[←Xu k (l.take n)]
 rw[List.take_take,Yx h]
structure HI (key:Xd->O.α)(T:List Xd)(a b out:Array Xd)(na nb:Nat):Prop where
 a0:0<na
 a1:na<=a.size
 b0:1<nb
 b1:nb<=b.size
 mh:MH key T (a.toList.take na) (b.toList.take nb) out.toList.reverse
structure HR (key:Xd->O.α)(D:Xd->Prop)(a b:Array Xd):Prop where
 da:∀x∈a.toList,D x
 db:∀x∈b.toList,D x
 first:∀y,b.toList[0]? = some y->∀x∈a.toList,O.kle (key y) (key x)
variable {T:List Xd}{a b out:Array Xd}{na nb:Nat}
theorem HR.fin (R:HR key D a b)(h:MH key T (a.toList.take na) (b.toList.take nb) out.toList.reverse)(e:nb=1):pT key T (jc a b out na nb):=by
 unfold pT;rw[CQ];refine h.first λy hy x hx=>?_
 subst e;cases hb:b.toList with
 |nil=>rw[hb] at hy;cases hy
 |cons z r=>
  rw[hb] at hy;have:y=z:=by simpa using hy
  subst this;exact R.first y (by rw[hb];rfl) x (Yi hx)
theorem u9 (h:MH key T (a.toList.take na) (b.toList.take nb) out.toList.reverse)(e:na=0):pT key T (fU a b out na nb):=by
 subst e;unfold pT;rw[xf];rw[List.take_zero] at h ⊢;rw[YJ];exact h.endB
theorem MB (h:MH key T (a.toList.take na) (b.toList.take nb) out.toList.reverse)(e:nb=0):pT key T (fU a b out na nb):=by
 subst e;unfold pT;rw[xf];rw[List.take_zero] at h ⊢;rw[Xt];exact h.endA
theorem gH (h:g9 key (l.take n))(h0:0<n)(hl:n-1<l.length):∀x∈l.take n,O.kle (key x) (key l[n-1]):=by
 intro x hx;rw[ny h0 hl] at h hx;rcases W0.mp hx with hx|hx
 ·exact (bh.mp h).2.2 x hx _ (by simp)
 ·rw[WU] at hx;subst hx;exact Yy _
theorem zF (h:MH key T (a.toList.take na) (b.toList.take nb) out.toList.reverse)(h0:0<na)(hl:na-1<a.toList.length)(hx:∀y∈b.toList.take nb,O.kle (key y) (key a.toList[na-1])):MH key T (a.toList.take (na-1)) (b.toList.take nb) (out.push a.toList[na-1]).toList.reverse:=by
 rw[Ze,aaG];rw[ny h0 hl] at h;exact h.stepA λy hy x oQ=>by rw[WU] at oQ;subst oQ;exact hx y hy
theorem FN (h:MH key T (a.toList.take na) (b.toList.take nb) out.toList.reverse)(h0:0<nb)(hl:nb-1<b.toList.length)(hx:∀x∈a.toList.take na,O.kle (key x) (key b.toList[nb-1])):MH key T (a.toList.take na) (b.toList.take (nb-1)) (out.push b.toList[nb-1]).toList.reverse:=by
 rw[Ze,aaG];rw[ny h0 hl] at h;exact h.stepB λx oQ y hy=>by rw[WU] at hy;subst hy;exact hx x oQ
def HE (key:Xd->O.α)(T:List Xd)(a b:Array Xd)(n:Nat)(cg:Xe)(c:Ks)(st:Xe):Prop:=
 (∃g,st=cX cg g)/\((∃r,c.1=some r/\pT key T r)\/(c.1=none/\HI key T a b c.2.2.2.1 c.2.1 c.2.2.1/\c.2.1+c.2.2.1<=n))
def HS (key:Xd->O.α)(T:List Xd)(a b:Array Xd)(n:Nat)(cg:Xe)(r:ForInStep Ks)(st:Xe):Prop:=
 match r with
 | .done c=>HE key T a b n cg c st
 | .yield c=>HE key T a b n cg c st/\c.1=none
theorem Bk (R:HR key D a b){k1:Nat}{st cg:Xe}(iB:∃g,st=cX cg g)(h:HI key T a b out na nb)(hn:na+nb<=n)(hx:∀(hl:na-1<a.toList.length),∀y∈b.toList.take nb,O.kle (key y) (key a.toList[na-1])) :
  wpS M A E s (Iy a b out na nb g k k1) (HS key T a b n cg) st:=by
 have hl:na-1<a.toList.length:=by have:=h.a0;have:=h.a1;rw[WO];lia
 have m:=zF h.mh h.a0 hl (hx hl);unfold Iy;refine W2 (bw (Wz hl) ?_);by_cases c:na-1=0
 ·rw[hZ (by simpa using c)];exact W_ ⟨iB,.inl ⟨_,rfl,u9 m c⟩⟩
 ·rw[hV (by simpa using c)];have L:HI key T a b (out.push a.toList[na-1]) (na-1) nb:=⟨by lia,by have:=h.a1;lia,h.b0,h.b1,m⟩;by_cases c2:(decide (k<7)&&decide (k1<7))=true
  ·rw[hZ c2];exact W_ ⟨iB,.inr ⟨rfl,L,by simp only;lia⟩⟩
  ·rw[hV c2];exact W_ ⟨⟨iB,.inr ⟨rfl,L,by simp only;lia⟩⟩,rfl⟩
theorem Bl (C:k7 M A E s O key knd D)(R:HR key D a b){st cg:Xe}(iB:∃g,st=cX cg g)(kd:Ym cg=knd)(h:HI key T a b out na nb)(hn:na+nb<=n)(hx:∀(hl:nb-1<b.toList.length),∀x∈a.toList.take na,O.kle (key x) (key b.toList[nb-1])) :
  wpS M A E s (Iz a b out na nb g k bc) (HS key T a b n cg) st:=by
 have lF:nb-1<b.toList.length:=by have:=h.b0;have:=h.b1;rw[WO];lia
 have pF:na-1<a.toList.length:=by have:=h.a0;have:=h.a1;rw[WO];lia
 have b0:=h.b0;have b1:=h.b1;have a0:=h.a0;have a1:=h.a1;have m:=FN h.mh (by lia) lF (hx lF);have GI:Ym st=knd:=by obtain⟨g,rfl⟩:=iB;exact kd
 unfold Iz;refine W2 (bw (Wz lF) ?_);by_cases c:nb-1=1
 ·rw[hZ (by simpa using c)];exact W_ ⟨iB,.inl ⟨_,rfl,R.fin m c⟩⟩
 ·rw[hV (by simpa using c)];refine W2 (bw (Wz pF) ?_);have cJ:(b.toList.take (nb-1)).length=nb-1:=by rw[Xc,WO];lia
  have GJ:=λQ=>k9 C (Q:=Q) (kx:=a.toList[na-1]) (arr:=b) (base:=0) (hint:=nb-1-1) (seg:=b.toList.take (nb-1)) (st:=st) (λi x e=>by
   rw[Zs];rw[aa0] at e;split at e
   ·exact e
   ·cases e) m.sb (λx hx=>R.db x (Yi hx)) (R.da _ (Xp pF)) GI (by rw[cJ];lia)
  rw[cJ] at GJ;refine W2 (GJ _ λj1 Ab p1 p2=>?_);dsimp only;rw[List.take_take,Yx Ab] at p1;by_cases c1:nb-1-j1>0
  ·rw[hZ c1];have m2:MH key T (a.toList.take na) (b.toList.take j1) (out.push b.toList[nb-1]++(b.extract j1 (nb-1)).reverse).toList.reverse:=by
    rw[XS,aaq,aaG,List.reverse_reverse,u7];have m':=m;rw[q_ (l:=b.toList) (n:=nb-1) (k:=j1) (by lia)] at m';exact m'.stepB λx oQ y hy=>Xw (gH h.mh.sa a0 pF x oQ) (p2 y hy)
   by_cases c2:j1=1
   ·rw[hZ (by simpa using c2)];exact W_ ⟨iB,.inl ⟨_,rfl,R.fin m2 c2⟩⟩
   ·rw[hV (by simpa using c2)];by_cases c3:j1=0
    ·rw[hZ (by simpa using c3)];exact W_ ⟨iB,.inl ⟨_,rfl,MB m2 c3⟩⟩
    ·rw[hV (by simpa using c3)];refine Bk R iB ⟨a0,a1,by lia,by lia,m2⟩ (by lia) λhl y hy=>XQ (p1 y hy)
  ·rw[hV c1];have:j1=nb-1:=by lia
   subst this;refine Bk R iB ⟨a0,a1,by lia,by lia,m⟩ (by lia) λhl y hy=>XQ (p1 y hy)
theorem Bm (C:k7 M A E s O key knd D)(R:HR key D a b){ac:Nat}{st cg:Xe}(iB:∃g,st=cX cg g)(kd:Ym cg=knd)(h:HI key T a b out na nb)(hn:na+nb<=n) :
  wpS M A E s (IA a b out na nb g ac bc) (HS key T a b n cg) st:=by
 have lF:nb-1<b.toList.length:=by have:=h.b0;have:=h.b1;rw[WO];lia
 have pF:na-1<a.toList.length:=by have:=h.a0;have:=h.a1;rw[WO];lia
 have b0:=h.b0;have b1:=h.b1;have a0:=h.a0;have a1:=h.a1;unfold IA bR;have yq:∃g',cX st g=cX cg g':=by obtain⟨g0,rfl⟩:=iB;exact⟨g,rfl⟩
 have GI:Ym (cX st g)=knd:=by obtain⟨g0,rfl⟩:=iB;exact kd
 refine W2 (aaL ?_);refine W2 (bw (Wz lF) ?_);have cJ:(a.toList.take na).length=na:=by rw[Xc,WO];lia
 have GJ:=λQ=>k8 C (Q:=Q) (kx:=b.toList[nb-1]) (arr:=a) (base:=0) (hint:=na-1) (seg:=a.toList.take na) (st:=cX st g) (λi x e=>by
   rw[Zs];rw[aa0] at e;split at e
   ·exact e
   ·cases e) h.mh.sa (λx hx=>R.da x (Yi hx)) (R.db _ (Xp lF)) GI (by rw[cJ];lia)
 rw[cJ] at GJ;refine W2 (GJ _ λuv hk p1 p2=>?_);dsimp only;rw[List.take_take,Yx hk] at p1;by_cases c1:na-uv>0
 ·rw[hZ c1];have m2:MH key T (a.toList.take uv) (b.toList.take nb) (out++(a.extract uv na).reverse).toList.reverse:=by
   rw[XS,aaq,aaG,List.reverse_reverse,u7];have m':=h.mh;rw[q_ (l:=a.toList) (n:=na) (k:=uv) (by lia)] at m';exact m'.stepA λy hy x hx=>Xw (gH h.mh.sb (by lia) lF y hy) (XQ (p2 x hx))
  by_cases c2:uv=0
  ·rw[hZ (by simpa using c2)];exact W_ ⟨yq,.inl ⟨_,rfl,u9 m2 c2⟩⟩
  ·rw[hV (by simpa using c2)];exact Bl C R yq kd ⟨by lia,by lia,b0,b1,m2⟩ (by lia) λhl x hx=>p1 x hx
 ·rw[hV c1];have:uv=na:=by lia
  subst this;exact Bl C R yq kd h hn λhl x hx=>p1 x hx
theorem MC (C:k7 M A E s O key knd D)(R:HR key D a b){c:Ks}{st cg:Xe}(iB:∃g,st=cX cg g)(kd:Ym cg=knd)(h:HI key T a b c.2.2.2.1 c.2.1 c.2.2.1)(hn:c.2.1+c.2.2.1<=n) :
  wpS M A E s (R9 a b i c) (HS key T a b n cg) st:=by
 unfold R9;split
 ·exact Bm C R iB kd h hn
 ·exact Bm C R iB kd h hn
theorem MD (C:k7 M A E s O key knd D)(R:HR key D a b){c:NN}{st:Xe}{Q:ForInStep NN->Xe->Prop}(kd:Ym st=knd)(h:HI key T a b c.2.2.2.1 c.2.1 c.2.2.1)(h1:∀d:NN,(∃r,d.1=some r/\pT key T r)\/(d.1=none/\HI key T a b d.2.2.2.1 d.2.1 d.2.2.1/\c.2.1+c.2.2.1=d.2.1+d.2.2.1+1)->Q (.done d) st)(h2:∀d:NN,d.1=none->HI key T a b d.2.2.2.1 d.2.1 d.2.2.1->c.2.1+c.2.2.1=d.2.1+d.2.2.1+1->Q (.yield d) st) :
  wpS M A E s (R_ a b g i c) Q st:=by
 obtain⟨r0,na,nb,out,ac,bc⟩:=c;dsimp only at h h1 h2 ⊢;have lF:nb-1<b.toList.length:=by have:=h.b0;have:=h.b1;rw[WO];lia
 have pF:na-1<a.toList.length:=by have:=h.a0;have:=h.a1;rw[WO];lia
 have b0:=h.b0;have b1:=h.b1;have a0:=h.a0;have a1:=h.a1;unfold R_;dsimp only;refine W2 (bw (Wz lF) ?_);refine W2 (bw (Wz pF) ?_);refine W2 (C.lt _ _ st _ (R.db _ (Xp lF)) (R.da _ (Xp pF)) kd ?_);dsimp only;cases e:O.blt (key b.toList[nb-1]) (key a.toList[na-1]) with
 |true=>
  rw[hZ rfl];have m:=zF h.mh a0 pF λy hy=>Xw (gH h.mh.sb (by lia) lF y hy) (XQ e);refine W2 (bw (Wz pF) ?_);by_cases c:na-1=0
  ·rw[hZ (by simpa using c)];exact W_ (h1 _ (.inl ⟨_,rfl,u9 m c⟩))
  ·rw[hV (by simpa using c)];have L:HI key T a b (out.push a.toList[na-1]) (na-1) nb:=⟨by lia,by lia,b0,b1,m⟩;split
   ·exact W_ (h1 _ (.inr ⟨rfl,L,by simp only;lia⟩))
   ·exact W_ (h2 _ rfl L (by simp only;lia))
 |false=>
  rw[hV WE];have m:=FN h.mh (by lia) lF λx hx=>Xw (gH h.mh.sa a0 pF x hx) (show O.kle _ _ from e);refine W2 (bw (Wz lF) ?_);by_cases c:nb-1=1
  ·rw[hZ (by simpa using c)];exact W_ (h1 _ (.inl ⟨_,rfl,R.fin m c⟩))
  ·rw[hV (by simpa using c)];have L:HI key T a b (out.push b.toList[nb-1]) na (nb-1):=⟨a0,a1,by lia,by lia,m⟩;split
   ·exact W_ (h1 _ (.inr ⟨rfl,L,by simp only;lia⟩))
   ·exact W_ (h2 _ rfl L (by simp only;lia))
theorem ME (C:k7 M A E s O key knd D)(R:HR key D a b){c:Q1}{st cg:Xe}(iB:∃g,st=cX cg g)(kd:Ym cg=knd)(h:HI key T a b c.2.2.2.1 c.2.1 c.2.2.1) :
  wpS M A E s (Sa a b i c) (λr aH=>(∃g,aH=cX cg g)/\match r with
   | .done d=>∃r,d.1=some r/\pT key T r
   | .yield d=>d.1=none/\HI key T a b d.2.2.2.1 d.2.1 d.2.2.1/\d.2.1+d.2.2.1+1<=c.2.1+c.2.2.1) st:=by
 obtain⟨r0,na,nb,out,g0⟩:=c;dsimp only at h ⊢;have GI:Ym st=knd:=by obtain⟨g,rfl⟩:=iB;exact kd
 have b0:=h.b0;have b1:=h.b1;have a0:=h.a0;have a1:=h.a1;unfold Sa;dsimp only;have hs:1<=a.size+b.size:=by lia
 refine W2 (Zx (Yn (I:=λx d aH=>aH=st/\d.1=none/\HI key T a b d.2.2.2.1 d.2.1 d.2.2.1/\na+nb=d.2.1+d.2.2.1+x)
  (Q:=λd aH=>aH=st/\((∃r,d.1=some r/\pT key T r)\/(d.1=none/\HI key T a b d.2.2.2.1 d.2.1 d.2.2.1/\d.2.1+d.2.2.1+1<=na+nb))) ?step ?fin ⟨rfl,rfl,h,by simp only;lia⟩) ?post)
 case fin=>
  rintro d aH ⟨rfl,e1,e2,e3⟩;exact⟨rfl,.inr ⟨e1,e2,by lia⟩⟩
 case step=>
  rintro x d aH _ hx ⟨rfl,e1,e2,e3⟩;refine MD C R GI e2 (λd' hd=>?_) λd' p1 p2 p3=>?_
  ·rcases hd with hd|⟨p1,p2,p3⟩
   ·exact⟨rfl,.inl hd⟩
   ·exact⟨rfl,.inr ⟨p1,p2,by lia⟩⟩
  ·exact⟨rfl,p1,p2,by lia⟩
 case post=>
  rintro d aH ⟨rfl,hd⟩;obtain⟨dr,dna,dnb,dout,dac,dbc⟩:=d;dsimp only at hd ⊢;rcases hd with⟨r,rfl,hr⟩|⟨rfl,hL,hn⟩
  ·exact W_ ⟨iB,r,rfl,hr⟩
  ·dsimp only;refine W2 (wpS_lift (Y_ ⟨rfl,?_⟩));refine W2 (Zx (Yn (I:=λx d aH=>HE key T a b (na+nb-1) cg d aH/\d.1=none)
    (Q:=λd aH=>HE key T a b (na+nb-1) cg d aH) ?_ (λd aH h=>h.1) ⟨⟨iB,.inr ⟨rfl,hL,by simp only;lia⟩⟩,rfl⟩) ?_)
   ·rintro x d aH _ hx ⟨⟨hs',hd⟩,e1⟩;rcases hd with⟨r,e2,_⟩|⟨_,e3,e4⟩
    ·rw[e1] at e2;cases e2
    ·refine Zx (MC C R hs' kd e3 e4) λr NH hr=>?_;cases r with
     |done d'=>exact hr
     |yield d'=>exact hr
   ·rintro d aH ⟨hs',hd⟩;obtain⟨er,ena,enb,eout,eg,eac,ebc⟩:=d;dsimp only at hd ⊢;rcases hd with⟨r,rfl,hr⟩|⟨rfl,hL2,NW⟩
    ·exact W_ ⟨hs',r,rfl,hr⟩
    ·dsimp only;unfold bR;refine W2 (aaL (W_ ⟨?_,rfl,hL2,by simp only;lia⟩));obtain⟨g,rfl⟩:=hs';exact⟨_,rfl⟩
theorem zG (C:k7 M A E s O key knd D)(R:HR key D a b){st:Xe}{Q:Array Xd->Xe->Prop}(kd:Ym st=knd)(sa:g9 key a.toList)(sb:g9 key b.toList)(ha:0<a.size)(hb:0<b.size)
  (last:∀i,i+1=a.size->∀y∈b.toList,∀x,a.toList[i]? = some x->O.kle (key y) (key x))
  (h:∀r g,r.toList.Perm (a.toList++b.toList)->g9 key r.toList->Q r (cX st g)):wpS M A E s (qZ a b) Q st:=by
 have pF:a.size-1<a.toList.length:=by rw[WO];lia
 have ta:a.toList.take a.size=a.toList:=Yt (by simp);have tb:b.toList.take b.size=b.toList:=Yt (by simp);have m:MH key (a.toList++b.toList) (a.toList.take (a.size-1)) (b.toList.take b.size) (#[a.toList[a.size-1]]:Array Xd).toList.reverse:=by
  have m0:MH key (a.toList++b.toList) (a.toList.take a.size) (b.toList.take b.size) (#[]:Array Xd).toList.reverse:=by
   rw[ta,tb];exact⟨by simp,List.Pairwise.nil,sa,sb,λx _ y hy=>absurd hy (by simp),λx _ y hy=>absurd hy (by simp)⟩
  exact zF m0 ha pF (λy hy=>last (a.size-1) (by lia) y (Yi hy) _ (Wz pF))
 have fin:∀r g,pT key (a.toList++b.toList) r->Q r (cX st g):=λr g hr=>h r g hr.1 hr.2;rw[u5];refine W2 (wpS_lift (Y_ ⟨rfl,?_⟩));refine W2 (bw (Wz pF) ?_);by_cases c:a.size-1=0
 ·rw[hZ (by simpa using c)];exact W_ (fin _ (aci st) (u9 m c))
 ·rw[hV (by simpa using c)];by_cases c2:b.size=1
  ·rw[hZ (by simpa using c2)];exact W_ (fin _ (aci st) (R.fin m c2))
  ·rw[hV (by simpa using c2)];refine W2 (wpS_get ?_);refine W2 (Zx (Yn (I:=λx d aH=>(∃g,aH=cX st g)/\d.1=none/\HI key (a.toList++b.toList) a b d.2.2.2.1 d.2.1 d.2.2.1/\d.2.1+d.2.2.1+x<=a.size+b.size)
    (Q:=λd aH=>(∃g,aH=cX st g)/\∃r,d.1=some r/\pT key (a.toList++b.toList) r) ?step ?fin ⟨⟨aci st,rfl⟩,rfl,⟨by simp only;lia,by simp only;lia,by simp only;lia,by simp only;lia,m⟩,by simp only;lia⟩) ?post)
   case fin=>
    rintro d aH ⟨hs',e1,e2,e3⟩;have:=e2.a0;have:=e2.b0;lia
   case step=>
    rintro x d aH _ hx ⟨hs',e1,e2,e3⟩;refine Zx (ME C R hs' kd e2) λr NH hr=>?_;obtain⟨bT,hr⟩:=hr;cases r with
    |done d'=>exact⟨bT,hr⟩
    |yield d'=>exact⟨bT,hr.1,hr.2.1,by have:=hr.2.2;lia⟩
   case post=>
    rintro d aH ⟨⟨g,rfl⟩,r,e,hr⟩;obtain⟨dr,d'⟩:=d;dsimp only at e ⊢;subst e;exact W_ (fin r g hr)
end
end Hc.Ts
namespace Hc.Ts
noncomputable def ke (l:List Xd)(sa:Nat)(a:Array Xd):Array Xd:=l.zipIdx.foldl (λa (p,j)=>a.setIfInBounds (sa+j) p) a
noncomputable def MF (x y:Array Xd)(sa na nb:Nat):StateT Xe Sem Bool:=do
 let merged ←if na<=nb then qX x y else qZ x y
 modify λs=>setArr s (ke merged.toList sa (Xz s))
 let s ←get
 pure (aaA s).isNone
theorem xg (i:Nat):mergeAt' i=(do
 let st ←get
 let (some (p,n,pw),some (q,m,_)):=((Xv st)[i]?,(Xv st)[i+1]?)|aaC "internal:list.sort.pending"
 set (setPending st (((Xv st).setIfInBounds i (p,n+m,pw)).eraseIdxIfInBounds (i+1)))
 let some k ←fy false (←acp (Xz st) q) (Xz st) p n 0|return false
 let (p,n):=(p+k,n-k)
 if n==0 then return true
 let some m ←fy true (←acp (Xz st) (p+n-1)) (Xz st) q m (m-1)|return false
 if m==0 then return true
 MF ((Xz st).extract p q) ((Xz st).extract q (q+m)) p n m):=by kernel_rfl
section
variable {A:XD}{O:acJ}{key:Xd->O.α}{knd:aaZ}{D:Xd->Prop}
theorem rf:∀(l m P S:List Xd) (n sa:Nat) (a:Array Xd),m.length=l.length->sa+n=P.length->a.toList=P++(m++S)->((l.zipIdx n).foldl (λa (p,j)=>a.setIfInBounds (sa+j) p) a).toList=P++(l++S)
 | [],m,P,S,n,sa,a,h1,h2,h3=>by
  have:m=[]:=YA h1;subst this;exact h3
 |p::l,[],P,S,n,sa,a,h1,h2,h3=>by cases h1
 |p::l,q::m,P,S,n,sa,a,h1,h2,h3=>by
  rw[List.zipIdx_cons,YX];have h4:(a.setIfInBounds (sa+n) p).toList=(P++[p])++(m++S):=by
   rw[ab4,h3,h2,aaz,List.set_append_right _ _ (WR _),acg,aa1];simp
  have:=rf l m (P++[p]) S (n+1) sa (a.setIfInBounds (sa+n) p) (by simpa using h1) (by rw[WN,YF];lia) h4;rw[this];simp
theorem CS {m P:List Xd}{sa:Nat}{a:Array Xd}(h1:m.length=l.length)(h2:sa=P.length)(h3:a.toList=P++(m++S)):(ke l sa a).toList=P++(l++S):=
 rf l m P S 0 sa a h1 (by lia) h3
theorem IB (C:k7 M A E s O key knd D){P x y:List Xd}{sa:Nat}{st:Xe}{Q:Bool->Xe->Prop}{ax ay:Array Xd}{na nb:Nat}(ex:ax.toList=x)(ey:ay.toList=y)(hf:aaA st=none)(kd:Ym st=knd)(ha:(Xz st).toList=P++((x++y)++S))(hs:sa=P.length)(dx:∀p∈x,D p)(dy:∀p∈y,D p)(sx:g9 key x)(sy:g9 key y)(x0:0<x.length)(y0:0<y.length)(first:∀q,y[0]? = some q->∀p∈x,O.kle (key q) (key p))(last:∀i,i+1=x.length->∀q∈y,∀p,x[i]? = some p->O.kle (key q) (key p))(h:∀z g,z.Perm (x++y)->g9 key z->Q true (cX (setArr st (P++(z++S)).toArray) g)):wpS M A E s (MF ax ay sa na nb) Q st:=by
 subst ex;subst ey;have fin:∀(r:Array Xd) (g:Nat),r.toList.Perm (ax.toList++ay.toList)->g9 key r.toList->wpS M A E s (do
   modify λs=>setArr s (ke r.toList sa (Xz s))
   let s ←get
   pure (aaA s).isNone) Q (cX st g):=by
  intro r g hp hr;refine W2 (aaL ?_);refine W2 (wpS_get (W_ ?_));have e1:ke r.toList sa (Xz st)=(P++(r.toList++S)).toArray:=by
   apply Array.ext';rw[CS (m:=ax.toList++ay.toList) hp.length_eq.symm hs ha]
  have e2:(aaA (setArr (cX st g) (ke r.toList sa (Xz (cX st g))))).isNone=true:=by
   show (aaA st).isNone=true;rw[hf];rfl
  rw[e2];have e3:setArr (cX st g) (ke r.toList sa (Xz (cX st g)))=cX (setArr st (P++(r.toList++S)).toArray) g:=by
   rw[←e1]
  rw[e3];exact h r.toList g hp hr
 unfold MF;dsimp only;split
 ·refine W2 ?_;exact zE C ⟨dx,dy,λi hi=>last i (by rw[WO];exact hi)⟩ kd sx sy (by simpa using x0) (by simpa using y0) first fin
 ·refine W2 ?_;exact zG C ⟨dx,dy,first⟩ kd sx sy (by simpa using x0) (by simpa using y0) (λi hi=>last i (by rw[WO];exact hi)) fin
theorem IC {σ:Type}{st aH:σ}{Q:PUnit->σ->Prop}(h:Q ⟨⟩ aH):wpS M A E s (set aH:StateT σ Sem PUnit) Q st:=by
 unfold wpS;rw[StateT.run_set];exact WB ⟨rfl,h⟩
theorem u_ {P x R:List Xd}(h:l=P++(x++R))(i:Nat)(p:Xd)(e:x[i]? = some p):l[P.length+i]? = some p:=by
 have hi:i<x.length:=by
  rcases Zv i x.length with h|h
  ·exact h
  ·rw[abz h] at e;cases e
 rw[h,XT (Yz _ _),YN,Yd hi,e]
noncomputable def tT (p:Array (Nat×Nat×Nat))(i sa n pw:Nat):Array (Nat×Nat×Nat):=(p.setIfInBounds i (sa,n,pw)).eraseIdxIfInBounds (i+1)
theorem zH (C:k7 M A E s O key knd D){P x y:List Xd}{pw pw2:Nat}{st:Xe}{Q:Bool->Xe->Prop}(hf:aaA st=none)(kd:Ym st=knd)(ha:(Xz st).toList=P++(x++(y++S)))(h1:(Xv st)[i]? = some (P.length,x.length,pw))(h2:(Xv st)[i+1]? = some (P.length+x.length,y.length,pw2))(dx:∀p∈x,D p)(dy:∀p∈y,D p)(sx:g9 key x)(sy:g9 key y)(x0:0<x.length)(y0:0<y.length)(h:∀z g,z.Perm (x++y)->g9 key z->Q true (cX (setArr (setPending st (tT (Xv st) i P.length (x.length+y.length) pw)) (P++(z++S)).toArray) g)):wpS M A E s (mergeAt' i) Q st:=by
 have all:∀(hz:g9 key (x++y)),Q true (setPending st (tT (Xv st) i P.length (x.length+y.length) pw)):=by
  intro hz;have:=h (x++y) (aci st) (Yo _) hz;have e:(P++(x++y++S)).toArray=Xz st:=by
   apply Array.ext';rw[ha,W8]
  rw[e] at this;exact this
 have NY:(Xz st).toList=(P++x)++(y++S):=by rw[ha,W8]
 rw[xg];refine W2 (wpS_get ?_);rw[h1,h2];dsimp only;refine W2 (IC ?_);have ey:(Xz st).toList[P.length+x.length]? = some y[0]:=by
  have:=u_ NY 0 y[0] (Wz y0);rw[WN] at this;exact this
 refine W2 (bw ey ?_);refine W2 (k8 C (seg:=x) (λi p e=>u_ ha i p e) sx dx (dy _ (Xp y0)) kd x0 λk hk p1 p2=>?_);dsimp only;have yh:∀q∈y,O.kle (key y[0]) (key q):=by
  have:=jQ (l:=y) (i:=0) (key:=key) (by simpa using sy) y0;simpa using this
 by_cases c:x.length-k=0
 ·rw[hZ (by simpa using c)];refine W_ (all ?_);have:x.take k=x:=Yt (by lia);rw[this] at p1;exact bh.mpr ⟨sx,sy,λp hp q hq=>Xw (p1 p hp) (yh q hq)⟩
 ·rw[hV (by simpa using c)];have Rf:x.length-1<x.length:=by lia
  have Vu:(Xz st).toList[P.length+k+(x.length-k)-1]? = some x[x.length-1]:=by
   have:=u_ ha (x.length-1) _ (Wz Rf);rw[show P.length+k+(x.length-k)-1=P.length+(x.length-1) by lia];exact this
  refine W2 (bw Vu ?_);refine W2 (k9 C (seg:=y) (λi p e=>by have:=u_ NY i p e;rw[WN] at this;exact this) sy dy (dx _ (Xp Rf)) kd (by lia) λnb Vv q1 q2=>?_);dsimp only;have K2:∀p∈x,O.kle (key p) (key x[x.length-1]):=by
   have:=gH (l:=x) (n:=x.length) (key:=key) (by rw[X2];exact sx) x0 Rf;rw[X2] at this;exact this
  by_cases c2:nb=0
  ·rw[hZ (by simpa using c2)];refine W_ (all ?_);subst c2;exact bh.mpr ⟨sx,sy,λp hp q hq=>Xw (K2 p hp) (q2 q hq)⟩
  ·rw[hV (by simpa using c2)];have xs:x=x.take k++x.drop k:=(Xu k x).symm;have ys:y=y.take nb++y.drop nb:=(Xu nb y).symm;obtain⟨sx1,sx2,sx3⟩:=bh.mp (xs▸sx);obtain⟨sy1,sy2,sy3⟩:=bh.mp (ys▸sy);refine IB C (P:=P++x.take k) (x:=x.drop k) (y:=y.take nb) (S:=y.drop nb++S) ?ex ?ey hf kd ?ha ?hs (λp hp=>dx p (Y5 hp)) (λp hp=>dy p (Yi hp)) sx2 sy1 (by rw[XA];lia) (by rw[Xc];lia) ?first ?last λz g hz sz=>?_
   case ex=>
    rw[u7,NY];rw[show P.length+x.length=(P++x).length by rw[WN]];rw[List.take_left,List.drop_append,Z3 (by lia),YN];rfl
   case ey=>
    rw[u4,NY];rw[show P.length+x.length=(P++x).length by rw[WN],List.drop_left,List.take_append_of_le_length Vv]
   case ha=>
    show (Xz st).toList=_;rw[ha]
    conv=>lhs;rw[xs,ys]
    simp only[W8]
   case hs=>rw[WN,Xc];lia
   case first=>
    intro q hq p hp;have:(y.take nb)[0]? = y[0]? := by rw[aa0,hZ (by lia)]
    rw[this,Wz y0] at hq;injection hq with hq
    subst hq;exact XQ (p2 p hp)
   case last=>
    intro i hi q hq p hp;rw[XA] at hi;rw[aaW,show k+i=x.length-1 by lia,Wz Rf] at hp;injection hp with hp
    subst hp;exact XQ (q1 q hq)
   have mz:∀r∈z,r∈x.drop k\/r∈y.take nb:=λr hr=>W0.mp (hz.mem_iff.mp hr);have jw:(x.take k++(z++y.drop nb)).Perm (x++y):=by
    have e:x++y=x.take k++((x.drop k++y.take nb)++y.drop nb):=by
     conv=>lhs;rw[xs,ys]
     simp only[W8]
    rw[e];exact X7 _ (Yk _ hz)
   have S4:g9 key (x.take k++(z++y.drop nb)):=by
    refine bh.mpr ⟨sx1,bh.mpr ⟨sz,sy2,λp hp q hq=>?_⟩,λp hp q hq=>?_⟩
    ·rcases mz p hp with hp|hp
     ·exact Xw (K2 p (Y5 hp)) (q2 q hq)
     ·exact sy3 p hp q hq
    ·rcases W0.mp hq with hq|hq
     ·rcases mz q hq with hq|hq
      ·exact sx3 p hp q hq
      ·exact Xw (p1 p hp) (yh q (Yi hq))
     ·exact Xw (p1 p hp) (yh q (Y5 hq))
   have:=h _ g jw S4;have e:P++(x.take k++(z++y.drop nb)++S)=P++x.take k++(z++(y.drop nb++S)):=by simp only[W8]
   rw[e] at this;exact this
end
end Hc.Ts
namespace Hc.Ts
noncomputable def Bn (lo n m:Nat):StateT Xe Sem AscSt:=forIn [n:m] ((none,n):AscSt) λ_ c=>do
 let some sm ←ltAt' (lo+c.2) (lo+c.2-1)|pure (.done (some none,c.2))
 if sm=true then pure (.done (none,c.2)) else pure (.yield (none,c.2+1))
noncomputable def Bo (lo n m:Nat):StateT Xe Sem (Option Nat):=do
 abK lo (lo+n)
 let c ←Bn lo n m
 match c.1 with
 |some r=>pure r
 |none=>pure (some c.2)
noncomputable def Kt (lo:Nat)(c:DescSt):StateT Xe Sem (ForInStep DescSt):=do
 let some sm ←ltAt' (lo+c.2.1) (lo+c.2.1-1)|pure (.done (some none,c.2.1,c.2.2))
 if sm=true then
  if c.2.2>0 then do
   abK (lo+c.2.1-(c.2.2+1)) (lo+c.2.1)
   pure (.yield (none,c.2.1+1,0))
  else pure (.yield (none,c.2.1+1,0))
 else do
  let some lg ←ltAt' (lo+c.2.1-1) (lo+c.2.1)|pure (.done (some none,c.2.1,c.2.2))
  if lg=true then pure (.done (none,c.2.1,c.2.2)) else pure (.yield (none,c.2.1+1,c.2.2+1))
noncomputable def FO (lo n m:Nat):StateT Xe Sem DescSt:=forIn [n:m] ((none,n,0):DescSt) λ_ c=>Kt lo c
noncomputable def Bp (lo n m:Nat):StateT Xe Sem (Option Nat):=do
 liftM (rule "list.sort.descending-run")
 let c ←FO lo (n+1) m
 match c.1 with
 |some r=>pure r
 |none=>
  if c.2.2>0 then do
   abK (lo+c.2.1-(c.2.2+1)) (lo+c.2.1)
   Bo lo c.2.1 m
  else Bo lo c.2.1 m
theorem xh (lo m:Nat):countRun' lo m=(do
  let c ←Bn lo 1 m
  match c.1 with
  |some r=>pure r
  |none=>
   if (c.2==m)=true then pure (some c.2)
   else if c.2>1 then do
    let some rs ←ltAt' lo (lo+c.2-1)|pure none
    if rs=true then pure (some c.2)
    else do
     abK lo (lo+c.2)
     Bp lo c.2 m
   else Bp lo c.2 m):=by kernel_rfl
section
variable {A:XD}{O:acJ}{key:Xd->O.α}{knd:aaZ}{D:Xd->Prop}{lo:Nat}{a0:Array Xd}{cg:Xe}
noncomputable def kx (key:Xd->O.α)(l:Array Xd)(i:Nat):O.α:=key ((l[i]?).getD (Value.none,Value.none))
theorem xi {l m:Array Xd}(h:l[i]? = m[j]?):kx key l i=kx key m j:=by unfold kx;rw[h]
theorem zI {l:Array Xd}(hm:lo+m<=l.size)(k:Nat):kx key (mirror l (lo+n) (lo+m) ((lo+m-(lo+n)) / 2)) (lo+k)=if n<=k/\k<m then kx key l (lo+(n+m-1-k)) else kx key l (lo+k):=by
 have e:=getElem?_mirror_all (i:=lo+n) hm (lo+k);by_cases c:n<=k/\k<m
 ·rw[hZ (by lia)] at e;rw[hZ c];exact xi (e.trans (by congr 1;lia))
 ·rw[hV (by lia)] at e;rw[hV c];exact xi e
theorem fJ {l:Array Xd}(hm:lo+m<=l.size)(he:∀k,n<=k->k<m->kx key l (lo+k)=kx key l (lo+m-1))(k:Nat):kx key (mirror l (lo+n) (lo+m) ((lo+m-(lo+n)) / 2)) (lo+k)=kx key l (lo+k):=by
 rw[zI hm];split
 ·rename_i c;rw[he _ (by lia) (by lia),he k c.1 c.2]
 ·rfl
theorem FP {l:Array Xd}{p d:Nat}(hp:lo+p<l.size)(hd:d<=p)(k:Nat):kx key (bubble l (lo+p) d) (lo+k)=if k=p-d then kx key l (lo+p) else if p-d<k/\k<=p then kx key l (lo+(k-1)) else kx key l (lo+k):=by
 have e:=getElem?_bubble hp d (by lia) (lo+k);by_cases c:k=p-d
 ·rw[hZ (by lia)] at e;rw[hZ c];exact xi e
 ·rw[hV (by lia)] at e;rw[hV c];by_cases c2:p-d<k/\k<=p
  ·rw[hZ (by lia)] at e;rw[hZ c2];exact xi (e.trans (by congr 1;lia))
  ·rw[hV (by lia)] at e;rw[hV c2];exact xi e
def Di (key:Xd->O.α)(lo:Nat)(l:Array Xd)(n:Nat):Prop:=∀i j,i<=j->j<n->O.kle (kx key l (lo+i)) (kx key l (lo+j))
def NO (key:Xd->O.α)(lo:Nat)(l:Array Xd)(n:Nat):Prop:=∀i j,i<=j->j<n->O.kle (kx key l (lo+j)) (kx key l (lo+i))
structure SB (lo:Nat)(a0:Array Xd)(cg st:Xe):Prop where
 perm:(Xz st).Perm a0
 same:∀k,k<lo->(Xz st)[k]? = a0[k]?
 rest:st=setArr cg (Xz st)
theorem SB.size {st:Xe}(h:SB lo a0 cg st):(Xz st).size=a0.size:=h.perm.size_eq
theorem SB.put {st:Xe}(h:SB lo a0 cg st){l:Array Xd}(hp:l.Perm (Xz st))(hs:∀k,k<lo->l[k]? = (Xz st)[k]?):SB lo a0 cg (setArr st l):=by
 refine⟨hp.trans h.perm,λk hk=>(hs k hk).trans (h.same k hk),?_⟩;have:=h.rest;generalize Xz st=z at this;subst this;rfl
theorem SB.mir {st:Xe}(h:SB lo a0 cg st)(hm:lo+m<=a0.size):SB lo a0 cg (setArr st (mirror (Xz st) (lo+n) (lo+m) ((lo+m-(lo+n)) / 2))):=by
 refine h.put (mirror_perm _ _ _ _) λk hk=>?_;rw[getElem?_mirror_all (by rw[h.size];exact hm),hV (by lia)]
theorem SB.bub {st:Xe}(h:SB lo a0 cg st){p d:Nat}(hp:lo+p<a0.size)(hd:d<=p):SB lo a0 cg (setArr st (bubble (Xz st) (lo+p) d)):=by
 refine h.put (bubble_perm _ _ _) λk hk=>?_;rw[getElem?_bubble (by rw[h.size];exact hp) d (by lia),hV (by lia),hV (by lia)]
theorem SB.kind {st:Xe}(h:SB lo a0 cg st)(kd:Ym cg=knd):Ym st=knd:=by rw[h.rest];exact kd
theorem rg (C:k7 M A E s O key knd D){st:Xe}{Q:Option Bool->Xe->Prop}(kd:Ym cg=knd)(hD:∀p∈a0.toList,D p)(hB:SB lo a0 cg st)(hi:i<a0.size)(hj:j<a0.size)(h:Q (some (O.blt (kx key (Xz st) i) (kx key (Xz st) j))) st):wpS M A E s (ltAt' i j) Q st:=by
 have fd:∀i,i<a0.size->∃p,(Xz st)[i]? = some p/\D p/\kx key (Xz st) i=key p:=λi hi=>by
  have yx:i<(Xz st).size:=by rw[hB.size];exact hi
  refine⟨(Xz st)[i],getElem?_pos _ i yx,hD _ ((ab5.mp hB.perm).mem_iff.mp (by simp)),?_⟩;unfold kx;rw[getElem?_pos _ i yx];rfl
 obtain⟨p,e1,d1,k1⟩:=fd i hi;obtain⟨q,e2,d2,k2⟩:=fd j hj;rw[k1,k2] at h;rw[ltAt'_eq];refine W2 (wpS_get ?_);dsimp only;rw[elem'_eq,elem'_eq,e1,e2];refine W2 (W_ (W2 (W_ ?_)));exact C.lt p q st Q d1 d2 (hB.kind kd) h
theorem va {st:Xe}{Q:Unit->Xe->Prop}(h:Q () (setArr st (mirror (Xz st) i j ((j-i) / 2)))):wpS M A E s (abK i j) Q st:=by
 rw[reverseSlice'_eq];exact aaL h
theorem xj (C:k7 M A E s O key knd D){st:Xe}{Q:AscSt->Xe->Prop}(kd:Ym cg=knd)(hD:∀p∈a0.toList,D p)(hm:lo+m<=a0.size)(n1:1<=n)(nm:n<=m)(hB:SB lo a0 cg st)(ha:Di key lo (Xz st) n)(h:∀r,n<=r->r<=m->Di key lo (Xz st) r->(r=m\/O.klt (kx key (Xz st) (lo+r)) (kx key (Xz st) (lo+r-1)))->Q (none,r) st):wpS M A E s (Bn lo n m) Q st:=by
 unfold Bn;refine Yn (I:=λx c aH=>aH=st/\c=(none,x)/\Di key lo (Xz st) x) ?go ?out ⟨rfl,rfl,ha⟩
 case out=>
  rintro c aH ⟨rfl,rfl,Ac⟩;have e:max n m=m:=by lia
  rw[e] at Ac ⊢;exact h m nm (WR _) Ac (.inl rfl)
 case go=>
  rintro x c aH h1 h2 ⟨rfl,rfl,Ac⟩;dsimp only;refine W2 (rg C kd hD hB (by lia) (by lia) ?_);dsimp only;cases e:O.blt (kx key (Xz aH) (lo+x)) (kx key (Xz aH) (lo+x-1)) with
  |true=>
   rw[hZ rfl];exact W_ (h x h1 (by lia) Ac (.inr e))
  |false=>
   rw[hV WE];refine W_ ⟨rfl,rfl,λi j sO hj=>?_⟩;by_cases c1:j<x
   ·exact Ac i j sO c1
   ·have:j=x:=by lia
    subst this;by_cases c2:i=j
    ·subst c2;exact Yy _
    ·have:=Ac i (j-1) (by lia) (by lia);rw[show lo+(j-1)=lo+j-1 by lia] at this;exact Xw this e
theorem xk (C:k7 M A E s O key knd D){st:Xe}{Q:Option Nat->Xe->Prop}(kd:Ym cg=knd)(hD:∀p∈a0.toList,D p)(hm:lo+m<=a0.size)(n1:1<=n)(nm:n<=m)(hB:SB lo a0 cg st)(hd:NO key lo (Xz st) n)(h:∀r aH,SB lo a0 cg aH->1<=r->r<=m->Di key lo (Xz aH) r->Q (some r) aH):wpS M A E s (Bo lo n m) Q st:=by
 unfold Bo;refine W2 (va ?_);have NZ:=hB.mir (n:=0) (m:=n) (by lia);have hz:lo+n<=(Xz st).size:=by rw[hB.size];lia
 rw[ach] at NZ;refine W2 (xj C kd hD hm n1 nm NZ (λi j sO hj=>?_) λr r1 r2 r3 _=>W_ (h r _ NZ (by lia) r2 r3));have e1:=zI (key:=key) (lo:=lo) (n:=0) hz i;have e2:=zI (key:=key) (lo:=lo) (n:=0) hz j;rw[ach,hZ (by lia)] at e1 e2;rw[e1,e2];exact hd _ _ (by lia) (by lia)
theorem FQ (C:k7 M A E s O key knd D){st:Xe}{Q:DescSt->Xe->Prop}(kd:Ym cg=knd)(hD:∀p∈a0.toList,D p)(hm:lo+m<=a0.size)(n1:1<=n)(nm:n<=m)(hB:SB lo a0 cg st)(hd:NO key lo (Xz st) n)(h:∀r q aH,SB lo a0 cg aH->n<=r->r<=m->NO key lo (Xz aH) r->q+1<=r->(∀i,r-(q+1)<=i->i<r->kx key (Xz aH) (lo+i)=kx key (Xz aH) (lo+r-1))->Q (none,r,q) aH):wpS M A E s (FO lo n m) Q st:=by
 unfold FO;refine Yn (I:=λx c aH=>∃q,c=(none,x,q)/\SB lo a0 cg aH/\NO key lo (Xz aH) x/\q+1<=x/\∀i,x-(q+1)<=i->i<x->kx key (Xz aH) (lo+i)=kx key (Xz aH) (lo+x-1)) ?go ?out
  ⟨0,rfl,hB,hd,by lia,λi a1 a2=>by congr 1;lia⟩
 case out=>
  rintro c aH ⟨q,rfl,b1,b2,b3,b4⟩;have e:max n m=m:=by lia
  rw[e] at b2 b3 b4 ⊢;exact h m q aH b1 nm (WR _) b2 b3 b4
 case go=>
  rintro x c aH h1 h2 ⟨q,rfl,b1,b2,b3,b4⟩;have hz:lo+x<=(Xz aH).size:=by rw[b1.size];lia
  unfold Kt;dsimp only;refine W2 (rg C kd hD b1 (by lia) (by lia) ?_);dsimp only;cases e:O.blt (kx key (Xz aH) (lo+x)) (kx key (Xz aH) (lo+x-1)) with
  |true=>
   rw[hZ rfl];have nx:∀l:Array Xd,(∀k,kx key l (lo+k)=kx key (Xz aH) (lo+k))->NO key lo l (x+1):=by
    intro l hl i j sO hj;rw[hl,hl];by_cases c1:j<x
    ·exact b2 i j sO c1
    ·have:j=x:=by lia
     subst this;by_cases c2:i=j
     ·subst c2;exact Yy _
     ·have:=b2 i (j-1) (by lia) (by lia);rw[show lo+(j-1)=lo+j-1 by lia] at this;exact Xw (XQ e) this
   by_cases c:q>0
   ·rw[hZ c];refine W2 (va ?_);have e3:lo+x-(q+1)=lo+(x-(q+1)):=by lia
    rw[e3];refine W_ ⟨0,rfl,b1.mir (by lia),nx _ (fJ hz b4),by lia,λi a1 a2=>?_⟩;congr 1;lia
   ·rw[hV c];exact W_ ⟨0,rfl,b1,nx _ (λ_=>rfl),by lia,λi a1 a2=>by congr 1;lia⟩
  |false=>
   rw[hV WE];refine W2 (rg C kd hD b1 (by lia) (by lia) ?_);dsimp only;cases e2:O.blt (kx key (Xz aH) (lo+x-1)) (kx key (Xz aH) (lo+x)) with
   |true=>
    rw[hZ rfl];exact W_ (h x q aH b1 h1 (by lia) b2 b3 b4)
   |false=>
    rw[hV WE];have eq:kx key (Xz aH) (lo+x)=kx key (Xz aH) (lo+x-1):=KeyOrd.kle_antisymm e2 e;refine W_ ⟨q+1,rfl,b1,λi j sO hj=>?_,by lia,λi a1 a2=>?_⟩
    ·by_cases c1:j<x
     ·exact b2 i j sO c1
     ·have:j=x:=by lia
      subst this;by_cases c2:i=j
      ·subst c2;exact Yy _
      ·rw[eq];have:=b2 i (j-1) (by lia) (by lia);rw[show lo+(j-1)=lo+j-1 by lia] at this;exact this
    ·rw[show lo+(x+1)-1=lo+x by lia];by_cases c1:i=x
     ·subst c1;rfl
     ·rw[eq];exact b4 i (by lia) (by lia)
theorem xl (C:k7 M A E s O key knd D){st:Xe}{Q:Option Nat->Xe->Prop}(kd:Ym cg=knd)(hD:∀p∈a0.toList,D p)(hm:lo+m<=a0.size)(nm:n+1<=m)(hB:SB lo a0 cg st)(hd:NO key lo (Xz st) (n+1))(h:∀r aH,SB lo a0 cg aH->1<=r->r<=m->Di key lo (Xz aH) r->Q (some r) aH):wpS M A E s (Bp lo n m) Q st:=by
 unfold Bp;refine W2 (wpS_lift (Y_ ⟨rfl,?_⟩));refine W2 (FQ C kd hD hm (by lia) nm hB hd λr q aH b1 r1 r2 b2 b3 b4=>?_);dsimp only;have hz:lo+r<=(Xz aH).size:=by rw[b1.size];lia
 by_cases c:q>0
 ·rw[hZ c];refine W2 (va ?_);have e3:lo+r-(q+1)=lo+(r-(q+1)):=by lia
  rw[e3];refine xk C kd hD hm (by lia) r2 (b1.mir (by lia)) (λi j sO hj=>?_) h;have e1:=fJ (key:=key) hz b4 i;have e2:=fJ (key:=key) hz b4 j;rw[e1,e2];exact b2 i j sO hj
 ·rw[hV c];exact xk C kd hD hm (by lia) r2 b1 b2 h
theorem xm (C:k7 M A E s O key knd D){st:Xe}{Q:Option Nat->Xe->Prop}(kd:Ym cg=knd)(hD:∀p∈a0.toList,D p)(hm:lo+m<=a0.size)(m1:1<=m)(hB:SB lo a0 cg st)(h:∀r aH,SB lo a0 cg aH->1<=r->r<=m->Di key lo (Xz aH) r->Q (some r) aH):wpS M A E s (countRun' lo m) Q st:=by
 rw[xh];refine W2 (xj C kd hD hm (WR 1) m1 hB (λi j sO hj=>by rw[show i=j by lia];exact Yy _) λn n1 n2 ha ho=>?_);dsimp only;by_cases c:n=m
 ·rw[hZ (by simpa using c)];exact W_ (h n st hB n1 n2 ha)
 ·rw[hV (by simpa using c)];have hl:=ho.resolve_left c;by_cases c2:n>1
  ·rw[hZ c2];refine W2 (rg C kd hD hB (by lia) (by lia) ?_);dsimp only;cases e:O.blt (kx key (Xz st) lo) (kx key (Xz st) (lo+n-1)) with
   |true=>
    rw[hZ rfl];exact W_ (h n st hB n1 n2 ha)
   |false=>
    rw[hV WE];have hz:lo+n<=(Xz st).size:=by rw[hB.size];lia
    have al:∀k,0<=k->k<n->kx key (Xz st) (lo+k)=kx key (Xz st) (lo+n-1):=by
     intro k _ hk;have p1:=ha 0 k (by lia) hk;have p2:=ha k (n-1) (by lia) (by lia);rw[show lo+(n-1)=lo+n-1 by lia] at p2;exact KeyOrd.kle_antisymm p2 (Xw (show O.kle _ (kx key (Xz st) lo) from e) p1)
    refine W2 (va ?_);have NZ:=hB.mir (n:=0) (m:=n) (by lia);rw[ach] at NZ;refine xl C kd hD hm (by lia) NZ (λi j sO hj=>?_) h;have e1:=fJ (key:=key) (n:=0) hz al i;have e2:=fJ (key:=key) (n:=0) hz al j;rw[ach] at e1 e2;rw[e1,e2];by_cases c3:j<n
    ·rw[al i (by lia) (by lia),al j (by lia) c3];exact Yy _
    ·have:j=n:=by lia
     subst this;by_cases c4:i=j
     ·subst c4;exact Yy _
     ·rw[al i (by lia) (by lia)];exact XQ hl
  ·rw[hV c2];have:n=1:=by lia
   subst this;refine xl C kd hD hm (by lia) hB (λi j sO hj=>?_) h;by_cases c4:i=j
   ·subst c4;exact Yy _
   ·have S3:i=0:=by lia
    have Vw:j=1:=by lia
    subst S3;subst Vw;exact XQ hl
theorem zJ (C:k7 M A E s O key knd D){st:Xe}{ok:Nat}{Q:Bool->Xe->Prop}(kd:Ym cg=knd)(hD:∀p∈a0.toList,D p)(hn:lo+n<=a0.size)(hok:ok<=n)(hB:SB lo a0 cg st)(ha:Di key lo (Xz st) ok)(h:∀aH,SB lo a0 cg aH->Di key lo (Xz aH) n->Q true aH):wpS M A E s (binarySort' lo n ok) Q st:=by
 rw[binarySort'_eq];refine W2 (Zx (Yn (I:=λk c aH=>c=(none,())/\SB lo a0 cg aH/\Di key lo (Xz aH) (min k n))
  (Q:=λc aH=>c=(none,())/\SB lo a0 cg aH/\Di key lo (Xz aH) n) ?go ?out ?uv) ?end_)
 case end_=>
  rintro c aH ⟨rfl,b1,b2⟩;exact W_ (h aH b1 b2)
 case uv=>
  refine⟨rfl,hB,λi j sO hj=>?_⟩;by_cases c:ok=0
  ·rw[show i=j by lia];exact Yy _
  ·exact ha i j sO (by lia)
 case out=>
  rintro c aH ⟨e,b1,b2⟩;have e2:min (max (max ok 1) n) n=n:=by lia
  rw[e2] at b2;exact⟨e,b1,b2⟩
 case go=>
  rintro k c yn Ab GW ⟨rfl,b1,b2⟩;have e1:min k n=k:=by lia
  rw[e1] at b2;have hk:lo+k<a0.size:=by lia
  refine W2 (Zx (Yn (I:=λx c kr=>kr=yn/\∃l r,c=(none,l,r)/\l<=r/\r<=k/\r-l<=k-x/\
    (∀i,i<l->O.kle (kx key (Xz yn) (lo+i)) (kx key (Xz yn) (lo+k)))/\∀i,r<=i->i<k->O.klt (kx key (Xz yn) (lo+k)) (kx key (Xz yn) (lo+i)))
   (Q:=λc kr=>kr=yn/\∃l,c=(none,l,l)/\l<=k/\(∀i,i<l->O.kle (kx key (Xz yn) (lo+i)) (kx key (Xz yn) (lo+k)))/\∀i,l<=i->i<k->O.klt (kx key (Xz yn) (lo+k)) (kx key (Xz yn) (lo+i))) ?go2 ?out2 ?K3) ?end2)
  case K3=>exact⟨rfl,0,k,rfl,by lia,by lia,by lia,λi hi=>by lia,λi a1 a2=>by lia⟩
  case out2=>
   rintro c kr ⟨rfl,l,r,rfl,q1,q2,q3,q4,q5⟩;have:l=r:=by lia
   subst this;exact⟨rfl,l,rfl,q2,q4,q5⟩
  case go2=>
   rintro x c kr _ hx ⟨rfl,l,r,rfl,q1,q2,q3,q4,q5⟩;dsimp only;by_cases c:l≥r
   ·rw[hZ c];have:l=r:=by lia
    subst this;exact W_ ⟨rfl,l,rfl,q2,q4,q5⟩
   ·rw[hV c];refine W2 (rg C kd hD b1 hk (by lia) ?_);cases e:O.blt (kx key (Xz kr) (lo+k)) (kx key (Xz kr) (lo+(l+r) / 2)) with
    |true=>
     simp only[if_true];exact W_ ⟨rfl,l,(l+r) / 2,rfl,by lia,by lia,by lia,q4,λi a1 a2=>KeyOrd.klt_of_klt_of_kle e (b2 _ _ a1 a2)⟩
    |false=>
     simp only[Xq,if_false];exact W_ ⟨rfl,(l+r) / 2+1,r,rfl,by lia,by lia,by lia,λi a1=>Xw (b2 i ((l+r) / 2) (by lia) (by lia)) (show O.kle _ _ from e),q5⟩
  case end2=>
   rintro c kr ⟨rfl,l,rfl,q2,q4,q5⟩;dsimp only;rw[moveDown'_eq];have e2:lo+k-(lo+l)=k-l:=by lia
   refine W2 (aaL (W_ ⟨rfl,?_,?_⟩))
   ·rw[e2];exact b1.bub hk (by lia)
   ·rw[show min (k+1) n=k+1 by lia];have hz:lo+k<(Xz kr).size:=by rw[b1.size];exact hk
    intro i j sO hj;show O.kle (kx key (bubble (Xz kr) (lo+k) (lo+k-(lo+l))) (lo+i)) (kx key (bubble (Xz kr) (lo+k) (lo+k-(lo+l))) (lo+j));rw[e2,FP hz (by lia),FP hz (by lia),show k-(k-l)=l by lia]
    repeat' split
    all_goals first
     | (exfalso;lia)
     |exact Yy _
     |exact q4 _ (by lia)
     |exact XQ (q5 _ (by lia) (by lia))
     |exact b2 _ _ (by lia) (by lia)
end
end Hc.Ts
namespace Hc.Ts
noncomputable def vb (lo n:Nat):StateT Xe Sem (ForInStep (Option Unit×Nat)):=do
 modify λst=>setPending st ((Xv st).push (lo,n,0))
 pure (.yield (none,lo+n))
noncomputable def Sb (pw:Nat)(_:Nat)(_:Option Unit×Unit):StateT Xe Sem (ForInStep (Option Unit×Unit)):=do
 let st ←get
 let some (_,_,old):=(if (Xv st).size>1 then (Xv st)[(Xv st).size-2]? else none)|pure (.done (none,()))
 if old<=pw then pure (.done (none,())) else do
  let r ←mergeAt' ((Xv st).size-2)
  if (!r)=true then pure (.done (some (),())) else pure (.yield (none,()))
noncomputable def Sd (pw:Nat)(st:Xe):Xe:=setPending st ((Xv st).modify ((Xv st).size-1) λx=>match x with|(p,n,_)=>(p,n,pw))
noncomputable def Ku (size lo n pw:Nat):StateT Xe Sem (ForInStep (Option Unit×Nat)):=do
 let c ←forIn [0:size] ((none,()):Option Unit×Unit) (Sb pw)
 match c.1 with
 |some r=>pure (.done (some r,lo))
 |none=>do
  modify (Sd pw)
  vb lo n
noncomputable def Q2 (size lo n:Nat):StateT Xe Sem (ForInStep (Option Unit×Nat)):=do
 let st ←get
 let some (p1,n1,_):=(Xv st).back? | vb lo n
 Ku size lo n (power' size (2*p1+n1) (2*p1+n1+n1+n) size)
noncomputable def Se (size nJ:Nat)(_:Nat)(c:Option Unit×Nat):StateT Xe Sem (ForInStep (Option Unit×Nat)):=
 if c.2≥size then pure (.done (none,c.2)) else do
  let some n ←countRun' c.2 (size-c.2)|pure (.done (some (),c.2))
  if n<nJ then do
   liftM (rule "list.sort.binary-insertion")
   let r ←binarySort' c.2 (min (size-c.2) nJ) n
   if (!r)=true then pure (.done (some (),c.2)) else Q2 size c.2 (min (size-c.2) nJ)
  else Q2 size c.2 n
noncomputable def Sg (p:Array (Nat×Nat×Nat)):Nat:=
 if Option.any (λx=>decide (x<(p[p.size-2+1]?).elim 0 λx=>x.2.1)) (if p.size-2>0 then Option.map (λx=>x.2.1) p[p.size-2-1]? else none)=true then p.size-2-1 else p.size-2
noncomputable def TL (_:Nat)(_:Option Unit×Unit):StateT Xe Sem (ForInStep (Option Unit×Unit)):=do
 let st ←get
 if (Xv st).size<=1 then pure (.done (none,())) else do
  let r ←mergeAt' (Sg (Xv st))
  if (!r)=true then pure (.done (some (),())) else pure (.yield (none,()))
theorem vc:sortRuns'=(do
  let st ←get
  let c ←forIn [0:(Xz st).size] ((none,0):Option Unit×Nat) (Se (Xz st).size (minRun' (Xz st).size (Xz st).size 0))
  match c.1 with
  |some r=>pure r
  |none=>do
   let d ←forIn [0:(Xz st).size] ((none,()):Option Unit×Unit) TL
   match d.1 with
   |some r=>pure r
   |none=>pure ()):=by kernel_rfl
section
variable {A:XD}{O:acJ}{key:Xd->O.α}{knd:aaZ}{D:Xd->Prop}
def rh (key:Xd->O.α):Nat->List (List Xd)->List (Nat×Nat×Nat)->Prop
 |_,[],[]=>True
 |p,g::gs,e::es=>e.1=p/\e.2.1=g.length/\0<g.length/\g9 key g/\rh key (p+g.length) gs es
 |_,_,_=>False
theorem rh.len:∀{p:Nat} {gs:List (List Xd)} {es:List (Nat×Nat×Nat)},rh key p gs es->gs.length=es.length/\gs.length<=gs.flatten.length
 |_,[],[],_=>⟨rfl,WR _⟩
 |p,g::gs,e::es,h=>by
  obtain⟨h1,h2⟩:=rh.len h.2.2.2.2;have:=h.2.2.1;rw[XW,WN,WT,WT];lia
theorem rh.app:∀{p:Nat} {gs:List (List Xd)} {es:List (Nat×Nat×Nat)} {gs2:List (List Xd)} {es2:List (Nat×Nat×Nat)},rh key p gs es->rh key (p+gs.flatten.length) gs2 es2->rh key p (gs++gs2) (es++es2)
 |_,[],[],_,_,_,h2=>h2
 |p,g::gs,e::es,gs2,es2,h,h2=>by
  refine⟨h.1,h.2.1,h.2.2.1,h.2.2.2.1,rh.app h.2.2.2.2 ?_⟩;rw[XW,WN,←ZS] at h2;exact h2
theorem rh.split:∀{i p:Nat} {gs:List (List Xd)} {es:List (Nat×Nat×Nat)},rh key p gs es->i+1<es.length->∃g1 x y g2 e1 pw pw2 e2,gs=g1++x::y::g2/\es=e1++(p+g1.flatten.length,x.length,pw)::(p+g1.flatten.length+x.length,y.length,pw2)::e2/\e1.length=i/\rh key p g1 e1/\0<x.length/\g9 key x/\0<y.length/\g9 key y/\rh key (p+g1.flatten.length+x.length+y.length) g2 e2
 |0,p,x::y::g2,(a,b,pw)::(c,d,pw2)::e2,h,_=>by
  obtain⟨h1,h2,h3,h4,k1,k2,k3,k4,h5⟩:=h;dsimp only at h1 h2 k1 k2;subst h1;subst h2;subst k1;subst k2;exact⟨[],x,y,g2,[],pw,pw2,e2,rfl,rfl,rfl,trivial,h3,h4,k3,k4,h5⟩
 |0,p,[x],[e],h,hl=>absurd hl (by simp)
 |0,p,[],[],h,hl=>absurd hl (by simp)
 |0,p,[x],_::_::_,h,hl=>h.2.2.2.2.elim
 |0,p,_::_::_,[e],h,hl=>h.2.2.2.2.elim
 |i+1,p,[],[],h,hl=>absurd hl (by simp)
 |i+1,p,g::gs,e::es,h,hl=>by
  obtain⟨g1,x,y,g2,e1,pw,pw2,e2,q1,q2,q3,q4,q5⟩:=rh.split h.2.2.2.2 (i:=i) (by simpa using hl);refine⟨g::g1,x,y,g2,e::e1,pw,pw2,e2,by rw[q1];rfl,?_,by rw[WT,q3],⟨h.1,h.2.1,h.2.2.1,h.2.2.2.1,q4⟩,?_⟩
  ·rw[q2,XW,WN,←ZS];rfl
  ·rw[XW,WN,←ZS];exact q5
theorem rh.power {f:Nat×Nat×Nat->Nat×Nat×Nat}(hf:∀e,(f e).1=e.1/\(f e).2.1=e.2.1):∀{i p:Nat} {gs:List (List Xd)} {es:List (Nat×Nat×Nat)},rh key p gs es->rh key p gs (es.modify i f)
 |_,_,[],[],_=>by rw[List.modify_nil];exact trivial
 |0,p,g::gs,e::es,h=>by
  rw[List.modify_zero_cons];exact⟨(hf e).1.trans h.1,(hf e).2.trans h.2.1,h.2.2⟩
 |i+1,p,g::gs,e::es,h=>by
  rw[List.modify_succ_cons];exact⟨h.1,h.2.1,h.2.2.1,h.2.2.2.1,rh.power hf h.2.2.2.2⟩
structure SI (key:Xd->O.α)(knd:aaZ)(a0:Array Xd)(lo:Nat)(rest:List Xd)(st:Xe):Prop where
 failed:aaA st=none
 kind:Ym st=knd
 perm:(Xz st).toList.Perm a0.toList
 segs:∃gs:List (List Xd),(Xz st).toList=gs.flatten++rest/\gs.flatten.length=lo/\rh key 0 gs (Xv st).toList
variable {a0:Array Xd}{lo:Nat}{rest:List Xd}
theorem SI.size {st:Xe}(h:SI key knd a0 lo rest st):lo+rest.length=a0.size:=by
 obtain⟨gs,e,l,_⟩:=h.segs;have:=h.perm.length_eq;rw[e,WN,l,WO] at this;exact this
theorem SI.few {st:Xe}(h:SI key knd a0 lo rest st):(Xv st).size<=lo:=by
 obtain⟨gs,e,l,p⟩:=h.segs;have h1:=p.len;have h2:(Xv st).toList.length=(Xv st).size:=WO;lia
theorem SI.merge (C:k7 M A E s O key knd D)(hD:∀p∈a0.toList,D p){st:Xe}(h:SI key knd a0 lo rest st)(hi:i+1<(Xv st).size){Q:Bool->Xe->Prop}(q:∀aH,SI key knd a0 lo rest aH->(Xv aH).size+1=(Xv st).size->Q true aH):wpS M A E s (mergeAt' i) Q st:=by
 obtain⟨gs,e,l,p⟩:=h.segs;obtain⟨g1,x,y,g2,e1,pw,pw2,e2,q1,q2,q3,q4,x0,sx,y0,sy,q5⟩:=p.split (i:=i) (by rw[WO];exact hi);rw[Zs] at q2 q5;subst q3;have ea:(Xz st).toList=g1.flatten++(x++(y++(g2.flatten++rest))):=by
  rw[e,q1,Zi,XW,XW];simp only[W8]
 have mem:∀p∈(Xz st).toList,D p:=λp hp=>hD p (h.perm.mem_iff.mp hp);refine zH C (pw:=pw) (pw2:=pw2) h.failed h.kind ea ?_ ?_ (λp hp=>mem p (by rw[ea];simp[hp])) (λp hp=>mem p (by rw[ea];simp[hp])) sx sy x0 y0 λz g hz sz=>q _ ?_ ?_
 ·rw[←W9,q2,XT (WR _),acg];rfl
 ·rw[←W9,q2,XT (Yz _ 1),YN];rfl
 all_goals
  have ep:(tT (Xv st) e1.length g1.flatten.length (x.length+y.length) pw).toList=e1++(g1.flatten.length,x.length+y.length,pw)::e2:=by
   unfold tT;rw[Array.toList_eraseIdxIfInBounds,ab4,q2,List.set_append_right _ _ (WR _),acg,aa1,List.eraseIdx_append_of_length_le (Yz _ 1),YN];rfl
 ·refine⟨h.failed,h.kind,?_,g1++z::g2,?_,?_,?_⟩
  ·show (g1.flatten++(z++(g2.flatten++rest))).Perm a0.toList;refine List.Perm.trans ?_ h.perm;rw[ea];refine X7 _ ?_;rw[←W8 x];exact Yk _ hz
  ·show g1.flatten++(z++(g2.flatten++rest))=_;rw[Zi,XW];simp only[W8]
  ·rw[←l,q1,Zi,Zi,XW,XW,XW];have:=hz.length_eq;rw[WN] at this;simp only[WN];lia
  ·show rh key 0 _ (tT (Xv st) e1.length g1.flatten.length (x.length+y.length) pw).toList;have hl:z.length=x.length+y.length:=by rw[hz.length_eq,WN]
   rw[ep];refine q4.app ⟨by rw[Zs],hl.symm,by rw[hl];lia,sz,?_⟩;rw[Zs,hl,←ZS];exact q5
 ·show (tT (Xv st) e1.length g1.flatten.length (x.length+y.length) pw).size+1=_;rw[←WO,ep,←WO (xs:=Xv st),q2];simp only[WN,WT];lia
theorem MG (C:k7 M A E s O key knd D)(hD:∀p∈a0.toList,D p){st:Xe}(h:SI key knd a0 lo rest st){pw:Nat}{c:Option Unit×Unit}{Q:ForInStep (Option Unit×Unit)->Xe->Prop}(q1:∀aH,SI key knd a0 lo rest aH->Q (.done (none,())) aH)(q2:∀aH,SI key knd a0 lo rest aH->Q (.yield (none,())) aH):wpS M A E s (Sb pw i c) Q st:=by
 unfold Sb;refine W2 (wpS_get ?_);by_cases c1:(Xv st).size>1
 ·rw[hZ c1,getElem?_pos (Xv st) _ (by lia)];obtain⟨a,b,old⟩:=(Xv st)[(Xv st).size-2];dsimp only;split
  ·exact W_ (q1 st h)
  ·refine W2 (h.merge C hD (by lia) λaH h' _=>?_);rw[hV (by decide)];exact W_ (q2 aH h')
 ·rw[hV c1];exact W_ (q1 st h)
theorem tU {st:Xe}(h:SI key knd a0 lo rest st){Q:ForInStep (Option Unit×Nat)->Xe->Prop}(n1:1<=n)(n2:n<=rest.length)(sr:g9 key (rest.take n))(q:∀aH,SI key knd a0 (lo+n) (rest.drop n) aH->Q (.yield (none,lo+n)) aH):wpS M A E s (vb lo n) Q st:=by
 unfold vb;refine W2 (aaL (W_ (q _ ?_)));obtain⟨gs,e,l,p⟩:=h.segs;have hl:(rest.take n).length=n:=by rw[Xc];lia
 refine⟨h.failed,h.kind,h.perm,gs++[rest.take n],?_,?_,?_⟩
 ·show (Xz st).toList=_;rw[e,Zi,W8];congr 1;rw[XW,List.flatten_nil,Xt,Xu]
 ·rw[Zi,WN,l,XW,List.flatten_nil,Xt,hl]
 ·show rh key 0 _ ((Xv st).push (lo,n,0)).toList;rw[Ze];exact p.app ⟨by rw[Zs,l],hl.symm,by lia,sr,trivial⟩
theorem FR (C:k7 M A E s O key knd D)(hD:∀p∈a0.toList,D p){st:Xe}(h:SI key knd a0 lo rest st){size:Nat}{Q:ForInStep (Option Unit×Nat)->Xe->Prop}(n1:1<=n)(n2:n<=rest.length)(sr:g9 key (rest.take n))(q:∀aH,SI key knd a0 (lo+n) (rest.drop n) aH->Q (.yield (none,lo+n)) aH):wpS M A E s (Q2 size lo n) Q st:=by
 unfold Q2;refine W2 (wpS_get ?_);cases e:(Xv st).back? with
 |none=>exact tU h n1 n2 sr q
 |some v=>
  obtain⟨p1,m1,w⟩:=v;dsimp only;unfold Ku;refine W2 (Zx (Yn (I:=λx c aH=>c=(none,())/\SI key knd a0 lo rest aH) (Q:=λc aH=>c=(none,())/\SI key knd a0 lo rest aH) ?go (λ_ _ z=>z) ⟨rfl,h⟩) ?fin)
  case go=>
   rintro x c aH _ _ ⟨rfl,h'⟩;exact MG C hD h' (λkr z=>⟨rfl,z⟩) λkr z=>⟨rfl,z⟩
  case fin=>
   rintro c aH ⟨rfl,h'⟩;dsimp only;refine W2 (aaL (tU ?_ n1 n2 sr q));obtain⟨gs,e,l,p⟩:=h'.segs;refine⟨h'.failed,h'.kind,h'.perm,gs,e,l,?_⟩;show rh key 0 gs ((Xv aH).modify _ _).toList;rw[Array.toList_modify];refine rh.power (λe=>?_) p;exact⟨rfl,rfl⟩
theorem ID {l:Array Xd}{P R:List Xd}(e:l.toList=P++R)(h:Di key P.length l n):g9 key (R.take n):=by
 refine ZA.mpr λi j hi hj sO=>?_;rw[Xc] at hi hj;have at_:∀k,(hk:k<R.length)->kx key l (P.length+k)=key R[k]:=λk hk=>by
  unfold kx;rw[←W9,e,XT (Yz _ _),YN,Wz hk];rfl
 have:=h i j (by lia) (by lia);rw[at_ i (by lia),at_ j (by lia)] at this;rw[abl,abl];exact this
theorem SI.run {cg st:Xe}(h:SI key knd a0 lo rest cg)(b:SB lo (Xz cg) cg st):∃r,SI key knd a0 lo r st/\r.length=rest.length/\∀n,Di key lo (Xz st) n->g9 key (r.take n):=by
 obtain⟨gs,e,l,p⟩:=h.segs;have hp:=ab5.mp b.perm;have hl:lo<=(Xz st).toList.length:=by rw[hp.length_eq,e,WN,l];lia
 have ht:(Xz st).toList.take lo=gs.flatten:=by
  apply aak;intro k;rw[aa0];split
  ·rename_i c;rw[W9,b.same k c,←W9,e,Yd (by lia)]
  ·rename_i c;rw[abz (by lia)]
 have e2:(Xz st).toList=gs.flatten++(Xz st).toList.drop lo:=by
  conv=>lhs;rw[←Xu lo (Xz st).toList,ht]
 refine⟨(Xz st).toList.drop lo,⟨?_,?_,hp.trans h.perm,gs,e2,l,?_⟩,?_,λn hn=>?_⟩
 ·rw[b.rest];exact h.failed
 ·rw[b.rest];exact h.kind
 ·rw[b.rest];exact p
 ·have:=hp.length_eq;rw[e,WN,l] at this;rw[XA];lia
 ·subst l;exact ID e2 hn
theorem MJ (C:k7 M A E s O key knd D)(hD:∀p∈a0.toList,D p){st:Xe}{nJ:Nat}{c:Option Unit×Nat}(h:SI key knd a0 c.2 rest st){Q:ForInStep (Option Unit×Nat)->Xe->Prop}(q1:SI key knd a0 a0.size [] st->c.2=a0.size->Q (.done (none,a0.size)) st)(q2:∀n r aH,1<=n->SI key knd a0 (c.2+n) r aH->Q (.yield (none,c.2+n)) aH):wpS M A E s (Se a0.size nJ i c) Q st:=by
 obtain⟨c1,lo⟩:=c;dsimp only at h q1 q2;have hs:=h.size;unfold Se;dsimp only;by_cases c2:lo≥a0.size
 ·rw[hZ c2];have e1:lo=a0.size:=by lia
  have e2:rest=[]:=YA (by lia);subst e1;subst e2;exact W_ (q1 h rfl)
 ·rw[hV c2];have Ut:∀p∈(Xz st).toList,D p:=λp hp=>hD p (h.perm.mem_iff.mp hp);have hz:(Xz st).size=a0.size:=by have:=h.perm.length_eq;rwa [WO,WO] at this
  have b0:SB lo (Xz st) st st:=⟨Array.Perm.refl _,λ_ _=>rfl,rfl⟩;refine W2 (xm C h.kind Ut (by lia) (by lia) b0 λn aH b1 n1 n2 ha=>?_);dsimp only;by_cases c3:n<nJ
  ·rw[hZ c3];refine W2 (wpS_lift (Y_ ⟨rfl,?_⟩));refine W2 (zJ C h.kind Ut (by lia) (by lia) b1 ha λkr b2 NY=>?_);rw[hV (by decide)];obtain⟨r,h',hl,hr⟩:=h.run b2;exact FR C hD h' (by lia) (by lia) (hr _ NY) λGX h3=>q2 _ _ GX (by lia) h3
  ·rw[hV c3];obtain⟨r,h',hl,hr⟩:=h.run b1;exact FR C hD h' n1 (by lia) (hr _ ha) λGX h3=>q2 _ _ GX n1 h3
theorem MK {p:Array (Nat×Nat×Nat)}(h:¬p.size<=1):Sg p+1<p.size:=by
 unfold Sg;generalize (Option.any _ _)=z;cases z with
 |true=>rw[hZ rfl];lia
 |false=>rw[hV WE];lia
theorem xn (C:k7 M A E s O key knd D)(hD:∀p∈a0.toList,D p){st:Xe}(hk:Ym st=knd)(hf:aaA st=none)(ha:Xz st=a0)(hp:Xv st=#[]){Q:Unit->Xe->Prop}
  (q:∀aH,aaA aH=none->(Xz aH).toList.Perm a0.toList->g9 key (Xz aH).toList->Q () aH):wpS M A E s sortRuns' Q st:=by
 rw[vc];refine W2 (wpS_get ?_);rw[ha];have h0:SI key knd a0 0 a0.toList st:=⟨hf,hk,by rw[ha],[],by rw[ha];rfl,rfl,by rw[hp];exact trivial⟩;refine W2 (Zx (Yn (I:=λx c aH=>c.1=none/\x<=c.2/\∃r,SI key knd a0 c.2 r aH) (Q:=λc aH=>c.1=none/\SI key knd a0 a0.size [] aH) ?go ?out ⟨rfl,WR _,_,h0⟩) ?post)
 case out=>
  rintro⟨c1,lo⟩ aH ⟨e,hx,r,h⟩;dsimp only at e hx h;have hs:=h.size;have e1:lo=a0.size:=by lia
  have e2:r=[]:=YA (by lia);subst e1;subst e2;exact⟨e,h⟩
 case go=>
  rintro x c aH _ hx ⟨e,hx2,r,h⟩;refine MJ C hD h (λh1 h2=>⟨rfl,h1⟩) λn r kr n1 h2=>⟨rfl,?_,r,h2⟩;show x+1<=c.2+n;lia
 case post=>
  rintro⟨c1,lo⟩ aH ⟨e,h⟩;dsimp only at e ⊢;subst e;dsimp only;refine W2 (Zx (Yn (I:=λx c aH=>c=(none,())/\SI key knd a0 a0.size [] aH/\(Xv aH).size+x<=a0.size) (Q:=λc aH=>c=(none,())/\SI key knd a0 a0.size [] aH/\(Xv aH).size<=1) ?_ ?_ ⟨rfl,h,by have:=h.few;lia⟩) ?_)
  ·rintro x c kr _ hx ⟨rfl,h2,h3⟩;unfold TL;refine W2 (wpS_get ?_);by_cases c:(Xv kr).size<=1
   ·rw[hZ c];exact W_ ⟨rfl,h2,c⟩
   ·rw[hV c];refine W2 (h2.merge C hD (MK c) λGX h4 h5=>?_);rw[hV (by decide)];exact W_ ⟨rfl,h4,by lia⟩
  ·rintro c kr ⟨rfl,h2,h3⟩;exact⟨rfl,h2,by lia⟩
  ·rintro c kr ⟨rfl,h2,h3⟩;refine W_ (q kr h2.failed h2.perm ?_);obtain⟨gs,e,l,p⟩:=h2.segs;rw[e,Xt]
   match gs,(Xv kr).toList,p,(show (Xv kr).toList.length<=1 by rw[WO];exact h3) with
   | [],_,_,_=>exact List.Pairwise.nil
   | [g],[e1],p,_=>
    rw[XW,List.flatten_nil,Xt];exact p.2.2.2.1
   |g::g2::gs,[e1],p,_=>exact p.2.2.2.2.elim
   |g::gs,e1::e2::es,p,hl=>exact absurd hl (by simp)
end
end Hc.Ts
namespace Hc.Ts
section
variable {A:XD}{O:acJ}{key:Xd->O.α}{knd:aaZ}{D:Xd->Prop}
theorem tV {vs:List WM}(h:l.Perm (vs.zip vs)):(l.map (·.2)).Perm vs/\∀p∈l,p=(p.2,p.2):=by
 have e:(vs.zip vs).map (·.2)=vs:=by
  induction vs with
  |nil=>rfl
  |cons v r ih=>rw[List.zip_cons_cons,WD,List.map_snd_zip (by simp)]
 refine⟨by have:=h.map (·.2);rwa [e] at this,λp hp=>?_⟩;have hp:=h.mem_iff.mp hp;clear h e
 induction vs with
 |nil=>cases hp
 |cons v r ih=>
  rw[List.zip_cons_cons,WV] at hp;rcases hp with hp|hp
  ·subst hp;rfl
  ·exact ih hp
theorem FT {vs:List WM}{P:Fin->WY->Prop}(ho:s.heap.get? a=some (ace "list" vs.toArray n))(hz:vs.length<=1000000)(hk:2<=vs.length->∀(h6:ZG) (Q:aaZ->WY->Prop),(∀b o,b≠a->s.heap.get? b=some o->h6.get? b=some o)->Q knd {s with heap:=h6}->W4 (Xg prog w) A (keyKind' vs.toArray) Q E {s with heap:=h6})(hC:2<=vs.length->∀h6:ZG,(∀b o,b≠a->s.heap.get? b=some o->h6.get? b=some o)->k7 (Xg prog w) A E {s with heap:=h6} O key knd D)(hD:∀v∈vs,D (v,v))(h:∀out:List WM,out.Perm vs->out.Pairwise (λx y=>O.kle (key (x,x)) (key (y,y)))->P (.done (.ret .none)) {s with heap:=sortedHeap s.heap a vs out.toArray}) :
  W4 (Xg prog w) A (Builtin.«list.sort» ⟨[.ref a],[]⟩) P E s:=by
 have GY:vs.length<=WJ:=by rw[YI];lia
 have la:a<s.heap.objs.size:=WX ho;rw[list_sort_plain];refine Wy (listItems_at ho rfl (Wy (listUpdate_at ho rfl ?_ (hsz:=by rw[WK];exact GY))));obtain⟨e1,o1⟩:∃e1,(s.heap.update a (aai λ_=>#[])).get? a=some (ace "list" #[] e1):=⟨_,get?_update_seq ho (λ_=>#[])⟩;refine Wy (seqEpoch_at o1 rfl (Wy (wpAny_newTuple (Wy (wpAny_newList (Yl ?_))) (by simpa using GY))));have kp:∀b o,b≠a->s.heap.get? b=some o->(((s.heap.update a (aai λ_=>#[])).push (ace "tuple" vs.toArray 0)).push (ace "list" #[] 0)).get? b=some o:=λb o hb e=>
  WC _ (WC _ ((Heap.get?_update_ne _ _ _ _ hb).trans e))
 have o6:(((s.heap.update a (aai λ_=>#[])).push (ace "tuple" vs.toArray 0)).push (ace "list" #[] 0)).get? a=some (ace "list" #[] e1):=WC _ (WC _ o1);change W4 (Xg prog w) A _ P E {s with heap:=((s.heap.update a (aai λ_=>#[])).push (ace "tuple" vs.toArray 0)).push (ace "list" #[] 0)};dsimp only;have fin:∀aH:Xe,aaA aH=none->(Xz aH).toList.Perm (pairsOf vs).toList->g9 key (Xz aH).toList->W4 (Xg prog w) A (do
   let touched:=(←seqEpoch a) != e1
   Builtin.List.listUpdate (.ref a) λ_=>(Xz aH).map (·.2)
   if let some e:=aaA aH then rule "list.sort.comparison-raised";throw e
   if touched then rule "list.sort.modified";raiseError "ValueError" "list modified during sort"
   ret .none) P E {s with heap:=((s.heap.update a (aai λ_=>#[])).push (ace "tuple" vs.toArray 0)).push (ace "list" #[] 0)}:=by
  intro aH f1 f2 f3;rw[pairsOf_toList] at f2;obtain⟨m1,m2⟩:=tV f2;refine Wy (seqEpoch_at o6 rfl (Wy (listUpdate_at o6 rfl ?_ (hsz2:=by
   rw[Array.size_map,←WO,f2.length_eq,List.length_zip,acd];lia))))
  rw[f1];simp only[bne_self_eq_false,Xq,if_false];refine WB ?_;have e:(Xz aH).map (·.2)=((Xz aH).toList.map (·.2)).toArray:=by apply Array.ext';simp
  rw[e];refine h _ m1 (Zb.mpr (ZM (λ{x y} hx hy r=>?_) f3));rw[←m2 x hx,←m2 y hy];exact r
 by_cases h2:vs.length<2
 ·rw[hZ (by rw[WK];exact h2),hZ (by rw[WK];exact h2)];refine Wy (WB ?_);rw[StateT.run_pure];refine Wy (WB ?_);refine fin (SortSt.mk' general' (vs.toArray.zip vs.toArray) #[] 7 none) rfl (Yo _) ?_;change g9 key (pairsOf vs).toList;rw[pairsOf_toList]
  match vs,h2 with
  | [],_=>exact List.Pairwise.nil
  | [v],_=>exact XX _ _
  |_::_::_,h2=>exact absurd h2 (by simp)
 ·rw[hV (by rw[WK];exact h2),hV (by rw[WK];exact h2)];refine Wy (hk (by lia) _ _ kp ?_);refine Wy (Yc (xn (hC (by lia) _ kp) (a0:=pairsOf vs) (λp hp=>?_) (st:=SortSt.mk' knd (vs.toArray.zip vs.toArray) #[] 7 none) rfl rfl rfl rfl
   (Q:=λ_ aH=>aaA aH=none/\(Xz aH).toList.Perm (pairsOf vs).toList/\g9 key (Xz aH).toList) λaH a1 a2 a3=>⟨a1,a2,a3⟩) ?_ λ_ _ e=>e)
  ·rw[pairsOf_toList] at hp;obtain⟨m1,m2⟩:=tV (Yo (vs.zip vs));rw[m2 p hp];exact hD _ (m1.mem_iff.mp (Xh hp))
  ·rintro⟨⟨⟩,aH⟩ s' ⟨rfl,f1,f2,f3⟩;exact fin aH f1 f2 f3
end
end Hc.Ts
namespace Hc.Ts
open PySem.W
noncomputable def fV:List Int->List Int->Bool
 | [],[]=>false
 | [],_::_=>true
 |_::_,[]=>false
 |x::xs,y::ys=>if x=y then fV xs ys else decide (x<y)
theorem oE:∀a,fV a a=false
 | []=>rfl
 |x::xs=>by unfold fV;rw[hZ rfl];exact oE xs
theorem rj:∀a b c,fV a b=true->fV b c=true->fV a c=true
 | [],[],_,h,_=>by cases h
 | [],_::_,[],_,h=>by cases h
 | [],_::_,_::_,_,_=>rfl
 |_::_,[],_,h,_=>by cases h
 |_::_,_::_,[],_,h=>by cases h
 |x::xs,y::ys,z::zs,h1,h2=>by
  unfold fV at h1 h2 ⊢;by_cases e1:x=y
  ·subst e1;rw[hZ rfl] at h1;by_cases e2:x=z
   ·subst e2;rw[hZ rfl] at h2 ⊢;exact rj xs ys zs h1 h2
   ·rw[hV e2] at h2 ⊢;exact h2
  ·rw[hV e1] at h1;have h1:=of_decide_eq_true h1;by_cases e2:y=z
   ·subst e2;rw[hV e1];exact hG h1
   ·rw[hV e2] at h2;have h2:=of_decide_eq_true h2;rw[hV (by lia)];exact hG (by lia)
theorem xo:∀a b c,fV a c=true->fV a b=true\/fV b c=true
 | [],[],_::_,_=>.inr rfl
 | [],_::_,_::_,_=>.inl rfl
 | [],_,[],h=>by cases h
 |_::_,_,[],h=>by cases h
 |_::_,[],_::_,_=>.inr rfl
 |x::xs,y::ys,z::zs,h=>by
  unfold fV at h ⊢;by_cases e:x=z
  ·subst e;rw[hZ rfl] at h;by_cases e2:x=y
   ·subst e2;rw[hZ rfl,hZ rfl];exact xo xs ys zs h
   ·rw[hV e2,hV (λq=>e2 q.symm),decide_eq_true_eq,decide_eq_true_eq];lia
  ·rw[hV e] at h;have h:=of_decide_eq_true h;by_cases e2:x=y
   ·subst e2;exact .inr (by rw[hV e];exact hG h)
   ·by_cases e3:y=z
    ·subst e3;exact .inl (by rw[hV e];exact hG h)
    ·rw[hV e2,hV e3,decide_eq_true_eq,decide_eq_true_eq];lia
theorem lh:∀a b,fV a b=false->fV b a=false->a=b
 | [],[],_,_=>rfl
 | [],_::_,h,_=>by cases h
 |_::_,[],_,h=>by cases h
 |x::xs,y::ys,h1,h2=>by
  unfold fV at h1 h2;by_cases e:x=y
  ·subst e;rw[hZ rfl] at h1 h2;rw[lh xs ys h1 h2]
  ·rw[hV e] at h1;rw[hV (λq=>e q.symm)] at h2;have h1:=of_decide_eq_false h1;have h2:=of_decide_eq_false h2;lia
noncomputable def IE:acJ:=⟨List Int,fV,oE,rj,xo,lh⟩
noncomputable def vd (h:ZG)(v:WM):List Int:=match v with
 | .ref a=>match h.get? a with
  |some o=>match o.data with
   | .seq ao _=>ao.toList.map numOf
   |_=>[]
  |none=>[]
 |_=>[]
def xp (h:ZG)(v:WM):Prop:=∃a ao ns,v=.ref a/\h.IsTuple a ao/\abc ao.toList ns/\ns≠[]
theorem xq:∀{vs:List WM} {ns:List Int},abc vs ns->vs.map numOf=ns
 |_,_,.nil=>rfl
 |_,_,.cons n t r=>by rw[WD,xq r];rfl
theorem mD {ao:Array WM}(t:h.IsTuple a ao)(i:abc ao.toList ns):vd h (.ref a)=ns:=by
 obtain⟨o,e,_,n,d⟩:=t;unfold vd;dsimp only;rw[e];dsimp only;rw[d];exact xq i
section
variable {A:XD}{b fin:Bool}{Q:Bool->WY->Prop}
theorem xr:∀{xs ys:List WM} {ns ms:List Int} {i:Nat},abc xs ns->abc ys ms->fin=decide (ns.length<ms.length)->Q (fV ns ms) s->KatLex prog w A b fin Q (xs.zip ys) i s
 |_,_,_,_,i,.nil,.nil,hf,h=>by subst hf;exact kat_nil h
 |_,_,_,_,i,.nil,.cons m t r,hf,h=>by subst hf;exact kat_nil (by rw[show decide (([]:List Int).length<(m::_).length)=true from hG (by simp)];exact h)
 |_,_,_,_,i,.cons n t r,.nil,hf,h=>by subst hf;exact kat_nil (by rw[show decide ((n::_).length<([]:List Int).length)=false from hJ (by simp)];exact h)
 |_,_,_,_,i,.cons n t r,.cons m u q,hf,h=>by
  refine kat_cons (wpAny_eqBool_int ?_);unfold fV at h;by_cases e:n=m
  ·subst e;rw[hZ rfl] at h;rw[beq_self_eq_true];refine kat_yes (xr r q ?_ h);rw[hf];simp
  ·rw[hV e] at h;rw[show (n==m)=false from beq_eq_false_iff_ne.mpr e];refine kat_no ?_;cases hb:(b&&i==0) with
   |true=>exact oneLt_int h
   |false=>exact kat_one _ _ (lt_int h)
theorem IF {hp:ZG}(keep:∀v,xp hp v->xp s.heap v/\vd s.heap v=vd hp v):k7 (Xg prog w) A E s IE (λx=>vd hp x.1) (tuples' true) (λx=>xp hp x.1) where
 lt:=λx y st Q dx dy kd q=>by
  obtain⟨k1,k2⟩:=keep _ dx;obtain⟨k3,k4⟩:=keep _ dy;obtain⟨a,xs,ns,e1,t1,i1,_⟩:=k1;obtain⟨c,ys,ms,e2,t2,i2,_⟩:=k3;rw[←k2,←k4,e1,e2,mD t1 i1,mD t2 i2] at q;rw[lt'_eq];refine W2 (wpS_get ?_);rw[kd,e1,e2];obtain⟨o1,g1,_,n1,d1⟩:=t1;obtain⟨o2,g2,_,n2,d2⟩:=t2;refine W2 (wpS_lift (Zw (kat_lt g1 d1 g2 d2 (xr i1 i2 ?_ ⟨rfl,?_⟩))))
  ·rw[←i1.length,←i2.length,WO,WO]
  ·exact W_ q
end
end Hc.Ts
namespace Hc.Dw
open PySem.W PySem.Calls
section
variable {A:XD}{d r I:W7}
theorem ML (hh:A.handled=none)(KY:d≠I):Walks prog w A I [I,d] [I] ds.size (λi v=>∃e,ds[i]? = some e/\v=e.key) (λi h=>h.IsKeyIter I d i ds.size ep/\ju h d ds ep) where
 sub:=λb hb=>by simp at hb;simp[hb]
 frame:=λ_ _ _ st hk=>⟨st.1.at λo e=>hk I (by simp) o e,st.2.at λo e=>hk d (by simp) o e⟩
 item:=λi s Q E hi st hQ=>Pq st.1 st.2 hi λh' t' sb=>hQ _ h' s.toks ⟨_,getElem?_pos ds i hi,rfl⟩ ⟨t',st.2.at λo e=>sb.extBut _ _ KY e⟩ λb o hb e=>sb.extBut b o (λh=>hb (by simp[h])) e
 done:=λs Q E st hQ=>Pr hh st.1 st.2 (WR _) λh' eb=>hQ h' s.toks λb o hb e=>eb b o (λh=>hb (by simp[h])) e
 self:=λ_ _ _ _ st hQ=>wpAny_pyIter_keyiter st.1 hQ
theorem Sh (lo:(d==Ys)=false):KdlSrc prog w "dict" d d ds.size (λi v=>∃e,ds[i]? = some e/\v=e.key) (λh=>ju h d ds ep) where
 type:=λ_ hm=>hm.ty
 there:=λ_ hm=>⟨hm.lt,hm.lt⟩
 keep:=λ_ _ hm hk=>hm.at λo e=>hk d (.inl rfl) o e
 notList:=by decide
 notTuple:=by decide
 hint:=λ_ _ _ _ hm hq=>kdl_hint_dict hm.ty hq
 iter:=λ_ s hh hm=>⟨_,_,(λ_ _ hq=>Pp lo hm hq),ML hh (Xj hm.lt),⟨⟨_,WQ _ rfl,rfl,rfl⟩,hm.at λo e=>WC _ e⟩⟩
theorem oF {P:Nat->WM->Prop}{OK:ZG->Prop}(K:KdlSrc prog w T r d n P OK)(hh:A.handled=none)(hok:OK s.heap)(hn:n<=WJ){Q:List WM->WY->Prop}(q:∀h' tk bz,(∀b o,s.heap.get? b=some o->h'.get? b=some o)->ItemsOf P bz n->Q bz.toList {s with heap:=h',toks:=tk}):W4 (Xg prog w) A (collect (.ref r)) Q E s:=by
 have lt:=K.there _ hok;unfold collect;refine Wy (wpAny_runValue (Zf PySem.F.entry_proto_collect ?_));rw[YQ PySem.F.plain_proto_collect _];change W4 _ A.in1 (newList [] >>= λl=>again (.builtin "list.__iadd__" ⟨[l,.ref r],[]⟩)) _ _ s;refine Wy (Xk (WB ⟨plainId_quiet PySem.F.plain_list_iadd _,Zf PySem.F.entry_list_iadd ?_⟩));rw[YQ PySem.F.plain_list_iadd _];have hS:(s.heap.push {cls:=.type "list",data:=.seq ([]:List WM).toArray}).get? s.heap.objs.size=some {cls:=.type "list",data:=.seq #[] 0}:=WQ _ rfl;change W4 _ A.in1 (abT (.ref s.heap.objs.size) (.ref r) (.ref s.heap.objs.size)) _ _ _;refine kdl_extend (A:=A) (R:=λx s'=>match x with
  | .ok (.ret v)=>W4 (Xg prog w) A (match v with
   | .ref a=>do match (←load a).data with
    | .seq xs _=>pure xs.toList
    |_=>aaC "internal:collect"
   |_=>aaC "internal:collect") Q E s'
  | .ok _=>False
  | .error e=>E e s') (s:={s with heap:=s.heap.push {cls:=.type "list",data:=.seq ([]:List WM).toArray}}) K hh (K.keep _ _ hok λb _ o e=>WC _ e) _ (ZP lt.1) (ZP lt.2) _ 0 hS (λh' tk bz c' k' Nv pD=>?_) hn
 change W4 _ A (load s.heap.objs.size >>= _) _ _ _;refine Wy (wpAny_load Nv ?_);exact WB (q h' tk bz (λb o e=>k' b o (Xj (WX e)) (WC _ e)) pD)
end
end Hc.Dw
namespace Hc.Sy
open PySem.SetTable Hc.Sx
theorem NP:Slot "set_iterator" "__next__" "set_iterator.__next__":=by
 refine .of (owner:="set_iterator") (n:="__next__") ?_ (by decide+kernel) (by decide+kernel) (by decide+kernel) ?_ ?_
 ·rw[typeLookup_type,builtinLookup_eq_fast];kernel_rfl
 ·first|exact .inl (by decide+kernel)|exact .inr (by decide+kernel)
 ·rw[isSubtype_type];kernel_rfl
theorem TM:entryFor table "set_iterator.__next__"=some Builtin.«set_iterator.__next__»:=entryFor_of_tree (by kernel_rfl)
theorem TN (a:WM):argsOk "set_iterator.__next__" ⟨[a],[]⟩:=by unfold argsOk;kernel_rfl
theorem TQ:Slot "set_iterator" "__iter__" "set_iterator.__iter__":=by
 refine .of (owner:="set_iterator") (n:="__iter__") ?_ (by decide+kernel) (by decide+kernel) (by decide+kernel) ?_ ?_
 ·rw[typeLookup_type,builtinLookup_eq_fast];kernel_rfl
 ·first|exact .inl (by decide+kernel)|exact .inr (by decide+kernel)
 ·rw[isSubtype_type];kernel_rfl
theorem UQ:entryFor table "set_iterator.__iter__"=some Builtin.«dict_keyiterator.__iter__»:=entryFor_alias (id':="dict_keyiterator.__iter__") (by kernel_rfl) rfl (by decide+kernel) (by kernel_rfl)
theorem UR (a:WM):argsOk "set_iterator.__iter__" ⟨[a],[]⟩:=by unfold argsOk;kernel_rfl
theorem US:entryFor table "set.__iter__"=some Builtin.«frozenset.__iter__»:=entryFor_alias (id':="frozenset.__iter__") (by kernel_rfl) rfl (by decide+kernel) (by kernel_rfl)
theorem UT (a:WM):argsOk "set.__iter__" ⟨[a],[]⟩:=by unfold argsOk;kernel_rfl
def kC (w:Z1)(h:ZG)(a:W7)(es:Array (Int×WM))(ep:Nat)(t:aaw):Prop:=
 ∃o,h.get? a=some o/\o.ExactSet/\o.data=.set es ep t/\t.fits es.size=true/\t.plain=true/\(yu w=true\/t.led=true)/\O3 t.place/\t.place.size=es.size
theorem kC.at {es:Array (Int×WM)}(x:kC w h a es ep t)(e:∀o,h.get? a=some o->h'.get? a=some o):kC w h' a es ep t:=by
 obtain⟨o,q,r⟩:=x;exact⟨o,e o q,r⟩
theorem kC.ty {es:Array (Int×WM)}(x:kC w s.heap a es ep t):s.TypeIs (.ref a) "set":=by
 obtain⟨o,e,c,_⟩:=x;exact⟨o,e,c.1⟩
theorem kC.lt {es:Array (Int×WM)}(x:kC w h a es ep t):a<h.objs.size:=by
 obtain⟨o,e,_⟩:=x;exact WX e
noncomputable def sC (w:Z1)(a:W7)(ep:Nat)(es:Array (Int×WM)):Array (Int×WM):=if yu w=true then acK (w.params.setOrder a ep) es else es
noncomputable def dP (w:Z1)(t:aaw):Nat->Nat
 |0=>0
 |i+1=>if yu w=true then 0 else t.place.getD i 0+1
noncomputable def MM (w:Z1)(a:W7)(n ep:Nat)(t:aaw)(i:Nat):Array WM:=#[.int (dP w t i:Nat) 0,.int i 0,.ref a,.int n 0,.int ep 0]
def zK (w:Z1)(h:ZG)(it a:W7)(n ep:Nat)(t:aaw)(i:Nat):Prop:=∃o,h.get? it=some o/\o.cls=.type "set_iterator"/\o.data=.fields (MM w a n ep t i)
theorem zK.at (x:zK w h it a n ep t i)(e:∀o,h.get? it=some o->h'.get? it=some o):zK w h' it a n ep t i:=by
 obtain⟨o,q,r⟩:=x;exact⟨o,e o q,r⟩
theorem dZ {A:XD}{α:Type}{b:Bool}{x y:Sem α}{Q:α->WY->Prop}(h:b=false)(q:W4 M A y Q E s):W4 M A (if b=true then x else y) Q E s:=by
 rw[h,hV WE];exact q
section
variable {A:XD}{es:Array (Int×WM)}
theorem PD (x:kC w s.heap a es ep t)(q:Q (.ref s.heap.objs.size) {s with heap:=s.heap.push {cls:=.type "set_iterator",data:=.fields (MM w a es.size ep t 0)}}):W4 (Xg prog w) A (pyIter (.ref a)) Q E s:=by
 have ty:=x.ty;obtain⟨o,e1,e2,e3,e4,e5,e6,e7,e8⟩:=x;refine aam ty PySem.F.slot_set_iter (Xr PySem.F.slot_set_iter ty US ?_ (UT _));unfold Builtin.«frozenset.__iter__» Builtin.Frozenset.slot0 slotArgs;simp only[List.isEmpty_nil,Zt,Xq,↓reduceIte,bind_assoc,aaR,bne_self_eq_false];unfold Builtin.Frozenset.addrOf Builtin.Frozenset.sizeOf;refine Wy (WB ?_)
 try dsimp only
 refine Wy (WB ?_);refine Wy (Wy (abW e1 e3 e4 (WB ?_)));unfold setDrawn setsByText;refine Wy (Wy (Yf e1 e3 e4 ?_));dsimp only;refine Wy (Wy (Y2 (WB (WB ?_))));have nd:(!(w.params.followText "set-order")&&(!t.plain&&decide (es.size>1)))=false:=by rw[e5];simp
 refine dZ nd ?_;refine Wy (WB ?_);unfold setEpoch;refine Wy (Wy (Yf e1 e3 e4 (WB ?_)));refine Wy (Xk (WB ⟨_,rfl,"set_iterator",_,⟨_,WQ _ rfl,rfl⟩,NP.lookup,?_⟩));simpa [abr,MM,dP] using q
theorem vg {Q:Option (WM×Nat)->WY->Prop}(x:kC w s.heap a es ep t)(hi:i<es.size){e:Int×WM}(he:(sC w a ep es)[i]? = some e)(q:Q (some (e.2,dP w t (i+1))) s) :
  W4 (Xg prog w) A (setNext a (dP w t i) i ep) Q E s:=by
 obtain⟨o,e1,e2,e3,e4,e5,e6,e7,e8⟩:=x;unfold setNext;refine Wy (Yf e1 e3 e4 ?_);dsimp only;unfold setsByText;refine Wy (Wy (Y2 (WB ?_)));unfold sC at he;by_cases b:yu w=true
 ·rw[hZ b] at he;rw[hZ (show (Xg prog w).w.params.followText "set-order"=true from b),hV (by simp)];unfold setWalk setsByText;refine Wy (Wy (Yf e1 e3 e4 ?_));dsimp only;refine Wy (Wy (Y2 (WB ?_)));rw[hZ (show (Xg prog w).w.params.followText "set-order"=true from b)];refine Wy (Y2 (WB (WB ?_)));have GZ:(acK ((Xg prog w).w.params.setOrder a ep) es)[i]? = some e:=he;rw[GZ];have z:dP w t i=0:=by
   cases i with
   |zero=>rfl
   |succ i=>show (if yu w=true then 0 else _)=0;rw[hZ b]
  have z':dP w t (i+1)=0:=by show (if yu w=true then 0 else _)=0;rw[hZ b]
  rw[z'] at q;rw[z];exact q
 ·rw[hV b] at he;rw[hV (show ¬(Xg prog w).w.params.followText "set-order"=true from b)];have led:t.led=true:=e6.resolve_left b;have nd:(!t.plain&&decide (es.size>1))=false:=by rw[e5];rfl
  refine dZ nd ?_;refine Wy (aaD (a:=()) (by show (if (!t.led && !es.isEmpty)=true then _ else _)=_;rw[led];rfl) (WB ?_));have hb:below t.place (dP w t i)=i:=by
   obtain⟨b1,b2,b3⟩:=mj (j:=dP w t i) e7;rcases abi (below t.place (dP w t i)) i with z|z|z
   ·exfalso;cases i with
    |zero=>lia
    |succ i=>
     have hs:dP w t (i+1)=t.place.getD i 0+1:=by show (if yu w=true then 0 else _)=_;rw[hV b]
     have g:t.place.getD i 0=t.place[i]'(by lia):=by simp[abh,show i<t.place.size from by lia]
     have:=b2 i (by lia) (by lia);rw[hs,g] at this;lia
   ·exact z
   ·exfalso;have:=b1 i (by lia) z;cases i with
    |zero=>exact absurd this (Nat.not_lt_zero _)
    |succ i=>
     have hs:dP w t (i+1)=t.place.getD i 0+1:=by show (if yu w=true then 0 else _)=_;rw[hV b]
     have g:t.place.getD i 0=t.place[i]'(by lia):=by simp[abh,show i<t.place.size from by lia]
     have r:=(show t.place[i]'(by lia)<t.place[i+1]'(by lia) from e7 i (i+1) (by lia) (by lia) (by lia));rw[hs,g] at this;lia
  rw[hb,he,getElem?_pos t.place i (by lia)];have hs:dP w t (i+1)=t.place.getD i 0+1:=by show (if yu w=true then 0 else _)=_;rw[hV b]
  have g:t.place.getD i 0=t.place[i]'(by lia):=by simp[abh,show i<t.place.size from by lia]
  rw[hs,g] at q;exact q
theorem PF {Q:Option WM->WY->Prop}(k:zK w s.heap it a es.size ep t i)(x:kC w s.heap a es ep t)(ne:it≠a)(hi:i<es.size){e:Int×WM}(he:(sC w a ep es)[i]? = some e)
  (q:∀h',zK w h' it a es.size ep t (i+1)->Yg it s.heap h'->Q (some e.2) {s with heap:=h'}):W4 (Xg prog w) A (aaI (.ref it)) Q E s:=by
 obtain⟨oi,i1,i2,i3⟩:=k;have ty:s.TypeIs (.ref it) "set_iterator":=⟨oi,i1,i2⟩;have x0:=x;obtain⟨o,e1,e2,e3,e4,e5,e6,e7,e8⟩:=x;unfold aaI;refine Wy (Zw (Xy (name:=YC "__next__") ty NP (Xr NP ty TM ?_ (TN _))));unfold Builtin.«set_iterator.__next__»;refine Wy (WB ?_);refine Wy (aat i1 i3 ?_);change W4 _ _ (setEntries a >>= _) _ _ s;refine Wy (abW e1 e3 e4 ?_);rw[hV (by simp)];change W4 _ _ (setNext a (dP w t i:Int).toNat (i:Int).toNat (ep:Int).toNat >>= _) _ _ s;rw[Xm,Xm,Xm];refine Wy (vg x0 hi he ?_);dsimp only;change W4 _ _ (setField (.ref it) 0 _ >>= _) _ _ s;refine Wy (ZC i1 i3 (by simp[MM]) ?_);have Uu:=YE (Obj.mapFields (·.setIfInBounds 0 (abr (dP w t (i+1):Nat)))) i1 (aac (YM i3 _));have S5:=YM i3 (·.setIfInBounds 0 (abr (dP w t (i+1):Nat)));change W4 _ _ (setField (.ref it) 1 _ >>= _) _ _ _;refine Wy (ZC Uu S5 (by simp[MM]) ?_);refine WB ⟨_,rfl,WB (q _ ⟨_,YE _ Uu (aac (YM S5 _)),(abj ..).trans ((abj ..).trans i2),?_⟩ ((XZ ..).trans (XZ ..)))⟩;rw[YM S5];simp[MM,abr]
end
end Hc.Sy
namespace Hc.Sy
open PySem.SetTable Hc.Sx PySem.W
section
variable {A:XD}{es:Array (Int×WM)}
theorem Bq {α:Type}(next:Nat->Nat):∀(n k:Nat) (left:List α) (out:Array α),left.length=n->(pickOrder.go next n k left out).toList.Perm (out.toList++left)
 |0,k,left,out,h=>by
  have:left=[]:=YA h;subst this;unfold pickOrder.go;rw[Xt]
 |n+1,k,left,out,h=>by
  have hl:next k % left.length<left.length:=aal _ (by lia)
  unfold pickOrder.go;rw[Wz hl];dsimp only;refine (Bq next n (k+1) _ _ (by rw[List.length_eraseIdx_of_lt hl];lia)).trans ?_;rw[Ze,W8];refine X7 _ ?_;rw[List.eraseIdx_eq_take_drop_succ,List.singleton_append];refine List.perm_middle.symm.trans ?_;rw[←XO hl,Xu]
theorem tW {α:Type}(next:Nat->Nat)(xs:Array α):(acK next xs).toList.Perm xs.toList:=by
 have:=Bq next xs.size 0 xs.toList #[] (by simp)
 simpa [acK] using this
theorem xt:(sC w a ep es).toList.Perm es.toList:=by
 unfold sC;split
 ·exact tW _ _
 ·exact Yo _
theorem xu:(sC w a ep es).size=es.size:=by
 have:=(xt (w:=w) (a:=a) (ep:=ep) (es:=es)).length_eq;simpa using this
theorem vh {Q:Option (WM×Nat)->WY->Prop}(x:kC w s.heap a es ep t)(q:Q none s):W4 (Xg prog w) A (setNext a (dP w t es.size) es.size ep) Q E s:=by
 obtain⟨o,e1,e2,e3,e4,e5,e6,e7,e8⟩:=x;unfold setNext;refine Wy (Yf e1 e3 e4 ?_);dsimp only;unfold setsByText;refine Wy (Wy (Y2 (WB ?_)));by_cases b:yu w=true
 ·rw[hZ (show (Xg prog w).w.params.followText "set-order"=true from b),hV (by simp)];unfold setWalk setsByText;refine Wy (Wy (Yf e1 e3 e4 ?_));dsimp only;refine Wy (Wy (Y2 (WB ?_)));rw[hZ (show (Xg prog w).w.params.followText "set-order"=true from b)];refine Wy (Y2 (WB (WB ?_)));have hz:(acK ((Xg prog w).w.params.setOrder a ep) es)[es.size]? = none:=by
   have:=(tW ((Xg prog w).w.params.setOrder a ep) es).length_eq;rw[Z2 (by simpa using Nat.le_of_eq this)]
  rw[hz];exact q
 ·rw[hV (show ¬(Xg prog w).w.params.followText "set-order"=true from b)];have led:t.led=true:=e6.resolve_left b;have nd:(!t.plain&&decide (es.size>1))=false:=by rw[e5];rfl
  refine dZ nd ?_;refine Wy (aaD (a:=()) (by show (if (!t.led && !es.isEmpty)=true then _ else _)=_;rw[led];rfl) (WB ?_));have hb:es.size<=below t.place (dP w t es.size):=by
   obtain⟨b1,b2,b3⟩:=mj (j:=dP w t es.size) e7;rcases Zv (below t.place (dP w t es.size)) es.size with z|z
   ·exfalso;obtain⟨m,hm⟩:∃m,es.size=m+1:=⟨es.size-1,by lia⟩;have hs:dP w t es.size=t.place.getD m 0+1:=by rw[hm];show (if yu w=true then 0 else _)=_;rw[hV b]
    have g:t.place.getD m 0=t.place[m]'(by lia):=by simp[abh,show m<t.place.size from by lia]
    have:=b2 m (by lia) (by lia);rw[hs,g] at this;lia
   ·exact z
  rw[Z2 hb];exact q
theorem PH {Q:Option WM->WY->Prop}(hh:A.handled=none)(k:zK w s.heap it a es.size ep t es.size)(x:kC w s.heap a es ep t)
  (q:∀h',Heap.ExtBut it s.heap h'->Q none {s with heap:=h'}):W4 (Xg prog w) A (aaI (.ref it)) Q E s:=by
 obtain⟨oi,i1,i2,i3⟩:=k;have ty:s.TypeIs (.ref it) "set_iterator":=⟨oi,i1,i2⟩;have x0:=x;obtain⟨o,e1,e2,e3,e4,e5,e6,e7,e8⟩:=x;unfold aaI;refine Wy (Zw (Xy (name:=YC "__next__") ty NP (Xr NP ty TM ?_ (TN _))));unfold Builtin.«set_iterator.__next__»;refine Wy (WB ?_);refine Wy (aat i1 i3 ?_);change W4 _ _ (setEntries a >>= _) _ _ s;refine Wy (abW e1 e3 e4 ?_);rw[hV (by simp)];change W4 _ _ (setNext a (dP w t es.size:Int).toNat (es.size:Int).toNat (ep:Int).toNat >>= _) _ _ s;rw[Xm,Xm,Xm];refine Wy (vh x0 ?_);dsimp only;change W4 _ _ (setField (.ref it) 2 .none >>= _) _ _ s;refine Wy (ZC i1 i3 (by simp[MM]) ?_);change W4 _ _ (newExc (.type "StopIteration") [] >>= _) _ _ _;refine Wy ?_;simp only[newExc,newTuple];refine Wy (Xk (hd:=by size_fits) ?_);refine Wy (m:=ZD _ _) (aaD (a:=Value.none) (by first|rfl|(simp only[ZD];rfl)) (Xk (hd:=by size_fits) ?_));simp only[raiseNew];refine Wy (wpAny_handled ?_);rw[show A.in1.handled=none from hh];refine Wy (WB (wpAny_throw ?_));refine Wy (ZV (b:=true) (T:="StopIteration") ⟨_,WQ _ rfl,rfl⟩ acn ?_);exact WB (q _ (((XZ ..).extBut.push _).push _))
theorem MN (hh:A.handled=none)(KY:a≠it):Walks prog w A it [it,a] [it] es.size (λi v=>∃e,(sC w a ep es)[i]? = some e/\v=e.2) (λi h=>zK w h it a es.size ep t i/\kC w h a es ep t) where
 sub:=λb hb=>by simp at hb;simp[hb]
 frame:=λ_ _ _ st hk=>⟨st.1.at λo e=>hk it (by simp) o e,st.2.at λo e=>hk a (by simp) o e⟩
 item:=λi s Q E hi st hQ=>by
  have yx:i<(sC w a ep es).size:=by rw[xu];exact hi
  exact PF st.1 st.2 (Ne.symm KY) hi (getElem?_pos _ i yx) λh' t' sb=>hQ _ h' s.toks ⟨_,getElem?_pos _ i yx,rfl⟩ ⟨t',st.2.at λo e=>sb.extBut _ _ KY e⟩ λb o hb e=>sb.extBut b o (λh=>hb (by simp[h])) e
 done:=λs Q E st hQ=>PH hh st.1 st.2 λh' eb=>hQ h' s.toks λb o hb e=>eb b o (λh=>hb (by simp[h])) e
 self:=λi s Q E st hQ=>by
  obtain⟨oi,i1,i2,i3⟩:=st.1;have ty:s.TypeIs (.ref it) "set_iterator":=⟨oi,i1,i2⟩;refine aam ty TQ (Xr TQ ty UQ ?_ (UR _));change W4 _ _ (ret (.ref it)) _ _ s;exact WB ⟨_,rfl,"set_iterator",_,ty,NP.lookup,hQ⟩
theorem PJ {Q:Bool->WY->Prop}(hT:s.TypeIs (.ref a) "set")(h:Q false s):W4 (Xg prog w) A (abX (.ref a)) Q E s:=by
 unfold abX;refine Wy (Z9 hT PySem.F.slot_set_len.lookup ?_);generalize hid:("set.__len__":String)=id0
 wp_delta
 rw[show splitId id0=some ("set","__len__") from by subst hid;decide+kernel];subst hid;refine Wy (ZV (T:="set") (b:=true) hT (by rw[isSubtype_type];kernel_rfl) ?_);refine wpAny_ite_split (λuu=>absurd uu (by decide)) (λ_=>?_);refine wpAny_ite_split (λ_=>?_) (λuu=>absurd (by decide+kernel) uu);refine Wy (abv hT ?_);exact WB h
theorem Si:KdlSrc prog w "set" a a es.size (λi v=>∃e,(sC w a ep es)[i]? = some e/\v=e.2) (λh=>kC w h a es ep t) where
 type:=λ_ hm=>hm.ty
 there:=λ_ hm=>⟨hm.lt,hm.lt⟩
 keep:=λ_ _ hm hk=>hm.at λo e=>hk a (.inl rfl) o e
 notList:=by decide
 notTuple:=by decide
 hint:=λ_ _ _ _ hm hq=>PJ hm.ty hq
 iter:=λ_ s hh hm=>⟨_,_,(λ_ _ hq=>PD hm hq),MN hh (Xj hm.lt),⟨⟨_,WQ _ rfl,rfl,rfl⟩,hm.at λo e=>WC _ e⟩⟩
end
end Hc.Sy
namespace Hc.Sy
open PySem.SetTable Hc.Sx PySem.W
noncomputable abbrev tI (prog:ZI)(w:Z1):aaU prog w (List Int):=acr (intKind prog w)
section
variable {A:XD}
theorem rk {α β:Type}(f:α->β->Sem (ForInStep β))(b:β)(xs:Array α)(h:∀x∈xs.toList,f x b=pure (.yield b)):forIn xs b f=pure b:=by
 rw[←acf];generalize xs.toList=l at h
 induction l with
 |nil=>rfl
 |cons x l ih=>
  rw[aaT,h x WG,pure_bind];exact ih λy hy=>h y (WI _ hy)
theorem Kv {ao:Array WM}{o:Obj}{Q:Option (Array WM)->WY->Prop}(e1:s.heap.get? a=some o)(e3:o.data=.seq ao n)(q:Q (some ao) s):W4 (Xg prog w) A (seqItems? (.ref a)) Q E s:=by
 unfold seqItems?;refine Wy (wpAny_load e1 ?_);rw[e3];exact WB q
theorem rn {ks:List Int}{vs:List WM}(h:ItemsAre (intKind prog w) ks vs):∀v∈vs,∃n t,v=.int n t:=by
 induction h with
 |nil=>intro v hv;cases hv
 | @cons k v' ks vs h1 _ ih=>
  intro v hv;rcases WV.mp hv with rfl|hv
  ·obtain⟨t,rfl⟩:=Value.isInt_shape h1;exact⟨k,t,rfl⟩
  ·exact ih v hv
theorem UU:nX (tI prog w) where
 cls:=λ{A E s k a Q} hk q=>by
  obtain⟨o,ao,n,e1,e2,e3,e4⟩:=hk;have ty:s.TypeIs (.ref a) "tuple":=⟨o,e1,e2⟩;unfold ofAClassStatement;refine Wy (abv ty ?_);change W4 _ _ (pure true >>= _) _ _ s;refine Wy (WB ?_);change W4 _ _ (seqItems? (.ref a) >>= _) _ _ s;refine Wy (Kv e1 e3 ?_);dsimp only;rw[rk]
  ·exact Wy (WB (WB q))
  ·intro x hx;obtain⟨n,t,rfl⟩:=rn e4 x hx;rfl
 byv:=λ{A E s k a Q} hk q=>by
  obtain⟨o,ao,n,e1,e2,e3,e4⟩:=hk;have ty:s.TypeIs (.ref a) "tuple":=⟨o,e1,e2⟩;unfold hashByValue;refine Wy (Z9 ty PySem.F.slot_tuple_hash.lookup ?_);change W4 _ _ (seqItems? (.ref a) >>= _) _ _ s;refine Wy (Kv e1 e3 ?_);dsimp only[Option.getD];rw[rk]
  ·exact Wy (WB (WB q))
  ·intro x hx;obtain⟨n,t,rfl⟩:=rn e4 x hx;rfl
 kept:=λ{h h' k a d o es ep t} hk ho hd hs=>by
  obtain⟨o1,ao,n,e1,e2,e3,e4⟩:=hk;have ne:a≠d:=λz=>by
   subst z;rw[e1] at ho;cases ho;rw[e3] at hd;cases hd
  exact⟨o1,ao,n,hs.extBut _ _ ne e1,e2,e3,e4⟩
end
end Hc.Sy
namespace L2
open Hc.Dw Hc.Ts
noncomputable def PL:V->Int
 | .int i=>i
 |_=>0
noncomputable def cz (H:Hp)(b:W7):List Int:=match H b with
 |some (.tup xs)=>xs.map PL
 |_=>[]
theorem xv (ns:List Int):(ns.map V.int).map PL=ns:=by
 induction ns with
 |nil=>rfl
 |cons n r ih=>rw[WD,WD,ih];rfl
def MO (K:WH)(H:Hp)(p:W7)(bs:List W7):Prop:=eF K H p (bs.map V.ref)\/fQ K H p (bs.map V.ref)\/∃ep es,H p=some (DN p ep es)/\es.map (·.2.1)=bs
theorem kg:∀{bs:List W7} {ao:List WM},aQ (bs.map V.ref) ao->ao=bs.map Value.ref
 | [],_,.nil=>rfl
 |b::bs,_,.cons r t=>by rw[WD,kg t];cases r;rfl
theorem tX:∀(bs:List W7),aQ (bs.map V.ref) (bs.map Value.ref)
 | []=>.nil
 |b::bs=>.cons rfl (tX bs)
theorem tY {bs:List W7}{out:List WM}(h:out.Perm (bs.map Value.ref)):∃jx:List W7,out=jx.map Value.ref/\jx.Perm bs:=by
 let g:WM->W7:=λv=>match v with
  | .ref a=>a
  |_=>0
 refine⟨out.map g,?_,?_⟩
 ·rw[Xb]
  conv=>lhs;rw[←List.map_id out]
  apply Xl;intro v hv;obtain⟨b,_,rfl⟩:=WS.mp (h.mem_iff.mp hv);rfl
 ·have:=h.map g;rw[Xb] at this;have e:bs.map (g∘Value.ref)=bs:=by
   conv=>rhs;rw[←List.map_id bs]
   apply Xl;intro b _;rfl
  rw[e] at this;exact this
theorem IG (I:az X pins σ H s)(h:H b=some (.tup (ns.map V.int)))(n:ns≠[]):xp s.heap (.ref b)/\vd s.heap (.ref b)=cz H b:=by
 obtain⟨_,ao,rv,it,_⟩:=I.hok b _ h;have ia:=gz rv;refine⟨⟨b,ao.toArray,ns,rfl,it,by simpa using ia,n⟩,?_⟩;rw[mD it (by simpa using ia)];unfold cz;rw[h];exact (xv ns).symm
theorem tZ {v:WM}(t:xp h v)(k:∀b ao,h.IsTuple b ao->h'.IsTuple b ao):xp h' v/\vd h' v=vd h v:=by
 obtain⟨a,ao,ns,rfl,q,i,n⟩:=t;refine⟨⟨a,ao,ns,rfl,k a ao q,i,n⟩,?_⟩;rw[mD q i,mD (k a ao q) i]
theorem Br {h:ZG}:∀{vs:List WM},(∀v∈vs,xp h v)->∃fs,PySem.W.KatTups h vs fs/\fs.length=vs.length/\∀f∈fs,∃n t,f=.int n t
 | [],_=>⟨[],.nil,rfl,λf hf=>by cases hf⟩
 |v::vs,hv=>by
  obtain⟨fs,k1,k2,k3⟩:=Br (vs:=vs) λu hu=>hv u (WI _ hu);obtain⟨a,ao,ns,rfl,⟨o,e,c,n,d⟩,i,ne⟩:=hv v WG;have:∃m t r,ao.toList=.int m t::r:=by
   generalize ao.toList=l at i;cases i with
   |nil=>exact absurd rfl ne
   |cons m t r=>exact⟨m,t,_,rfl⟩
  obtain⟨m,t,r,el⟩:=this;refine⟨.int m t::fs,.cons e c d (by rw[←W9,el];rfl) k1,by rw[WT,WT,k2],λf hf=>?_⟩;rcases WV.mp hf with rfl|hf
  ·exact⟨m,t,rfl⟩
  ·exact k3 f hf
noncomputable def PM:WM->W7
 | .ref a=>a
 |_=>0
theorem zL {O:acJ}{bs:List W7}{Q:VK}(kf:W7->O.α)(knd:aaZ)(I:az X pins σ H s)(hz:bs.length<=1000000)(hu:X.A.units+64<YV)(kk:∀(A:XD) (E:WM->WY->Prop) (jq:List W7) (s6:WY) (Q6:aaZ->WY->Prop),jq.Perm bs->2<=jq.length->(∀b o,s.heap.get? b=some o->s6.heap.get? b=some o)->Q6 knd s6->W4 (Xg X.prog X.w) A (keyKind' (jq.map Value.ref).toArray) Q6 E s6)(kc:2<=bs.length->∀(A:XD) (E:WM->WY->Prop) (s6:WY),A.units<YV->(∀b o,s.heap.get? b=some o->s6.heap.get? b=some o)->k7 (Xg X.prog X.w) A E s6 O (λx=>kf (PM x.1)) knd (λx=>∃b∈bs,x.1=.ref b))(QC:∀(Q:List WM->WY->Prop) (E:WM->WY->Prop),(∀h1 tk (jq:List W7),jq.Perm bs->(∀b o,s.heap.get? b=some o->h1.get? b=some o)->Q (jq.map Value.ref) {s with heap:=h1,toks:=tk})->W4 (Xg X.prog X.w) X.A.in1 (collect (.ref p)) Q E s)(q:∀(l:W7) (jx:List W7),H l=none->jx.Perm bs->jx.Pairwise (λx y=>O.blt (kf y) (kf x)=false)->Q (.ref l) (bV H l (.lst (jx.map V.ref)))) :
  W4 (Xg X.prog X.w) X.A (call (.builtin "sorted") [.ref p]) (EP X pins σ Q) X.xe s:=by
 refine ack kind_sorted plain_sorted entry_sorted (args_sorted1 _) ?_;unfold Builtin.«sorted»;refine Wy (m:=checkCount "sorted" 1 1 _) (WB ?_);refine Wy (QC _ _ λh1 tk jq De k1=>?_);have hz:jq.length<=1000000:=by rw[De.length_eq];exact hz
 have GY:jq.length<=WJ:=by rw[YI];lia
 have I1:az X pins σ H {s with heap:=h1,toks:=tk}:=I.kept (t':=tk) k1;refine Wy (wpAny_newList ?_ (by rw[WA];exact GY));have Nw:(h1.push {cls:=.type "list",data:=.seq (jq.map Value.ref).toArray}).get? h1.objs.size=some (ace "list" (jq.map Value.ref).toArray 0):=WQ _ rfl;have kt:∀(h6:ZG),(∀b o,b≠h1.objs.size->(h1.push {cls:=.type "list",data:=.seq (jq.map Value.ref).toArray}).get? b=some o->h6.get? b=some o)->∀b o,s.heap.get? b=some o->h6.get? b=some o:=λh6 k6 b o e=>
  k6 b o (Xj (WX (k1 b o e))) (WC _ (k1 b o e))
 refine Wy (Yl (Xr slot_list_sort ⟨_,Nw,rfl⟩ entry_list_sort (FT (s:={s with heap:=h1.push {cls:=.type "list",data:=.seq (jq.map Value.ref).toArray},toks:=tk}) (O:=O) (key:=λx=>kf (PM x.1)) (knd:=knd) (D:=λx=>∃b∈bs,x.1=.ref b) Nw (by rw[WA];exact hz)
  (λh2 h6 Q6 k6 q6=>kk _ _ jq _ _ De (by rw[WA] at h2;exact h2) (kt h6 k6) q6) (λh2 h6 k6=>kc (by rw[WA] at h2;rw[←De.length_eq];exact h2) _ _ _ (by show X.A.units+1+1<YV;lia) (kt h6 k6)) (λv hv=>by
   obtain⟨b,hb,rfl⟩:=WS.mp hv;exact⟨b,De.mem_iff.mp hb,rfl⟩) λout hp hw=>⟨_,rfl,?_⟩) (args_list_sort _)))
 obtain⟨jx,e,GQ⟩:=tY hp;subst e;obtain⟨ee,he⟩:=sortedHeap_at (out:=(jx.map Value.ref).toArray) Nw;have keep:∀b o,h1.get? b=some o->(sortedHeap (h1.push {cls:=.type "list",data:=.seq (jq.map Value.ref).toArray}) h1.objs.size (jq.map Value.ref) (jx.map Value.ref).toArray).get? b=some o:=λb o e=>by
  have hb:=WX e;rw[sortedHeap_old (Xj hb) (by rw[YW];exact aaj hb)];exact WC _ e
 have Dd:(jx.map V.ref).length<=WJ:=by rw[WA,GQ.length_eq];exact GY
 refine WB ⟨_,rfl,.ref h1.objs.size,_,I1.laid (t':=tk) keep (WR _) (show bu X.prog X.w _ _ _ (.lst _) from ⟨Dd,jx.map Value.ref,ee,tX jx,by simpa using he⟩),rfl,q _ jx (I1.hok.fresh (WR _)) (GQ.trans De) ?_⟩;exact Zb.mp hw
theorem oG {bs:List W7}{Q:VK}(I:az X pins σ H s)(hz:bs.length<=1000000)(hu:X.A.units+64<YV)(tu:∀b∈bs,∃ns:List Int,H b=some (.tup (ns.map V.int))/\ns≠[])(QC:∀(Q:List WM->WY->Prop) (E:WM->WY->Prop),(∀h1 tk (jq:List W7),jq.Perm bs->(∀b o,s.heap.get? b=some o->h1.get? b=some o)->Q (jq.map Value.ref) {s with heap:=h1,toks:=tk})->W4 (Xg X.prog X.w) X.A.in1 (collect (.ref p)) Q E s)(q:∀(l:W7) (jx:List W7),H l=none->jx.Perm bs->jx.Pairwise (λx y=>fV (cz H y) (cz H x)=false)->Q (.ref l) (bV H l (.lst (jx.map V.ref)))) :
  W4 (Xg X.prog X.w) X.A (call (.builtin "sorted") [.ref p]) (EP X pins σ Q) X.xe s:=by
 have tI:∀b∈bs,xp s.heap (.ref b)/\vd s.heap (.ref b)=cz H b:=λb hb=>by
  obtain⟨ns,e,ne⟩:=tu b hb;exact IG I e ne
 have kt:∀(h6:ZG),(∀b o,s.heap.get? b=some o->h6.get? b=some o)->∀b ao,s.heap.IsTuple b ao->h6.IsTuple b ao:=λh6 k6 b ao ⟨o,e,z⟩=>⟨o,k6 b o e,z⟩;refine zL (O:=IE) (cz H) (tuples' true) I hz hu (λA E jq s6 Q6 De h2 k6 q6=>?_) (λ_ A E s6 hA k6=>?_) QC q
 ·obtain⟨fs,f1,f2,f3⟩:=Br (h:=s6.heap) (vs:=jq.map Value.ref) λv hv=>by
   obtain⟨b,hb,rfl⟩:=WS.mp hv;exact (tZ (tI b (De.mem_iff.mp hb)).1 (kt _ k6)).1
  exact PySem.W.kat_kind (T:=.type "int") f1 (by rw[f2,WA];lia) (λv hv=>by
   obtain⟨n,t,rfl⟩:=f3 v hv;exact PySem.W.Looks.of_pure rfl) (by decide) q6
 ·have c:=IF (prog:=X.prog) (w:=X.w) (A:=A) (E:=E) (s:=s6) (hp:=s.heap) λv hv=>tZ hv (kt _ k6);refine⟨λx y st Q dx dy kd qq=>?_⟩;obtain⟨b,hb,e1⟩:=dx;obtain⟨d,hd,e2⟩:=dy;refine c.lt x y st Q (by rw[e1];exact (tI b hb).1) (by rw[e2];exact (tI d hd).1) kd ?_;rw[e1,e2,(tI b hb).2,(tI d hd).2];rw[e1,e2] at qq;exact qq
theorem vi (hc:X.calm=true)(hu:X.A.units+64<YV):dE X (.builtin "sorted") (λxs H Q=>∃(p:W7) (bs:List W7),xs=[.ref p]/\MO X.K H p bs/\bs.length<=1000000/\(∀b∈bs,∃ns:List Int,H b=some (.tup (ns.map V.int))/\ns≠[])/\
  ∀(l:W7) (jx:List W7),H l=none->jx.Perm bs->jx.Pairwise (λx y=>fV (cz H y) (cz H x)=false)->Q (.ref l) (bV H l (.lst (jx.map V.ref)))):=by
 intro pins s σ H xs us Q I r h;obtain⟨p,bs,rfl,Qq,hz,tu,q⟩:=h;obtain⟨u,rfl,rx⟩:=iM r;cases rx;have GY:bs.length<=WJ:=by rw[YI];lia
 have QC:∀(Q:List WM->WY->Prop) (E:WM->WY->Prop),(∀h1 tk (jq:List W7),jq.Perm bs->(∀b o,s.heap.get? b=some o->h1.get? b=some o)->Q (jq.map Value.ref) {s with heap:=h1,toks:=tk})->W4 (Xg X.prog X.w) X.A.in1 (collect (.ref p)) Q E s:=by
  intro Q E hq;rcases Qq with hs|hs|⟨ep,es,hs,rfl⟩
  ·obtain⟨ao,rv,pl,_⟩:=I.list hs;obtain⟨o,e,c,n,d⟩:=pl.isList;have e2:=kg rv;subst e2;exact acB p (.inl rfl) e c d (λh1 k1=>by simpa using hq h1 s.toks bs (Yo _) k1) (by rw[WK,WA];exact GY)
  ·obtain⟨ao,rv,pl,_⟩:=I.tuple hs;obtain⟨o,e,c,n,d⟩:=pl;have e2:=kg rv;subst e2;exact acB p (.inr rfl) e c d (λh1 k1=>by simpa using hq h1 s.toks bs (Yo _) k1) (by rw[WK,WA];exact GY)
  ·obtain⟨lo,ds,rd,n,at_⟩:=I.rawD hs;refine oF (A:=X.A.in1) (Sh lo) (I.ok.hd hc) rd (by rw[n];rw[WA] at GY;exact GY) λh1 tk bz k1 ia=>?_;have e:bz.toList=(es.map (·.2.1)).map Value.ref:=by
    apply aak;intro i;rw[W9,Xb,W3];by_cases hi:i<bz.size
    ·rw[getElem?_pos bz i hi];obtain⟨en,e1,e2⟩:=ia.2 i _ (getElem?_pos bz i hi);have yx:i<ds.size:=by rw[←ia.1];exact hi
     rw[getElem?_pos ds i yx] at e1;cases e1;obtain⟨x,m,ek,_⟩:=at_ i yx;rw[m,e2,ek];rfl
    ·rw[getElem?_neg bz i hi,abz (by rw[←n,←ia.1];lia)];rfl
   rw[e];exact hq h1 tk _ (Yo _) k1
 exact oG I hz hu tu QC q
end L2
namespace L2
open Hc.Dw Hc.Ts
noncomputable def ar (ns:List Int):U:=.tup (ns.map .int)
noncomputable def IH:U->Option (List Int)
 | .tup xs=>match iu xs with
  |some (n::ns)=>some (n::ns)
  |_=>none
 |_=>none
noncomputable def oH:List U->Option (List (List Int))
 | []=>some []
 |u::us=>match IH u,oH us with
  |some ns,some lG=>some (ns::lG)
  |_,_=>none
noncomputable def CT (x:List Int):List (List Int)->List (List Int)
 | []=>[x]
 |y::r=>if fV y x=true then y::CT x r else x::y::r
noncomputable def eo (l:List (List Int)):List (List Int):=l.foldr CT []
theorem nA (x:List Int):∀l,(CT x l).Perm (x::l)
 | []=>.refl _
 |y::r=>by
  unfold CT;split
  ·exact ((nA x r).cons y).trans (.swap x y r)
  ·exact .refl _
theorem a_:∀l,(eo l).Perm l
 | []=>.refl _
 |x::l=>(nA x _).trans ((a_ l).cons x)
def PN (l:List (List Int)):Prop:=l.Pairwise λx y=>fV y x=false
theorem Bs (x:List Int):∀{l},PN l->PN (CT x l)
 | [],_=>XX _ _
 |y::r,h=>by
  obtain⟨h1,h2⟩:=YK.mp h;unfold CT;split
  ·rename_i c;refine YK.mpr ⟨λz hz=>?_,Bs x h2⟩;rcases WV.mp ((nA x r).mem_iff.mp hz) with rfl|hz
   ·exact KeyOrd.klt_asymm (O:=IE) c
   ·exact h1 z hz
  ·rename_i c;have c:fV y x=false:=by simpa using c
   refine YK.mpr ⟨λz hz=>?_,h⟩;rcases WV.mp hz with rfl|hz
   ·exact c
   ·exact Xw (O:=IE) (a:=x) (b:=y) (c:=z) c (h1 z hz)
theorem jR:∀l,PN (eo l)
 | []=>List.Pairwise.nil
 |x::l=>Bs x (jR l)
theorem pU:∀{l m:List (List Int)},l.Perm m->PN l->PN m->l=m
 | [],m,p,_,_=>(List.nil_perm.mp p).symm
 |x::l,[],p,_,_=>absurd p.length_eq (by simp)
 |x::l,y::m,p,h1,h2=>by
  obtain⟨a1,a2⟩:=YK.mp h1;obtain⟨b1,b2⟩:=YK.mp h2;have e:x=y:=by
   have hx:x∈y::m:=p.mem_iff.mp WG;have hy:y∈x::l:=p.mem_iff.mpr WG;rcases WV.mp hx with rfl|hx
   ·rfl
   ·rcases WV.mp hy with rfl|hy
    ·rfl
    ·exact lh x y (b1 x hx) (a1 y hy)
  subst e;rw[pU (p.cons_inv) a2 b2]
theorem II (h:IH u=some ns):u=ar ns/\ns≠[]:=by
 unfold IH at h;split at h
 ·split at h
  ·rename_i xs n r e;cases h;rw[l_ e];exact⟨rfl,by simp⟩
  ·cases h
 ·cases h
theorem jS:∀{us:List U} {lG:List (List Int)},oH us=some lG->us=lG.map ar/\∀ns∈lG,ns≠[]
 | [],_,h=>by cases h;exact⟨rfl,λns hn=>by cases hn⟩
 |u::us,lG,h=>by
  unfold oH at h;split at h
  ·rename_i ns r e1 e2;cases h;obtain⟨e3,n3⟩:=II e1;obtain⟨e4,n4⟩:=jS e2;refine⟨by rw[WD,←e3,←e4],λz hz=>?_⟩;rcases WV.mp hz with rfl|hz
   ·exact n3
   ·exact n4 z hz
  ·cases h
theorem MP (h:Rp K H A (ar ns) v):∃b,v=.ref b/\H b=some (.tup (ns.map V.int))/\ns.length<=WJ:=by
 unfold ar Rp at h;obtain⟨b,ys,e,q,l,r⟩:=h;rw[r.toI] at q;exact⟨b,e,q,by simpa using l⟩
theorem MQ (q:H b=some (.tup (ns.map V.int)))(l:ns.length<=WJ):Rp K H A (ar ns) (.ref b):=by
 unfold ar Rp;exact⟨b,_,rfl,q,by simpa using l,ma ns⟩
theorem vj (q:H b=some (.tup (ns.map V.int))):cz H b=ns:=by unfold cz;rw[q];exact xv ns
theorem jT:∀{lG:List (List Int)} {xs:List V},aC K H A (lG.map ar) xs->∃bs:List W7,xs=bs.map V.ref/\bs.map (cz H)=lG/\∀b∈bs,H b=some (.tup ((cz H b).map V.int))/\(cz H b).length<=WJ
 | [],xs,h=>by rw[X0] at h;unfold aC at h;subst h;exact⟨[],rfl,rfl,λb hb=>by cases hb⟩
 |ns::lG,xs,h=>by
  rw[WD] at h;unfold aC at h;obtain⟨x,r,rfl,h1,h2⟩:=h;obtain⟨b,rfl,q,l⟩:=MP h1;obtain⟨bs,rfl,e,z⟩:=jT h2;refine⟨b::bs,rfl,by rw[WD,e,vj q],λc hc=>?_⟩;rcases WV.mp hc with rfl|hc
  ·rw[vj q];exact⟨q,l⟩
  ·exact z c hc
theorem xw {bs:List W7}(h:∀b∈bs,H b=some (.tup ((cz H b).map V.int))/\(cz H b).length<=WJ):aC K H A ((bs.map (cz H)).map ar) (bs.map V.ref):=by
 induction bs with
 |nil=>exact aC.nil
 |cons b bs ih=>exact aC.cons (MQ (h b WG).1 (h b WG).2) (ih λc hc=>h c (WI _ hc))
noncomputable def iI (us:List U):R U:=match oH us with
 |some lG=>if lG.length<=1000000 then .ok (.lst ((eo lG).map ar)) else .stk
 |none=>.stk
noncomputable def rq:List U->R U:=λus=>match us with
 | [.lst xs]=>iI xs
 | [.tup xs]=>iI xs
 | [.dct ks _]=>if zC ks=true then iI ks else .stk
 |_=>.stk
def vn (K:WH):List V->Hp->VK->Prop:=λxs H Q=>∃(p:W7) (bs:List W7),xs=[.ref p]/\MO K H p bs/\bs.length<=1000000/\(∀b∈bs,∃ns:List Int,H b=some (.tup (ns.map V.int))/\ns≠[])/\
  ∀(l:W7) (jx:List W7),H l=none->jx.Perm bs->jx.Pairwise (λx y=>fV (cz H y) (cz H x)=false)->Q (.ref l) (bV H l (.lst (jx.map V.ref)))
theorem CU:kX K (vn K) .O rq:=λA H vs us z Q h mu e q=>by
 have fin:∀(xs:List U) (p:W7) (bs:List W7),iI xs=.ok z->aC K H A xs (bs.map V.ref)->MO K H p bs->vn K [.ref p] H Q:=by
  intro xs p bs e r Qq;unfold iI at e;split at e
  ·rename_i lG e1;split at e
   ·rename_i hz;cases e;obtain⟨e2,ne⟩:=jS e1;subst e2;obtain⟨jq,e3,e4,e5⟩:=jT r;have e6:bs=jq:=by
     have:Function.Injective V.ref:=λa b h=>by cases h;rfl
     exact (List.map_inj_right λ_ _ h=>by cases h;rfl).mp e3
    subst e6;have n1:bs.length=lG.length:=by rw[←e4,WA]
    refine⟨p,bs,rfl,Qq,by lia,λb hb=>⟨_,(e5 b hb).1,ne _ (by rw[←e4];exact Xh hb)⟩,λl jx hn hp hw=>?_⟩;have e7:jx.map (cz H)=eo lG:=pU ((hp.map (cz H)).trans (by rw[e4];exact (a_ lG).symm)) (Zb.mpr hw) (jR lG);refine q _ _ (bQ hn _) ⟨l,rfl,hn,?_⟩;rw[←e7];refine bI mu (xw λb hb=>e5 b (hp.mem_iff.mp hb)) hn ?_;have:WJ=16777216:=rfl;rw[WA,WA,hp.length_eq];lia
   ·cases e
  ·cases e
 unfold rq at e;split at e
 ·obtain⟨v,rfl,p⟩:=h.one;unfold Pk at p;obtain⟨a,ys,rfl,h1,l1,r1⟩:=p;have e':=e;unfold iI at e';split at e'
  ·rename_i lG e1;have r2:=r1;rw[(jS e1).1] at r2;obtain⟨bs,rfl,_⟩:=jT r2;exact fin _ a bs e r1 (.inl (eF.of h1))
  ·cases e'
 ·obtain⟨v,rfl,p⟩:=h.one;unfold Pk at p;obtain⟨a,ys,rfl,h1,l1,r1⟩:=p;have e':=e;unfold iI at e';split at e'
  ·rename_i lG e1;have r2:=r1;rw[(jS e1).1] at r2;obtain⟨bs,rfl,_⟩:=jT r2;exact fin _ a bs e r1 (.inr (.inl (fQ.of h1)))
  ·cases e'
 ·rename_i ks ws;split at e
  ·rename_i c;obtain⟨v,rfl,p⟩:=h.one;unfold Pk at p;obtain⟨a,ys,rfl,h1,l1,r1⟩:=p;obtain⟨es,ep,q1,kt,e1,e2⟩:=FG c h1;refine fin ks a (es.map (·.2.1)) e ?_ (.inr (.inr ⟨ep,es,q1,rfl⟩));subst e1;clear e fin e2 r1 h1 c q1 h
   induction es with
   |nil=>exact aC.nil
   |cons x es ih=>exact aC.cons (Kp (kt x WG)) (ih λy hy=>kt y (WI _ hy))
  ·cases e
 ·cases e
def FU (K:WH):List V->Hp->VK->Prop:=λxs H Q=>∃(p:W7) (ns:List Int),xs=[.ref p]/\(eF K H p (ns.map V.int)\/fQ K H p (ns.map V.int))/\ns.length<64/\
  ∀(l:W7) (ur:List Int),H l=none->ur.Perm ns->ur.Pairwise (·<=·)->Q (.ref l) (bV H l (.lst (ur.map V.int)))
noncomputable def kO:List U->R U:=λus=>match yZ us with
 | .ok z=>.ok z
 |_=>rq us
theorem xx:kX K (λxs H Q=>FU K xs H Q\/vn K xs H Q) .O kO:=λA H vs us z Q h mu e q=>by
 unfold kO at e;split at e
 ·rename_i z' e1;cases e;exact .inl (Cq A H vs us _ Q h mu e1 q)
 ·exact .inr (CU A H vs us z Q h mu e q)
theorem t7 (hc:X.calm=true)(hu:X.A.units+64<YV):dE X (.builtin "sorted") (λxs H Q=>FU X.K xs H Q\/vn X.K xs H Q):=by
 intro pins s σ H xs us Q I r h;rcases h with h|h
 ·exact uG pins s σ H xs us Q I r h
 ·exact vi hc hu pins s σ H xs us Q I r h
end L2
namespace L2
open Hc.Dw Hc.Ts Hc.Sx Hc.Sy
noncomputable def ie (bz:List (List Int))(x:List Int):List (List Int):=if x∈bz then bz else bz++[x]
noncomputable def eP (l:List (List Int)):List (List Int):=l.foldl ie []
def CV (w:Z1)(l:W7)(bs:List W7)(h:ZG):Prop:=∃es ep t,kC w h l es ep t/\(es.toList.map (·.2)).Perm (bs.map Value.ref)
theorem FV {vs:List WM}(h:abc vs ns):ItemsAre (intKind prog w) ns vs:=by
 induction h with
 |nil=>exact .nil
 |cons n t _ ih=>exact .cons (intKind_is _ _ _ _) ih
section
variable {e:YO}{pos2 p1:Pos}{b1:Bool}{ga:Ev->R (List U×Ev)}
noncomputable def mE (H:Hp)(bs:List W7)(i:Nat):List Int×W7:=(cz H (bs.getD i 0),bs.getD i 0)
theorem t9 (H:Hp)(bs:List W7):∀n,n<=bs.length->(dH (mE H bs) n).map (·.1)=eP ((bs.take n).map (cz H))
 |0,_=>by simp[dH,eP]
 |n+1,h=>by
  have hn:n<bs.length:=by lia
  have ih:=t9 H bs n (by lia);have e1:bs.take (n+1)=bs.take n++[bs[n]]:=Xi hn;have e2:mE H bs n=(cz H bs[n],bs[n]):=by unfold mE;simp[abw,Wz hn]
  rw[e1,WW];unfold eP at ih ⊢;rw[abm,←ih];show (kN (dH (mE H bs) n) (mE H bs n).1 (mE H bs n).2).map (·.1)=ie ((dH (mE H bs) n).map (·.1)) (cz H bs[n]);rw[e2];unfold kN ie;dsimp only;by_cases c:cz H bs[n]∈(dH (mE H bs) n).map (·.1)
  ·rw[hZ c,hZ c]
  ·rw[hV c,hV c,WW];rfl
theorem xy (H:Hp)(bs:List W7):(dH (mE H bs) bs.length).map (·.1)=eP (bs.map (cz H)):=by
 rw[t9 H bs _ (WR _),X2]
def Kw (w:Z1)(K:WH):List V->Hp->VK->Prop:=λxs H Q=>∃(p:W7) (bs:List W7),xs=[.ref p]/\eF K H p (bs.map V.ref)/\(∀b∈bs,H b=some (.tup ((cz H b).map V.int)))/\(eP (bs.map (cz H))).length<2046/\
 ∀(l:W7) (jq:List W7),H l=none->jq.map (cz H)=eP (bs.map (cz H))->(∀b∈jq,b∈bs)->Q (.ref l) (bV H l (.ext (CV w l jq)))
theorem CW (hc:X.calm=true)(hu:X.A.units+64<YV):dE X (.type "set") (Kw X.w X.K):=by
 intro pins s σ H xs us Q I r h;obtain⟨p,bs,rfl,hs,tu,hb,q⟩:=h;obtain⟨u,rfl,rx⟩:=iM r;cases rx;obtain⟨ao,rv,pl,_⟩:=I.list hs;have e2:=kg rv;subst e2;have sz:(bs.map Value.ref).toArray.size=bs.length:=by simp
 refine wY (knd:=tI X.prog X.w) (val:=mE H bs) UU (λ{h h' k a} hk m=>?_) (show X.A.units+1+1+1<YV by lia) (I.ok.hd hc) pl.isList (λi v hv=>?_) (λj hj=>?_) ?_ λh' tk hS hk=>?_
 ·obtain⟨o,ao,n,e1,e2,e3,e4⟩:=hk;obtain⟨o',yp,Jp,n',e3'⟩:=m a ao ⟨o,e1,e2,n,e3⟩;exact⟨o',ao,n',yp,Jp,e3',e4⟩
 ·rw[←W9] at hv;rw[W3] at hv;unfold mE;cases z:bs[i]? with
  |none=>rw[z] at hv;cases hv
  |some b=>rw[z] at hv;simp only[abw,z,ZW];exact (Xa hv).symm
 ·have hj:j<bs.length:=by rw[sz] at hj;exact hj
  have em:bs.getD j 0=bs[j]:=by simp[abw,Wz hj]
  unfold mE;rw[em];obtain⟨_,ao,rv,it,_⟩:=I.hok _ _ (tu _ (Xp hj));obtain⟨o,h1,h2,n,h3⟩:=it;exact⟨o,_,n,h1,h2,h3,by simpa using FV (gz rv)⟩
 ·rw[sz];have:=congrArg List.length (xy H bs);rw[WA] at this;lia
 ·rw[sz] at hS;obtain⟨o,es,ep,t,C,g1,g2,g3,g4,g5⟩:=hS;have S6:kC X.w h' s.heap.objs.size es ep t:=⟨o,g1,g2,g3,g4.fits,g4.pl,g5,g4.tab.ris,g4.tab.sz⟩;have mem:∀x∈dH (mE H bs) bs.length,x.1=cz H x.2/\x.2∈bs:=λx hx=>by
   obtain⟨j,hj,rfl⟩:=j9 _ _ x hx;refine⟨rfl,?_⟩;have em:bs.getD j 0=bs[j]:=by simp[abw,Wz hj]
   show bs.getD j 0∈bs;rw[em];exact Xp hj
  refine⟨.ref s.heap.objs.size,_,I.laid (a:=s.heap.objs.size) (o:=.ext (CV X.w s.heap.objs.size ((dH (mE H bs) bs.length).map (·.2)))) (t':=tk) hk (WR _)
   ⟨⟨es,ep,t,S6,?_⟩,⟨o,g1⟩,λh1 h2 ⟨es,ep,t,r,z⟩ k=>⟨es,ep,t,r.at k,z⟩⟩,rfl,q _ _ (I.hok.fresh (WR _)) ?_ λb hb=>?_⟩
  ·refine (g4.per.map (·.2)).trans (List.Perm.of_eq ?_);rw[Xb,Xb];rfl
  ·rw[←xy H bs,Xb];exact Xl λx hx=>(mem x hx).1.symm
  ·obtain⟨x,hx,rfl⟩:=WS.mp hb;exact (mem x hx).2
def FW (w:Z1):List V->Hp->VK->Prop:=λxs H Q=>∃(p:W7) (bs:List W7),xs=[.ref p]/\H p=some (.ext (CV w p bs))/\bs.length<=1000000/\(∀b∈bs,∃ns:List Int,H b=some (.tup (ns.map V.int))/\ns≠[])/\
  ∀(l:W7) (jx:List W7),H l=none->jx.Perm bs->jx.Pairwise (λx y=>fV (cz H y) (cz H x)=false)->Q (.ref l) (bV H l (.lst (jx.map V.ref)))
theorem zM (hc:X.calm=true)(hu:X.A.units+64<YV):dE X (.builtin "sorted") (FW X.w):=by
 intro pins s σ H xs us Q I r h;obtain⟨p,bs,rfl,hs,hz,tu,q⟩:=h;obtain⟨u,rfl,rx⟩:=iM r;cases rx;obtain⟨⟨es,ep,t,S6,per⟩,_,_⟩:=I.hok p _ hs;refine oG I hz hu tu (λQ E hq=>?_) q;have n:es.size=bs.length:=by have:=per.length_eq;simpa using this
 refine oF (A:=X.A.in1) Si (I.ok.hd hc) S6 (by rw[n,YI];lia) λh1 tk bz k1 ia=>?_;have e:bz.toList=(sC X.w p ep es).toList.map (·.2):=by
  apply aak;intro i;rw[W9,W3,W9];by_cases hi:i<bz.size
  ·rw[getElem?_pos bz i hi];obtain⟨en,e1,e2⟩:=ia.2 i _ (getElem?_pos bz i hi);rw[e1,e2];rfl
  ·rw[getElem?_neg bz i hi,getElem?_neg _ i (by rw[xu,←ia.1];exact hi)];rfl
 obtain⟨jq,e3,e4⟩:=tY ((xt.map (·.2)).trans per);rw[e,e3];exact hq h1 tk jq e4 k1
noncomputable def iS:List U->R U:=λus=>match us with
 | [.lst xs]=>match oH xs with
  |some lG=>if (eP lG).length<2046 then .ok (.lst ((eo (eP lG)).map ar)) else .stk
  |none=>.stk
 |_=>.stk
theorem xA:∀(l bz:List (List Int)) (x:List Int),x∈l.foldl ie bz->x∈bz\/x∈l
 | [],bz,x,h=>.inl h
 |y::l,bz,x,h=>by
  rcases xA l _ x h with z|z
  ·unfold ie at z;split at z
   ·exact .inl z
   ·rcases W0.mp z with z|z
    ·exact .inl z
    ·exact .inr (by rw[WU.mp z];exact WG)
  ·exact .inr (WI _ z)
theorem xB:kX K (λvs H Q=>Kw w K vs H λx H2=>FW w [x] H2 Q) .O iS:=λA H vs us z Q h mu e q=>by
 unfold iS at e;split at e
 ·rename_i xs;split at e
  ·rename_i lG e1;split at e
   ·rename_i hl;cases e;obtain⟨v,rfl,p⟩:=h.one;unfold Pk at p;obtain⟨a,ys,rfl,h1,l1,r1⟩:=p;obtain⟨e2,ne⟩:=jS e1;subst e2;obtain⟨bs,rfl,e4,e5⟩:=jT r1;refine⟨a,bs,rfl,eF.of h1,λb hb=>(e5 b hb).1,by rw[e4];exact hl,λl jq hn k2 sub=>?_⟩;have sm:=bQ hn (.ext (CV w l jq));have kb:∀b∈bs,cz (bV H l (.ext (CV w l jq))) b=cz H b:=λb hb=>by
     rw[vj (sm _ _ (e5 b hb).1)]
    have ln:jq.length=(eP lG).length:=by rw[←e4,←k2,WA]
    refine⟨l,jq,rfl,ba,by lia,λb hb=>⟨_,sm _ _ (e5 b (sub b hb)).1,?_⟩,λl' jx NT hp hw=>?_⟩
    ·have:cz H b∈eP (bs.map (cz H)):=by rw[←k2];exact Xh hb
     rcases xA _ _ _ this with z|z
     ·cases z
     ·rw[e4] at z;exact ne _ z
    ·have Vx:(jx.map (cz H)).Pairwise λx y=>fV y x=false:=by
      refine Zb.mpr (ZM (λ{x y} hx hy z=>?_) hw);rw[kb x (sub x (hp.mem_iff.mp hx)),kb y (sub y (hp.mem_iff.mp hy))] at z;exact z
     have e7:jx.map (cz H)=eo (eP lG):=pU ((hp.map (cz H)).trans (by rw[k2,e4];exact (a_ _).symm)) Vx (jR _);have Rg:=sm.trans (bQ NT (.lst (jx.map V.ref)));have na:H l'=none:=by
      cases z:H l' with
      |none=>rfl
      |some o=>rw[sm _ _ z] at NT;cases NT
     refine q _ _ Rg ⟨l',rfl,na,?_⟩;rw[←e7];refine bI (λb hb=>?_) ?_ NT ?_
     ·have m:=mu b hb;obtain⟨o,z⟩:=m.ex;rw[sm b o z,←z];exact m
     ·have k3:jx.map (cz H)=jx.map (cz (bV H l (.ext (CV w l jq)))):=Xl λb hb=>(kb b (sub b (hp.mem_iff.mp hb))).symm;rw[k3];refine xw λb hb=>?_;have pZ:=sub b (hp.mem_iff.mp hb);rw[kb b pZ];exact⟨sm _ _ (e5 b pZ).1,(e5 b pZ).2⟩
     ·have:WJ=16777216:=rfl;rw[WA,WA,hp.length_eq];lia
   ·cases e
  ·cases e
 ·cases e
theorem zN (hc:X.calm=true)(hu:X.A.units+64<YV)(ha:DA X G [e] b1 true ga)(hm:X.mg "sorted"=none)(Vy:X.mg "set"=none)(hg:Gl X "sorted":=by rfl)(Qs:Gl X "set":=by rfl)
  (he:W5 [e] X.env=(false,Z4 e X.env)::W5 [] X.env:=by rfl) (oR:(Zl pos2 (W5 [] X.env)).any (·.1)=false:=by rfl)
  (Uv:W5 [.Call (.Name "set" p2) [e] [] pos2] X.env=(false,Z4 (.Call (.Name "set" p2) [e] [] pos2) X.env)::W5 [] X.env:=by rfl) (GF:(Zl pos (W5 [] X.env)).any (·.1)=false:=by rfl) :
  DE X G (.Call (.Name "sorted" p1) [.Call (.Name "set" p2) [e] [] pos2] [] pos) b1 .O (i0 iS ga):=⟨(lT (zM hc hu) hg hm mZ (eI (gj (CW hc hu) Qs Vy Mm ha.un (by decide) (by decide) he oR) jA Uv) (by decide) (by decide) Uv GF).to λ_ _ _ h=>uK (p:=true) (xB (K:=X.K)) h⟩
end
end L2
namespace L2
open Hc.Dw Hc.Ts
section
variable {e:YO}{tl:TE}{cI cpos p1:Pos}{b1:Bool}{m1:Md}{g1:Ev->R (U×Ev)}
noncomputable def rA (ns:List Int):Bool:=decide (ns.length<=1000000)&&ns.all λn=>decide (0<=n/\n<=1000000000)
theorem jU (ns:List Int):∀j,j<=ns.length->preSum (λi=>ns.getD i 0) j=(ns.take j).sum
 |0,_=>rfl
 |j+1,h=>by
  unfold preSum;rw[jU ns j (by lia),Xi (show j<ns.length by lia),List.sum_append];simp[abw,Wz (show j<ns.length by lia)]
theorem t_:∀{ns:List Int},(ns.all λn=>decide (0<=n/\n<=1000000000))=true->0<=ns.sum/\ns.sum<=ns.length*1000000000
 | [],_=>by simp
 |n::ns,h=>by
  rw[Zr,W6] at h;obtain⟨a,b⟩:=t_ h.2;have:=of_decide_eq_true h.1;rw[XH,WT];constructor
  ·lia
  ·push_cast;lia
end
end L2
namespace L2
open Hc.Dw Hc.Ts
noncomputable def xC:WM->Int×Tok
 | .int n t=>(n,t)
 |_=>(0,0)
theorem CY (h:abc ao ns):intItems (ao.map xC).toArray=ao.toArray/\∀i,numAt (ao.map xC).toArray i=ns.getD i 0:=by
 constructor
 ·unfold intItems;rw[List.map_toArray,Xb];congr 1
  induction h with
  |nil=>rfl
  |cons n t _ ih=>rw[WD,ih];rfl
 ·induction h with
  |nil=>intro i;unfold numAt;simp
  |cons n t _ ih=>
   intro i;cases i with
   |zero=>unfold numAt;simp[xC]
   |succ i=>
    have:=ih i;unfold numAt at this ⊢;simpa [abw] using this
def Kx (K:WH):List V->Hp->VK->Prop:=λxs H Q=>∃p ns,xs=[.ref p]/\eF K H p (ns.map V.int)/\rA ns=true/\Q (.int ns.sum) H
theorem CZ (hc:X.calm=true):dE X (.builtin "sum") (Kx X.K):=by
 intro pins s σ H xs us Q I r h;obtain⟨p,ns,rfl,hs,sm,q⟩:=h;obtain⟨u,rfl,rx⟩:=iM r;cases rx;obtain⟨ao,rv,pl,_⟩:=I.list hs;have hI:=gz rv;obtain⟨t1,t2⟩:=CY hI;have sz:(ao.map xC).toArray.size=ns.length:=by simp[hI.length]
 unfold rA at sm;rw[W6] at sm;have s1:=of_decide_eq_true sm.1;have fe:numAt (ao.map xC).toArray=λi=>ns.getD i 0:=funext t2;refine sum_intList (xs:=(ao.map xC).toArray) (I.ok.hd hc) (by rw[t1];exact pl.isList) (λj hj=>?_) λh' tk t' k=>?_
 ·rw[sz] at hj;have al:=sm.2;rw[fe];refine⟨?_,?_⟩
  ·have:=XR.mp al ns[j] (Xp hj);have:=of_decide_eq_true this;unfold InLong;simp only[abw,Wz hj,ZW];lia
  ·rw[jU ns (j+1) (by lia)];have Rh:((ns.take (j+1)).all λn=>decide (0<=n/\n<=1000000000))=true:=XR.mpr λx hx=>XR.mp al x (Yi hx);obtain⟨p1,p2⟩:=t_ Rh;have:(ns.take (j+1)).length<=1000000:=by rw[Xc];lia
   unfold InLong;lia
 ·have e:preSum (numAt (ao.map xC).toArray) (ao.map xC).toArray.size=ns.sum:=by rw[fe,sz,jU ns ns.length (WR _),X2]
  rw[e];exact⟨.int ns.sum,H,I.kept (t':=tk) k,⟨t',rfl⟩,q⟩
noncomputable def uc:List U->R U:=λus=>match us with
 | [.lst xs]=>match iu xs with
  |some ns=>if rA ns=true then .ok (.int ns.sum) else .stk
  |none=>.stk
 |_=>.stk
theorem FX:kX K (Kx K) .S uc:=λA H vs us z Q h mu e q=>by
 unfold uc at e;split at e
 ·rename_i xs;split at e
  ·rename_i ns hb;split at e
   ·rename_i hl;cases e;obtain⟨v,rfl,p⟩:=h.one;unfold Pk at p;obtain⟨a,ys,rfl,h1,l1,r1⟩:=p;rw[l_ hb] at r1;rw[r1.toI] at h1;exact⟨a,ns,rfl,eF.of h1,hl,q _ H (aG.refl _) (show Rp K H A _ _ from dY)⟩
   ·cases e
  ·cases e
 ·cases e
end L2
namespace L2
open Hc.Dw Hc.Ts
theorem ud {α β:Type}{f:α->β}:∀{l:List α},(l.map f).Nodup->∀a∈l,∀b∈l,f a=f b->a=b
 | [],_,a,ha,_,_,_=>by cases ha
 |x::l,h,a,ha,b,hb,e=>by
  rw[WD] at h;obtain⟨h1,h2⟩:=X3.mp h;rcases WV.mp ha with ea|Ac
  ·rcases WV.mp hb with eb|pZ
   ·rw[ea,eb]
   ·exact absurd (by rw[←ea,e];exact Xh pZ) h1
  ·rcases WV.mp hb with eb|pZ
   ·exact absurd (by rw[←eb,←e];exact Xh Ac) h1
   ·exact ud h2 a Ac b pZ e
end L2
namespace L2
open Hc.Dw Hc.Ts
noncomputable def MR:U->U->R Bool
 | .int a,.int b=>.ok (a==b)
 | .bl a,.bl b=>.ok (a==b)
 | .str a,.str b=>.ok (a==b)
 |_,_=>.stk
noncomputable def kD (f:Bool->Bool):U->U->R U:=λu w=>(MR u w).bind λb=>.ok (.bl (f b))
theorem kh:g_ K Ti .S (kD id):=λA H x y u w z Q hx hy mu e q=>by
 unfold kD at e;obtain⟨b,e1,e2⟩:=R.bind_ok e;unfold MR at e1;split at e1
 ·cases e1;cases e2;rw[hx.int,hy.int];refine⟨rfl,?_⟩;rw[pG];exact q _ H (aG.refl _) (show Rp K H A _ _ from jo)
 ·cases e1;cases e2;rw[hx.bl,hy.bl];refine⟨rfl,?_⟩;rw[uy];exact q _ H (aG.refl _) (show Rp K H A _ _ from jo)
 ·cases e1;cases e2;rw[hx.str,hy.str];refine⟨rfl,?_⟩;rw[pH];exact q _ H (aG.refl _) (show Rp K H A _ _ from jo)
 ·cases e1
theorem pV:g_ K Tj .S (kD not):=λA H x y u w z Q hx hy mu e q=>by
 unfold kD at e;obtain⟨b,e1,e2⟩:=R.bind_ok e;unfold MR at e1;split at e1
 ·cases e1;cases e2;rw[hx.int,hy.int];refine⟨rfl,?_⟩;rw[pG];exact q _ H (aG.refl _) (show Rp K H A _ _ from jo)
 ·cases e1;cases e2;rw[hx.bl,hy.bl];refine⟨rfl,?_⟩;rw[uy];exact q _ H (aG.refl _) (show Rp K H A _ _ from jo)
 ·cases e1;cases e2;rw[hx.str,hy.str];refine⟨rfl,?_⟩;rw[pH];exact q _ H (aG.refl _) (show Rp K H A _ _ from jo)
 ·cases e1
end L2
namespace L2
section
variable {A:XD}{k:List U}{xs:List (List U×W7×WM)}{r:WM}
theorem PQ (hr:(bF prog w).room A)(hk:(bF prog w).is s.heap k b)(hd:s.heap.DictOfH (bF prog w) a xs)(hz:xs.length<=WJ)
  (h1:∀p,ab1 xs k=some p->Q p.2 {s with toks:=s.toks+Dh (.tup k)})
  (h2:ab1 xs k=none->∀h',h'.DictOfH (bF prog w) a (storedH xs k b r)->Yg a s.heap h'->Q r {s with heap:=h',toks:=s.toks+Dh (.tup k)}) :
  W4 (Xg prog w) A (dictSetDefault a (.ref b) r) Q E s:=by
 obtain⟨o,es,ep,ho,he,hdat,hl,hi,hn⟩:=hd;unfold dictSetDefault;refine Yl (Wy ((bF prog w).pyHash hr hk (Wy (wpAny_dictFind_heap hr hk ho hdat hl hi hn (λSv=>?_) (λj p hj=>?_)))))
 ·have nk:∀x∈xs,x.1≠k:=λx hx hc=>by
   obtain⟨j,hj⟩:=List.getElem?_of_mem hx;obtain⟨x1,x2⟩:=x;dsimp only at hc;subst hc;exact Sv j x2 hj
  have e0:ab1 xs k=none:=by
   unfold ab1;rw[aa9,aaX];intro x hx hc;exact nk x hx (of_decide_eq_true hc)
  refine Wy (Y_ (Wy (wpAny_updateDictKeys ho hdat (WB ?_) (by rw[size_of_entries hl];exact hz) (by simp))));have hs:=XZ s.heap a (Obj.mapDictKeys λx=>x.push {hash:=(bF prog w).hash k,key:=.ref b,val:=r});have hg:=YE (h:=s.heap) (Obj.mapDictKeys λx=>x.push {hash:=(bF prog w).hash k,key:=.ref b,val:=r}) ho (by
   obtain⟨c,d,dt,sl⟩:=o;cases hdat;obtain⟨h1,_⟩:=he;cases h1;rfl)
  have S7:storedH xs k b r=xs++[(k,b,r)]:=by unfold storedH;rw[e0];rfl
  refine h2 e0 _ ⟨_,es.push {hash:=(bF prog w).hash k,key:=.ref b,val:=r},ep+1,hg,?_,?_,?_,?_,?_⟩ hs
  ·obtain⟨c,d,dt,sl⟩:=o;cases hdat;exact he
  ·obtain⟨c,d,dt,sl⟩:=o;cases hdat;rfl
  ·rw[S7,Ze,hl,WW];rfl
  ·rw[S7];intro x hx;rcases W0.mp hx with hx|hx
   ·exact (bF prog w).keeps (hi x hx) ho hdat hs
   ·rw[WU] at hx;subst hx;exact (bF prog w).keeps hk ho hdat hs
  ·rw[S7,WW,Ye];refine⟨hn,XX _ _,λx hx y hy=>?_⟩;rw[WD,X0,WU] at hy;subst hy;obtain⟨z,hz,rfl⟩:=WS.mp hx;exact nk z hz
 ·have e1:ab1 xs k=some p:=by
   unfold ab1;have hm:(k,p)∈xs:=Yh hj;cases hf:xs.find? (λx=>decide (x.1=k)) with
   |none=>
    rw[aaX] at hf;exact absurd (hG rfl) (hf _ hm)
   |some y=>
    have y0:=List.find?_some hf;have y1:y.1=k:=of_decide_eq_true y0;have y2:=List.mem_of_find?_eq_some hf;rw[←ud hn _ hm _ y2 y1.symm];rfl
  refine Wy (Zd ho hdat ?_);rw[entry_at hl,hj];exact Wy (Y_ (WB (h1 p e1)))
theorem vo (lo:(a==Ys)=false):MeetsIn prog w (Builtin.«dict.setdefault» ⟨[.ref a,.ref b,r],[]⟩) λA R s=>(bF prog w).room A.in1/\∃k xs,(bF prog w).is s.heap k b/\s.heap.DictOfH (bF prog w) a xs/\xs.length<=WJ/\
  (∀p,ab1 xs k=some p->R (.ok (.ret p.2)) {s with toks:=s.toks+Dh (.tup k)})/\
  (ab1 xs k=none->∀h',h'.DictOfH (bF prog w) a (storedH xs k b r)->Yg a s.heap h'->R (.ok (.ret r)) {s with heap:=h',toks:=s.toks+Dh (.tup k)}):=by
 rintro A R s ⟨hr,k,xs,hk,hd,hz,h1,h2⟩;unfold Builtin.«dict.setdefault»;refine Wy ?_;unfold Builtin.Dict.keyAndDefault;refine Wy (aad hd.typeIs (WB ?_));dsimp only;rw[hV (by rw[lo];exact WE)];exact Wy (PQ hr hk hd hz (λp e=>WB (h1 p e)) λe h' d' hs=>WB (h2 e h' d' hs))
end
end L2
namespace L2
section
variable {d:V}{r:WM}{k:List U}{A:XD}
theorem C0 (k:List U){xs:List (List U×W7×WM)}(p:ab6 LL es xs):eK es k=none↔ab1 xs k=none:=by
 have:=(iO k p).isSome_eq;rw[acy] at this;cases h1:eK es k<;>cases h2:ab1 xs k<;>rw[h1,h2] at this<;>simp at this<;>simp
theorem FY (hu:A.units+64<YV)(I:az X pins σ H s)(g:dM H a es)(kb:r6 H k b)(hz:es.length<=WJ)(rd:aN d r)(h1:∀v w' s',eK es k=some v->az X pins σ H s'->aN v w'->Q w' s')(h2:eK es k=none->∀ep s',az X pins σ (bV H a (DN a ep (iC es k b d))) s'->Q r s') :
  W4 (Xg X.prog X.w) A (call (.builtin "dict.setdefault") [.ref a,.ref b,r]) Q E s:=by
 obtain⟨xs,rel,dd⟩:=g.of I.hok;refine call_meetsIn abL dd.typeIs PySem.F.entry_dict_setdefault (PySem.F.args_dict_setdefault_3 _ _ _) (vo (g.lo I.hok)) ⟨uI hu,k,xs,kb.tk I.hok,dd,by rw[←aaf rel];exact hz,λp e=>?_,λe h' KR hs=>?_⟩
 ·have:=iO k rel;rw[e] at this;cases hv:eK es k with
  |none=>rw[hv] at this;exact this.elim
  |some v=>rw[hv] at this;exact h1 v _ _ hv (I.tok _) this
 ·obtain⟨q,ds,ep,hq,e2,e3,e4,_,_⟩:=KR;refine h2 ((C0 k rel).mpr e) ep _ ?_;exact pJ I g.mut hs ⟨q,hq⟩ ⟨⟨g.lo I.hok,q,ds,_,hq,e2,e3,wy k rd rel,e4⟩,⟨q,hq⟩,λg1 g2 ⟨l,o,ds,xs,z1,z2⟩ kp=>⟨l,o,ds,xs,kp _ z1,z2⟩⟩
end
def PR (td ty tx:TE):TE:=λσ H Q=>td σ H λx H1=>∃a,x=.ref a/\H9 H1 a/\ty σ H1 λy H2=>tx σ H2 λz H3=>∃es k b,dM H3 a es/\y=.ref b/\r6 H3 k b/\es.length<=WJ/\(∀v,eK es k=some v->Q v H3)/\(eK es k=none->∀ep,Q z (bV H3 a (DN a ep (iC es k b z))))
section
variable {o e f:YO}{cI cpos:Pos}{td ty tx:TE}
theorem IJ (hu:X.A.units+64<YV)(ho:PE X o td)(he:PE X e ty)(hf:PE X f tx)(m:M2 X o "setdefault" cI e f cpos):PE X (.Call (.Attribute o "setdefault" cI) [e,f] [] cpos) (PR td ty tx):=by
 intro pins s σ H Q I h;refine acC m.base m.few m.line aaV abL PySem.F.type_dict_setdefault (du (ho pins s σ H _ I h) λu s1 ⟨x,H1,I1,rx,a,ex,d,q1⟩=>?_);subst ex;obtain rfl:u=Value.ref a:=rx;obtain⟨t1,t2⟩:=JD I1 d;refine⟨t1,t2,?_⟩;rw[m.trees];refine Zk rfl (abF (Z5 (du (he pins s1 σ H1 _ I1 q1) λiv s2 ⟨y,H2,I2,ry,q2⟩=>
  Z5 (du (hf pins s2 σ H2 _ I2 q2) λfv s3 ⟨z,H3,I3,rz,es,k,b,g,ey,kb,hz,q3,q4⟩=>acu ?_))))
 subst ey;cases ry;exact FY hu I3 g kb hz rz (λv w' s' hv I' rv=>⟨v,H3,I',rv,q3 v hv⟩) λhv ep s' I'=>⟨z,_,I',rz,q4 hv ep⟩
end
end L2
namespace L2
def gI (P:U->V->List W7->Prop):List U->List V->List W7->Prop
 | [],vs,L=>vs=[]/\L=[]
 |u::us,vs,L=>∃v r L1 L2,vs=v::r/\L=L1++L2/\P u v L1/\gI P us r L2
def Dp (K:WH)(H:Hp)(A:W7->Prop):Nat->U->V->List W7->Prop
 |0,u,v,L=>∃a us xs,v=.ref a/\u=.lst us/\L=[a]/\H a=some (.lst xs)/\us.length<=WJ/\aC K H A us xs
 |n+1,u,v,L=>∃a us es M,v=.ref a/\u=.dct (es.map λp=>.tup p.1) us/\L=a::M/\dM H a es/\(es=[]->H a=some (.dK []))/\us.length<=WJ/\gI (Dp K H A n) us (es.map (·.2.2)) M
section
variable {A':W7->Prop}
theorem gI.imp {P P':U->V->List W7->Prop}:∀{us:List U} {vs:List V} {L:List W7},(∀u v L',(∀b∈L',b∈L)->P u v L'->P' u v L')->gI P us vs L->gI P' us vs L
 | [],_,_,_,h=>h
 |u::us,vs,L,f,h=>by
  obtain⟨v,r,L1,L2,e1,e2,p,q⟩:=h;subst e2;exact⟨v,r,L1,L2,e1,rfl,f u v L1 (λb hb=>Xn _ hb) p,gI.imp (λu v L' s=>f u v L' λb hb=>WZ _ (s b hb)) q⟩
theorem gI.length {P:U->V->List W7->Prop}:∀{us:List U} {vs:List V} {L:List W7},gI P us vs L->us.length=vs.length
 | [],_,_,⟨e,_⟩=>by subst e;rfl
 |u::us,_,_,⟨v,r,_,_,e,_,_,q⟩=>by subst e;rw[WT,WT,q.length]
theorem gI.mem {P:U->V->List W7->Prop}:∀{us:List U} {vs:List V} {L:List W7} {b:W7},gI P us vs L->b∈L->∃u v L',P u v L'/\b∈L'
 | [],_,_,b,⟨_,e⟩,h=>by subst e;cases h
 |u::us,_,_,b,⟨v,r,L1,L2,_,e,p,q⟩,h=>by
  subst e;rcases W0.mp h with h|h
  ·exact⟨u,v,L1,p,h⟩
  ·exact q.mem h
theorem dM.mu (g:dM H a es):Mu (H a):=by
 rcases g.ob with⟨ep,q⟩|⟨_,q⟩<;>(rw[q];trivial)
theorem Dp.mu:∀{n:Nat} {u:U} {v:V} {L:List W7} {b:W7},Dp K H A n u v L->b∈L->Mu (H b)
 |0,u,v,L,b,h,hb=>by
  obtain⟨a,us,xs,_,_,e,q,_⟩:=h;subst e;rw[WU] at hb;subst hb;rw[q];trivial
 |n+1,u,v,L,b,h,hb=>by
  obtain⟨a,us,es,M,_,_,e,g,_,_,al⟩:=h;subst e;rcases WV.mp hb with rfl|hb
  ·exact g.mu
  ·obtain⟨u',v',L',p,hb⟩:=al.mem hb;exact Dp.mu p hb
theorem dM.re (g:dM H a es)(ka:H' a=H a)(t:∀b ys,H b=some (.tup ys)->H' b=some (.tup ys)):dM H' a es:=⟨by rw[ka];exact g.ob,g.nd,λe he=>(g.key e he).to t⟩
structure yv (A A':W7->Prop)(H H':Hp):Prop where
 mu:∀b,A b->Mu (H b)
 ex:dR A H H'
 nw:∀b,A' b->A b\/H b=none
theorem yv.tup (g:yv A A' H H'):∀b ys,H b=some (.tup ys)->H' b=some (.tup ys):=λb ys q=>g.ex b _ (λz=>by have:=g.mu b z;rw[q] at this;exact this) q
theorem Dp.re (g:yv A A' H H'):∀{n:Nat} {u:U} {v:V} {L:List W7},(∀b∈L,H' b=H b)->Dp K H A n u v L->Dp K H' A' n u v L
 |0,u,v,L,k,h=>by
  obtain⟨a,us,xs,e1,e2,e,q,l,r⟩:=h;subst e;exact⟨a,us,xs,e1,e2,rfl,by rw[k a WG];exact q,l,r.re g.mu g.ex g.nw⟩
 |n+1,u,v,L,k,h=>by
  obtain⟨a,us,es,M,e1,e2,e,d,z,l,al⟩:=h;subst e;have ka:=k a WG;exact⟨a,us,es,M,e1,e2,rfl,d.re ka g.tup,(by rw[ka];exact z),l,al.imp λu v L' s p=>Dp.re g (λb hb=>k b (WI _ (s b hb))) p⟩
theorem gI.rps {P:U->V->List W7->Prop}:∀{us:List U} {vs:List V} {L:List W7},(∀u v L',(∀b∈L',b∈L)->P u v L'->Rp K H A' u v)->gI P us vs L->aC K H A' us vs
 | [],_,_,_,⟨e,_⟩=>by subst e;exact aC.nil
 |u::us,_,_,f,⟨v,r,L1,L2,e1,e2,p,q⟩=>by
  subst e1 e2;exact aC.cons (f u v L1 (λb hb=>Xn _ hb) p) (q.rps λu v L' s=>f u v L' λb hb=>WZ _ (s b hb))
theorem dM.at (d:dM H a es)(z:es=[]->H a=some (.dK [])):uJ H a (es.map λp=>.tup p.1) (es.map (·.2.2)):=by
 by_cases hz:es=[]
 ·subst hz;exact .inl ⟨[],z rfl,rfl,rfl⟩
 ·exact .inr ⟨es,hz,d,rfl,rfl⟩
theorem Dp.rp:∀{n:Nat} {u:U} {v:V} {L:List W7},(∀b,A' b->A b/\b∉L)->Dp K H A n u v L->Rp K H A' u v
 |0,u,v,L,k,h=>by
  obtain⟨a,us,xs,e1,e2,e,q,l,r⟩:=h;subst e e2;unfold Rp;exact⟨a,xs,e1,λz=>(k a z).2 WG,q,l,r.mono λb z=>(k b z).1⟩
 |n+1,u,v,L,k,h=>by
  obtain⟨a,us,es,M,e1,e2,e,d,z,l,al⟩:=h;subst e e2;unfold Rp;exact⟨a,es.map (·.2.2),e1,λy=>(k a y).2 WG,d.at z,l,al.rps λu v L' s p=>Dp.rp (λb y=>⟨(k b y).1,λw=>(k b y).2 (WI _ (s b w))⟩) p⟩
structure At (K:WH)(H:Hp)(A:W7->Prop)(n:Nat)(v:V)(L:List W7)(m:Nat)(u':U)(v':V)(L':List W7)(F:U->U):Prop where
 sub:∀b∈L',b∈L
 nod:L.Nodup
 nod':L'.Nodup
 dp:Dp K H A m u' v' L'
 all:Dp K H A n (F u') v L
 put:∀H' A' w L3,yv A A' H H'->(∀b∈L,b∉L'->H' b=H b)->Dp K H' A' m w v' L3->L3.Nodup->(∀b∈L',b∈L3)->(∀b∈L3,b∈L'\/H b=none)->∃L4,Dp K H' A' n (F w) v L4/\L4.Nodup/\(∀b∈L,b∈L4)/\(∀b∈L3,b∈L4)/\(∀b∈L4,b∈L3\/b∈L)
theorem At.root (h:Dp K H A n u v L)(nd:L.Nodup):At K H A n v L n u v L id:=⟨λb h=>h,nd,nd,h,h,λH' A' w L3 g k d n3 s1 s2=>⟨L3,d,n3,s1,λb hb=>hb,λb hb=>.inl hb⟩⟩
theorem Dp.ne (h:Dp K H A n u v L)(hb:b∈L):H b≠none:=λe=>by
 have:=h.mu hb;rw[e] at this;exact this
theorem yv.trans {A2:W7->Prop}(g:yv A A' H H')(un:∀b,H' b=none->H b=none)(g':yv A' A2 H' H2):yv A A2 H H2:=
 ⟨g.mu,λb o nb e=>g'.ex b o (λz=>by rcases g.nw b z with y|y;exact nb y;rw[e] at y;cases y) (g.ex b o nb e),λb z=>by
  rcases g'.nw b z with y|y
  ·exact g.nw b y
  ·exact .inr (un b y)⟩
theorem At.set {L3:List W7}{w:U}{F:U->U}(h:At K H A n v L m u' v' L' F)(g:yv A A' H H')(k:∀b∈L,b∉L'->H' b=H b)(un:∀b,H' b=none->H b=none)(d:Dp K H' A' m w v' L3)(n3:L3.Nodup)(s1:∀b∈L',b∈L3)(s2:∀b∈L3,b∈L'\/H b=none):∃L4,At K H' A' n v L4 m w v' L3 F/\(∀b∈L,b∈L4)/\(∀b∈L4,b∈L3\/b∈L):=by
 obtain⟨L4,d4,n4,z1,z3,z2⟩:=h.put H' A' w L3 g k d n3 s1 s2;refine⟨L4,⟨z3,n4,n3,d,d4,λH2 A2 w2 L5 g2 k2 d5 n5 t1 t2=>?_⟩,z1,z2⟩;obtain⟨L6,d6,n6,y1,y3,y2⟩:=h.put H2 A2 w2 L5 (g.trans un g2) (λb hb nb=>by
   rw[k2 b (z1 b hb) (λy=>by
    rcases s2 b y with y|y
    ·exact nb y
    ·exact h.all.ne hb y),k b hb nb]) d5 n5 (λb hb=>t1 b (s1 b hb)) (λb hb=>by
   rcases t2 b hb with y|y
   ·exact s2 b y
   ·exact .inr (un b y))
 refine⟨L6,d6,n6,λb hb=>?_,y3,λb hb=>(y2 b hb).imp id (z1 b)⟩;rcases z2 b hb with y|y
 ·exact y3 b (t1 b y)
 ·exact y1 b y
theorem At.keep {F:U->U}(h:At K H A n v L m u' v' L' F)(g:yv A A' H H')(k:∀b∈L,H' b=H b)(un:∀b,H' b=none->H b=none):At K H' A' n v L m u' v' L' F:=
 ⟨h.sub,h.nod,h.nod',h.dp.re g λb hb=>k b (h.sub b hb),h.all.re g k,λH2 A2 w2 L5 g2 k2 d5 n5 t1 t2=>h.put H2 A2 w2 L5 (g.trans un g2) (λb hb nb=>by rw[k2 b hb nb,k b hb]) d5 n5 t1 λb hb=>(t2 b hb).imp id (un b)⟩
theorem pW {k w:U}:∀{ks us:List U},k∉ks->ks.length=us.length->X1 (λk' u=>if k'=k then w else u) ks us=us
 | [],[],_,_=>rfl
 |x::ks,y::us,h,l=>by
  rw[XN,hV (λe=>h (by rw[e];exact WG)),pW (λz=>h (WI _ z)) (by simpa using l)]
noncomputable abbrev gJ (es:List (List U×W7×V)):List U:=es.map λp=>.tup p.1
theorem vp {k:List U}:U.tup k∈gJ es↔k∈es.map (·.1):=by
 rw[WS,WS];constructor
 ·rintro⟨p,hp,e⟩;exact⟨p,hp,iZ.mp e⟩
 ·rintro⟨p,hp,e⟩;exact⟨p,hp,by rw[e]⟩
theorem gI.find {m:Nat}{k:List U}{x:V}:∀{es:List (List U×W7×V)} {us:List U} {M:List W7},gI (Dp K H A m) us (es.map (·.2.2)) M->(es.map (·.1)).Nodup->M.Nodup->eK es k=some x->
  ∃u' M',cW (gJ es) us (.tup k)=some u'/\k∈es.map (·.1)/\X1 (λk' u=>if k'=.tup k then u' else u) (gJ es) us=us/\(∀b∈M',b∈M)/\M'.Nodup/\Dp K H A m u' x M' /\
   ∀H' A' w M3,yv A A' H H'->(∀b∈M,b∉M'->H' b=H b)->Dp K H' A' m w x M3->M3.Nodup->(∀b∈M',b∈M3)->(∀b∈M3,b∈M'\/H b=none)->
    ∃M4,gI (Dp K H' A' m) (X1 (λk' u=>if k'=.tup k then w else u) (gJ es) us) (es.map (·.2.2)) M4/\M4.Nodup/\(∀b∈M,b∈M4)/\(∀b∈M3,b∈M4)/\(∀b∈M4,b∈M3\/b∈M)
 | [],_,_,_,_,_,e=>by cases e
 |e::es,us,M,al,nd,nM,hv=>by
  cases us with
  |nil=>obtain⟨z,_⟩:=al;cases z
  |cons u us=>
   obtain⟨v,r,L1,L2,e1,e2,p,q⟩:=al;rw[WD] at e1;cases e1;subst e2;rw[WD] at nd;obtain⟨Rb,nd2⟩:=X3.mp nd;obtain⟨n1,n2,n3⟩:=Ye.mp nM;have ql:(gJ es).length=us.length:=by rw[q.length,WA,WA]
   unfold eK at hv;rw[Ya] at hv;unfold gJ;rw[WD];unfold cW;by_cases c:e.1=k
   ·rw[hG c] at hv;cases hv;have nk:U.tup k∉gJ es:=λz=>Rb (by rw[c];exact vp.mp z);refine⟨u,L1,by rw[hZ (by rw[c])],by rw[←c];exact WG,by rw[XN,ite_self];exact congrArg _ (pW nk ql),λb hb=>Xn _ hb,n1,p,λH' A' w M3 g kk d5 n5 t1 t2=>?_⟩;rw[XN,hZ (by rw[c]),pW nk ql];have dj:∀b∈L2,b∉L1:=λb hb z=>n3 b z b hb rfl;refine⟨M3++L2,⟨_,_,M3,L2,rfl,rfl,d5,q.imp λu v L' s y=>y.re g λb hb=>kk b (WZ _ (s b hb)) (dj b (s b hb))⟩,?_,λb hb=>?_,λb hb=>Xn _ hb,λb hb=>?_⟩
    ·refine Ye.mpr ⟨n5,n2,λa ha b hb eq=>?_⟩;subst eq;rcases t2 a ha with y|y
     ·exact dj a hb y
     ·obtain⟨_,_,_,z1,z2⟩:=q.mem hb;exact z1.ne z2 y
    ·rcases W0.mp hb with y|y
     ·exact Xn _ (t1 b y)
     ·exact WZ _ y
    ·exact (W0.mp hb).imp id (λy=>WZ _ y)
   ·rw[hJ c] at hv;obtain⟨u',M',y1,y2,y3,y4,y5,y6,y7⟩:=gI.find q nd2 n2 hv;have c':¬U.tup e.1=U.tup k:=λz=>c (iZ.mp z);have dj:∀b∈L1,b∉L2:=λb hb z=>n3 b hb b z rfl;refine⟨u',M',by rw[hV c'];exact y1,WI _ y2,by rw[XN,hV c',y3],λb hb=>WZ _ (y4 b hb),y5,y6,λH' A' w M3 g kk d5 n5 t1 t2=>?_⟩;obtain⟨M4,z1,z2,z3,z4,z5⟩:=y7 H' A' w M3 g (λb hb=>kk b (WZ _ hb)) d5 n5 t1 t2;rw[XN,hV c'];refine⟨L1++M4,⟨_,_,L1,M4,rfl,rfl,p.re g λb hb=>kk b (Xn _ hb) λz=>dj b hb (y4 b z),z1⟩,?_,λb hb=>?_,λb hb=>WZ _ (z4 b hb),λb hb=>?_⟩
    ·refine Ye.mpr ⟨n1,z2,λa ha b hb eq=>?_⟩;subst eq;rcases z5 a hb with y|y
     ·rcases t2 a y with x|x
      ·exact dj a ha (y4 a x)
      ·exact p.ne ha x
     ·exact dj a ha y
    ·rcases W0.mp hb with y|y
     ·exact Xn _ y
     ·exact WZ _ (z3 b y)
    ·rcases W0.mp hb with y|y
     ·exact .inr (Xn _ y)
     ·exact (z5 b y).imp id λz=>WZ _ z
theorem At.child {M:List W7}{F:U->U}{k:List U}{x:V}(h:At K H A n v L (m+1) (.dct (gJ es) us) (.ref a) (a::M) F)(d:dM H a es)(z:es=[]->H a=some (.dK []))(l:us.length<=WJ)(al:gI (Dp K H A m) us (es.map (·.2.2)) M)(hv:eK es k=some x) :
  ∃u' L2,cW (gJ es) us (.tup k)=some u'/\F (.dct (cK (gJ es) (.tup k)) (cc (gJ es) us (.tup k) u'))=F (.dct (gJ es) us)/\At K H A n v L m u' x L2 (λw=>F (.dct (cK (gJ es) (.tup k)) (cc (gJ es) us (.tup k) w))):=by
 obtain⟨na,nM⟩:=X3.mp h.nod';obtain⟨u',M',y1,y2,y3,y4,y5,y6,y7⟩:=al.find d.nd nM hv;have hk:U.tup k∈gJ es:=vp.mpr y2;have e1:cK (gJ es) (.tup k)=gJ es:=hZ hk;have e2:∀w,cc (gJ es) us (.tup k) w=X1 (λk' u=>if k'=.tup k then w else u) (gJ es) us:=λw=>hZ hk;have e3:F (.dct (cK (gJ es) (.tup k)) (cc (gJ es) us (.tup k) u'))=F (.dct (gJ es) us):=by rw[e1,e2,y3]
 refine⟨u',M',y1,e3,⟨λb hb=>h.sub b (WI _ (y4 b hb)),h.nod,y5,y6,by rw[e3];exact h.all,λH' A' w L3 g kk d5 n5 t1 t2=>?_⟩⟩;have ka:H' a=H a:=kk a (h.sub a WG) λq=>na (y4 a q);obtain⟨M4,z1,z2,z3,z4,z5⟩:=y7 H' A' w L3 g (λb hb nb=>kk b (h.sub b (WI _ hb)) nb) d5 n5 t1 t2;have n4:(a::M4).Nodup:=X3.mpr ⟨λq=>by
  rcases z5 a q with y|y
  ·rcases t2 a y with x|x
   ·exact na (y4 a x)
   ·exact h.dp.ne WG x
  ·exact na y,z2⟩
 obtain⟨L4,w1,w2,w3,w4,w5⟩:=h.put H' A' (.dct (gJ es) (cc (gJ es) us (.tup k) w)) (a::M4) g (λb hb nb=>kk b hb λq=>nb (WI _ (y4 b q)))
  ⟨a,_,es,M4,rfl,rfl,rfl,d.re ka g.tup,(by rw[ka];exact z),by rw[e2,Zg];lia,by rw[e2];exact z1⟩ n4 (λb hb=>by
   rcases WV.mp hb with rfl|hb
   ·exact WG
   ·exact WI _ (z3 b hb)) (λb hb=>by
   rcases WV.mp hb with rfl|hb
   ·exact .inl WG
   ·rcases z5 b hb with y|y
    ·exact (t2 b y).imp (λq=>WI _ (y4 b q)) id
    ·exact .inl (WI _ y))
 refine⟨L4,by rw[e1];exact w1,w2,w3,λb hb=>w4 b (WI _ (z4 b hb)),λb hb=>?_⟩;rcases w5 b hb with y|y
 ·rcases WV.mp y with rfl|y
  ·exact .inr (h.sub b WG)
  ·rcases z5 b y with x|x
   ·exact .inl x
   ·exact .inr (h.sub b (WI _ x))
 ·exact .inr y
theorem gI.snoc {P:U->V->List W7->Prop}(p:P u v L'):∀{us:List U} {vs:List V} {L:List W7},gI P us vs L->gI P (us++[u]) (vs++[v]) (L++L')
 | [],_,_,⟨e1,e2⟩=>by subst e1 e2;exact⟨v,[],L',[],rfl,(Xt _).symm,p,rfl,rfl⟩
 |w::us,_,_,⟨x,r,L1,L2,e1,e2,q,al⟩=>by subst e1 e2;exact⟨x,r++[v],L1,L2++L',rfl,W8 _ _ _,q,al.snoc p⟩
theorem FZ {k:List U}(h:eK es k=none):k∉es.map (·.1):=λz=>by
 obtain⟨e,he,rfl⟩:=WS.mp z;unfold eK at h;rw[aa9,aaX] at h;exact h e he (hG rfl)
theorem C1 {k:List U}(h:eK es k=none):eK (es++[(k,b,v)]) k=some v:=by
 unfold eK at h ⊢;rw[aa9] at h;rw[List.find?_append,h];show Option.map _ (List.find? _ _)=_;rw[Ya,hG rfl];rfl
theorem C2 {k w:U}(h:k∉ks)(l:ks.length=us.length):X1 (λk' u=>if k'=k then w else u) (ks++[k]) (us++[u])=us++[w]:=by
 rw[List.zipWith_append l,pW h l];show _++[if k=k then w else u]=_;rw[hZ rfl]
theorem xD {k:U}:∀{ks us:List U},k∉ks->cW ks us k=none
 | [],us,_=>by unfold cW;rfl
 |x::ks,[],_=>by unfold cW;rfl
 |x::ks,y::us,h=>by unfold cW;rw[hV (λe=>h (by rw[e];exact WG))];exact xD λz=>h (WI _ z)
theorem ue {k u:U}:∀{ks us:List U},k∉ks->ks.length=us.length->cW (ks++[k]) (us++[u]) k=some u
 | [],[],_,_=>by show cW [k] [u] k=_;unfold cW;rw[hZ rfl]
 |x::ks,y::us,h,l=>by show cW (x::(ks++[k])) (y::(us++[u])) k=_;unfold cW;rw[hV (λe=>h (by rw[e];exact WG))];exact ue (λz=>h (WI _ z)) (by simpa using l)
theorem At.new {H0:Hp}{c:W7}{M:List W7}{F:U->U}{k:List U}{u0:U}(h:At K H0 A n v L (m+1) (.dct (gJ es) us) (.ref a) (a::M) F)(d:dM H0 a es)(l:us.length<WJ)(al:gI (Dp K H0 A m) us (es.map (·.2.2)) M)(mu:∀b,A b->Mu (H0 b))(aa:∀b∈L,A b)(s0:aG H0 H)(nc:H0 c=none)(kb:r6 H k b)(hv:eK es k=none)(h':H'=bV H a (DN a ep (iC es k b (.ref c))))(dc:∀H',H' c=H c->(∀b,Mu (H b)\/H' b=H b)->Dp K H' (λb=>A b\/b=c) m u0 (.ref c) [c]) :
  ∃L4 L2,cW (gJ es) us (.tup k)=none/\At K H' (λb=>A b\/b=c) n v L4 m u0 (.ref c) L2 (λw=>F (.dct (cK (gJ es) (.tup k)) (cc (gJ es) us (.tup k) w)))/\(∀b∈L,b∈L4)/\(∀b∈L4,b∈L\/b=c)/\yv A (λb=>A b\/b=c) H0 H':=by
 have nk:=FZ hv;have QD:U.tup k∉gJ es:=λz=>nk (vp.mp z);have ll:(gJ es).length=us.length:=by rw[al.length,WA,WA]
 have pe:iC es k b (.ref c)=es++[(k,b,.ref c)]:=by unfold iC;rw[hv];rfl
 rw[pe] at h';have aA:A a:=aa a (h.sub a WG);have ha:H' a=some (DN a ep (es++[(k,b,.ref c)])):=by rw[h'];unfold bV;rw[hZ rfl]
 have hb:∀b,b≠a->H' b=H b:=λb nb=>by rw[h'];unfold bV;rw[hV nb]
 have ca:c≠a:=λe=>by
  have:=mu a aA;rw[←e,nc] at this;exact this
 have cM:c∉M:=λz=>h.all.ne (h.sub c (WI _ z)) nc;obtain⟨na,nM⟩:=X3.mp h.nod';have g:yv A (λb=>A b\/b=c) H0 H':=⟨mu,λb o nb e=>by rw[hb b (λz=>nb (z▸aA))];exact s0 b o e,λb z=>z.imp id λe=>by rw[e];exact nc⟩;have un:∀b,H' b=none->H0 b=none:=λx e=>by
  by_cases xa:x=a
  ·rw[xa,ha] at e;cases e
  ·rw[hb x xa] at e;cases q:H0 x with
   |none=>rfl
   |some o=>rw[s0 x o q] at e;cases e
 have kL:∀b∈L,b≠a->H' b=H0 b:=λx hx xa=>by
  rw[hb x xa];cases q:H0 x with
  |none=>exact absurd q (h.all.ne hx)
  |some o=>exact s0 x o q
 have d2:dM H' a (es++[(k,b,.ref c)]):=⟨.inl ⟨ep,ha⟩,by
  rw[WW,Ye];refine⟨d.nd,XX _ _,λx hx y hy=>?_⟩;rw[WD,X0,WU] at hy;subst hy;exact λe=>nk (e▸hx),λe he=>by
  rcases W0.mp he with he|he
  ·exact (d.key e he).to g.tup
  ·rw[WU] at he;subst he;refine kb.to λx ys q=>?_;rw[hb x (λz=>?_)]
   ·exact q
   ·have:=mu a aA;obtain⟨o,e⟩:=this.ex;rw[e] at this;rw[z,s0 a o e] at q;cases q;exact this⟩
 have em:(es++[(k,b,V.ref c)]).map (·.2.2)=es.map (·.2.2)++[.ref c]:=by rw[WW];rfl
 have ek:gJ (es++[(k,b,V.ref c)])=gJ es++[.tup k]:=by unfold gJ;rw[WW];rfl
 have Rh:gI (Dp K H' (λb=>A b\/b=c) m) (us++[u0]) ((es++[(k,b,V.ref c)]).map (·.2.2)) (M++[c]):=by
  rw[em];refine gI.snoc (dc H' (hb c ca) λx=>?_) (al.imp λu v L' s p=>p.re g λx hx=>kL x (h.sub x (WI _ (s x hx))) λe=>na (e▸s x hx));by_cases xa:x=a
  ·refine .inl ?_;have:=mu a aA;obtain⟨o,e⟩:=this.ex;rw[xa,s0 a o e,←e];exact this
  ·exact .inr (hb x xa)
 obtain⟨L4,h4,z1,z2⟩:=h.set (w:=.dct (gJ (es++[(k,b,V.ref c)])) (us++[u0])) (L3:=a::(M++[c])) g (λx hx nx=>kL x hx λe=>nx (by rw[e];exact WG)) un
  ⟨a,_,_,_,rfl,rfl,rfl,d2,(λe=>absurd e (by simp)),by rw[WN];exact l,Rh⟩
  (X3.mpr ⟨λz=>by
   rcases W0.mp z with z|z
   ·exact na z
   ·rw[WU] at z;exact ca z.symm,Ye.mpr ⟨nM,XX _ _,λx hx y hy e=>by
    rw[WU] at hy;exact cM (hy▸e▸hx)⟩⟩)
  (λx hx=>by
   rcases WV.mp hx with hx|hx
   ·rw[hx];exact WG
   ·exact WI _ (Xn _ hx))
  (λx hx=>by
   rcases WV.mp hx with hx|hx
   ·rw[hx];exact .inl WG
   ·rcases W0.mp hx with hx|hx
    ·exact .inl (WI _ hx)
    ·rw[WU] at hx;rw[hx];exact .inr nc)
 obtain⟨u',L2,y1,y2,y3⟩:=h4.child d2 (λe=>absurd e (by simp)) (by rw[WN];exact l) Rh (C1 hv);rw[ek,ue QD ll] at y1;cases y1;have e1:cK (gJ es) (.tup k)=gJ es++[.tup k]:=hV QD;have e2:∀w,cc (gJ es) us (.tup k) w=us++[w]:=λw=>hV QD;have e3:(λw=>F (.dct (cK (gJ (es++[(k,b,V.ref c)])) (.tup k)) (cc (gJ (es++[(k,b,V.ref c)])) (us++[u0]) (.tup k) w)))=(λw=>F (.dct (cK (gJ es) (.tup k)) (cc (gJ es) us (.tup k) w))):=by
  funext w;have m:U.tup k∈gJ es++[.tup k]:=WZ _ WG;rw[ek,show cK (gJ es++[.tup k]) (.tup k)=gJ es++[.tup k] from hZ m,show cc (gJ es++[.tup k]) (us++[u0]) (.tup k) w=_ from hZ m,C2 QD ll,e1,e2]
 rw[e3] at y3;refine⟨L4,L2,xD QD,y3,z1,λx hx=>?_,g⟩;rcases z2 x hx with y|y
 ·rcases WV.mp y with y|y
  ·rw[y];exact .inl (h.sub a WG)
  ·rcases W0.mp y with y|y
   ·exact .inl (h.sub x (WI _ y))
   ·rw[WU] at y;exact .inr y
 ·exact .inl y
end
end L2
namespace L2
open Classical in
noncomputable def Pkg.hx (Z:Pkg)(H:Hp)(L:List W7):Pkg:=⟨λb=>Z.A0 b\/b∈L,λb=>if b∈L then H b else Z.B b,Z.a0⟩
section
variable {A':W7->Prop}{ρ':Ev}{σ':St}
theorem oI (h:b∈L):(Z.hx H L).B b=H b:=hZ h
theorem cf (h:b∉L):(Z.hx H L).B b=Z.B b:=hV h
structure ki (K:WH)(G:Gm)(Z:Pkg)(A:W7->Prop)(ρ:Ev)(σ:St)(H:Hp)(i n:Nat)(u:U)(v:V)(L:List W7):Prop where
 at_:σ[i]? = some (some v)
 nod:L.Nodup
 fr:∀b∈L,Z.B b=none/\¬Z.A0 b
 dp:Dp K H A n u v L
 rel:b_ K G (Z.hx H L) A (ρ.set i none) σ H
theorem ki.inA (h:ki K G Z A ρ σ H i n u v L)(hb:b∈L):A b:=h.rel.sup b (.inr hb)
theorem IK (h:∀b∈L,H' b=H b):Z.hx H' L=Z.hx H L:=by
 unfold Pkg.hx;congr 1;funext b;by_cases c:b∈L
 ·rw[hZ c,hZ c,h b c]
 ·rw[hV c,hV c]
theorem ki.kept (h:ki K G Z A ρ σ H i n u v L)(s:aG H H'):∀b∈L,H' b=H b:=λb hb=>by
 cases q:H b with
 |none=>exact absurd q (h.dp.ne hb)
 |some o=>exact s b o q
theorem rB (m:∀b,A b->Mu (H b))(s:aG H H'):yv A A H H':=⟨m,dR.same s,λb z=>.inl z⟩
theorem vq (s:aG H H'):∀b,H' b=none->H b=none:=λb e=>by
 cases q:H b with
 |none=>rfl
 |some o=>rw[s b o q] at e;cases e
theorem ki.same (h:ki K G Z A ρ σ H i n u v L)(s:aG H H'):ki K G Z A ρ σ H' i n u v L:=
 ⟨h.at_,h.nod,h.fr,h.dp.re (rB h.rel.mu s) (h.kept s),by rw[IK (h.kept s)];exact h.rel.same s⟩
theorem ki.put (h:ki K G Z A ρ σ H i n u v L)(g:yv A A' H H')(aa:∀b,A b->A' b)(k:∀b,b∉L'->H b≠none->H' b=H b)(nd:L'.Nodup)(s1:∀b∈L,b∈L')(s2:∀b∈L',b∈L\/H b=none)(ia:∀b∈L',A' b)(oa:∀b,A' b->A b\/b∈L')
  (d:Dp K H' A' n u' v L') (e:ρ'.set i none=ρ.set i none):ki K G Z A' ρ' σ H' i n u' v L':=by
 have old:∀b,A b->b∉L->b∉L':=λb ha nb z=>by
  rcases s2 b z with y|y
  ·exact nb y
  ·have:=h.rel.mu b ha;rw[y] at this;exact this
 have ne:∀b,A b->H b≠none:=λb ha e=>by
  have:=h.rel.mu b ha;rw[e] at this;exact this
 have nL:∀b,A b->(Z.hx H L).B b=none->b∉L:=λb ha e z=>by
  rw[oI z] at e;exact ne b ha e
 refine⟨h.at_,nd,λb hb=>?_,d,?_⟩
 ·rcases s2 b hb with y|y
  ·exact h.fr b y
  ·refine⟨?_,λz=>ne b (h.rel.sup b (.inl z)) y⟩;cases q:Z.B b with
   |none=>rfl
   |some o=>
    by_cases c:b∈L
    ·exact absurd y (h.dp.ne c)
    ·have:=h.rel.bas b o (by rw[cf c];exact q);rw[this] at y;cases y
 ·rw[e];exact {
   slot:=λj w hj=>by
    obtain⟨x,x1,x2⟩:=h.rel.slot j w hj;refine⟨x,x1,?_⟩;by_cases c:G.is j=true
    ·rw[hZ c] at x2 ⊢;obtain⟨a,e1,e2,e3,e4,e5⟩:=x2;have na:=nL a e2 e3;have S8:=old a e2 na;refine⟨a,e1,aa a e2,?_,e4.imp (λy z=>y (z.imp id λq=>absurd q S8)) id,e5.re g.mu g.ex g.nw λo w=>?_⟩
     ·rw[cf S8];rw[cf na] at e3;exact e3
     ·rw[k a S8 (by rw[w];simp)];exact w
    ·rw[hV c] at x2 ⊢;exact x2.re g.mu g.ex g.nw
   dis:=h.rel.dis
   mu:=λb z=>by
    by_cases c:b∈L'
    ·exact d.mu c
    ·rcases oa b z with y|y
     ·rw[k b c (ne b y)];exact h.rel.mu b y
     ·exact absurd y c
   sup:=λb z=>by
    rcases z with z|z
    ·exact aa b (h.rel.sup b (.inl z))
    ·exact ia b z
   out:=λb z=>by
    by_cases c:b∈L'
    ·exact .inl (.inr c)
    ·rcases oa b z with y|y
     ·rcases h.rel.out b y with q|q
      ·rcases q with q|q
       ·exact .inl (.inl q)
       ·exact absurd (s1 b q) c
      ·rw[cf λz=>c (s1 b z)] at q;exact .inr (by rw[cf c];exact q)
     ·exact absurd y c
   bas:=λb o z=>by
    by_cases c:b∈L'
    ·rw[oI c] at z;exact z
    ·rw[cf c] at z;have cL:b∉L:=λy=>c (s1 b y);have:=h.rel.bas b o (by rw[cf cL];exact z);rw[k b c (by rw[this];simp)];exact this
   io0:=h.rel.io0
   len:=h.rel.len}
theorem b_.hid (q:b_ K G Z A ρ σ H)(c:G.is i=true)(hi:G.io=true->i≠0)(h:ρ[i]? = some (some (.dct [] []))):∃a,ki K G Z A ρ σ H i (n+1) (.dct [] []) (.ref a) [a]:=by
 obtain⟨a,h1,h2,h3,h4,h5⟩:=q.own c h;have na:¬Z.A0 a:=by
  rcases h4 with h4|⟨h4,h6⟩
  ·exact h4
  ·exact absurd h6 (hi h4)
 have hk:H a=some (.dK []):=by
  unfold jt at h5;obtain⟨xs,d,_⟩:=h5;rcases d with⟨aK,d1,d2,_⟩|⟨es,d0,_,d2,_⟩
  ·cases aK with
   |nil=>exact d1
   |cons=>cases d2
  ·cases es with
   |nil=>exact absurd rfl d0
   |cons=>cases d2
 have ne:∀j w b,i≠j->G.is j=true->ρ[j]? = some (some w)->σ[j]? = some (some (.ref b))->b≠a:=λj w b n1 cj e1 e2 e=>by
  subst e;exact q.dis i j _ w b c cj n1 h e1 h1 e2
 refine⟨a,h1,XX _ _,λb hb=>?_,⟨a,[],[],[],rfl,rfl,rfl,⟨.inr ⟨rfl,hk⟩,Y9,(λe he=>nomatch he)⟩,λ_=>hk,X5 _,rfl,rfl⟩,?_⟩
 ·rw[WU] at hb;subst hb;exact⟨h3,na⟩
 ·exact {
   slot:=λj w hj=>by
    rcases cv hj with⟨rfl,e⟩|⟨n1,e⟩
    ·cases e
    ·obtain⟨x,x1,x2⟩:=q.slot j w e;refine⟨x,x1,?_⟩;by_cases cj:G.is j=true
     ·rw[hZ cj] at x2 ⊢;obtain⟨b,e1,e2,e3,e4,e5⟩:=x2;subst e1;have nb:=ne j w b n1 cj e x1;have Uw:b∉[a]:=λz=>nb (WU.mp z);exact⟨b,rfl,e2,by rw[cf Uw];exact e3,e4.imp (λy z=>y (z.elim id λq=>absurd q Uw)) id,e5⟩
     ·rw[hV cj] at x2 ⊢;exact x2
   dis:=(q.drop i).dis
   mu:=q.mu
   sup:=λb z=>by
    rcases z with z|z
    ·exact q.sup b z
    ·rw[WU] at z;subst z;exact h2
   out:=λb z=>by
    by_cases y:b∈[a]
    ·exact .inl (.inr y)
    ·exact (q.out b z).imp (λw=>.inl w) λw=>by rw[cf y];exact w
   bas:=λb o z=>by
    by_cases y:b∈[a]
    ·rw[oI y] at z;exact z
    ·rw[cf y] at z;exact q.bas b o z
   io0:=q.io0
   len:=by rw[X4];exact q.len}
theorem ki.un (h:ki K G Z A ρ σ H i (n+1) u v L)(c:G.is i=true)(hu:ρ[i]? = some (some u)):b_ K G Z (λb=>A b/\(b∈L->v=.ref b)) ρ σ H:=by
 obtain⟨a,us,es,M,e1,e2,e3,d,z,l,al⟩:=id h.dp;subst e1 e2 e3;obtain⟨na,nM⟩:=X3.mp h.nod;have ha:a∈a::M:=WG;have nL:∀b,A b->(Z.hx H (a::M)).B b=none->b∉a::M:=λb hA e y=>by
  rw[oI y] at e;exact h.dp.ne y e
 have av:∀b,(A b/\(b∈a::M->V.ref a=.ref b))->A b/\b∉M:=λb y=>⟨y.1,λw=>by
  have:=y.2 (WI _ w);cases this;exact na w⟩
 have vR:∀j w,i≠j->ρ[j]? = some (some w)->(ρ.set i none)[j]? = some (some w):=λj w n1 e=>by rw[Xs n1];exact e
 exact {
  slot:=λj w hj=>by
   by_cases n1:i=j
   ·subst n1;rw[hu] at hj;cases hj;refine⟨.ref a,h.at_,?_⟩;rw[hZ c];refine⟨a,rfl,⟨h.inA ha,λ_=>rfl⟩,(h.fr a ha).1,.inl (h.fr a ha).2,?_⟩;unfold jt;exact⟨es.map (·.2.2),d.at z,l,al.rps λu v L' s p=>Dp.rp (λb y=>⟨y.1,λw=>(av b y).2 (s b w)⟩) p⟩
   ·obtain⟨x,x1,x2⟩:=h.rel.slot j w (vR j w n1 hj);refine⟨x,x1,?_⟩;by_cases cj:G.is j=true
    ·rw[hZ cj] at x2 ⊢;obtain⟨b,e1,e2,e3,e4,e5⟩:=x2;have nb:=nL b e2 e3;exact⟨b,e1,⟨e2,λy=>absurd y nb⟩,by rw[cf nb] at e3;exact e3,e4.imp (λy w=>y (.inl w)) id,e5.mono λb y=>y.1⟩
    ·rw[hV cj] at x2 ⊢;exact x2.mono λb y=>y.1
  dis:=λj k w w' b cj ck n1 hj hk sj sk=>by
   have key:∀k w',G.is k=true->i≠k->ρ[k]? = some (some w')->σ[k]? ≠ some (some (.ref a)):=λk w' ck n2 e y=>by
    obtain⟨b,x1,x2,x3,_⟩:=h.rel.own ck (vR k w' n2 e);rw[x1] at y;cases y;exact nL a x2 x3 ha
   by_cases n2:i=j
   ·subst n2;rw[h.at_] at sj;cases sj;exact key k w' ck n1 hk sk
   ·by_cases n3:i=k
    ·subst n3;rw[h.at_] at sk;cases sk;exact key j w cj n2 hj sj
    ·exact h.rel.dis j k w w' b cj ck n1 (vR j w n2 hj) (vR k w' n3 hk) sj sk
  mu:=λb y=>h.rel.mu b y.1
  sup:=λb y=>⟨h.rel.sup b (.inl y),λw=>absurd y (h.fr b w).2⟩
  out:=λb y=>by
   by_cases w:b∈a::M
   ·exact .inr (h.fr b w).1
   ·rcases h.rel.out b y.1 with q|q
    ·exact .inl (q.elim id λx=>absurd x w)
    ·rw[cf w] at q;exact .inr q
  bas:=λb o y=>by
   have w:b∉a::M:=λx=>by rw[(h.fr b x).1] at y;cases y
   exact h.rel.bas b o (by rw[cf w];exact y)
  io0:=h.rel.io0
  len:=by have:=h.rel.len;rw[X4] at this;exact this}
theorem b_.pkg {Z':Pkg}(q:b_ K G Z A ρ σ H)(e0:Z'.a0=Z.a0)(e1:∀b,Z'.A0 b↔Z.A0 b)(hB:∀b,A b->Z.B b=none->Z'.B b=none)(bas:∀b o,Z'.B b=some o->H b=some o):b_ K G Z' A ρ σ H where
 slot:=λj w hj=>by
  obtain⟨x,x1,x2⟩:=q.slot j w hj;refine⟨x,x1,?_⟩;by_cases c:G.is j=true
  ·rw[hZ c] at x2 ⊢;obtain⟨b,yp,e2,e3,e4,e5⟩:=x2;exact⟨b,yp,e2,hB b e2 e3,e4.imp (λy z=>y ((e1 b).mp z)) id,e5⟩
  ·rw[hV c] at x2 ⊢;exact x2
 dis:=q.dis
 mu:=q.mu
 sup:=λb z=>q.sup b ((e1 b).mp z)
 out:=λb z=>(q.out b z).imp (λy=>(e1 b).mpr y) (hB b z)
 bas:=bas
 io0:=λz=>by rw[e0];exact q.io0 z
 len:=q.len
theorem ki.lp (h:ki K G Z A ρ σ H i n u v L):ki K G (Z.lp A H) A ρ σ H i n u v L:=
 ⟨h.at_,h.nod,λb hb=>⟨j6 (h.inA hb) (h.fr b hb).1,(h.fr b hb).2⟩,h.dp,h.rel.pkg rfl (λb=>Iff.rfl) (λb ha e=>by
  by_cases c:b∈L
  ·rw[oI c] at e ⊢;exact e
  ·rw[cf c] at e ⊢;exact j6 ha e) λb o e=>by
  by_cases c:b∈L
  ·rw[oI c] at e;exact e
  ·rw[cf c] at e;by_cases y:A b/\Z.B b=none
   ·rw[j6 y.1 y.2] at e;cases e
   ·rw[iq y] at e;exact e⟩
theorem Ky (h:ki K G Z A ρ σ H i n u v L)(e:(Z.lp A H).B b=none):Z.B b=none:=by
 rcases qt e with y|y
 ·exact y.2
 ·cases q:Z.B b with
  |none=>rfl
  |some o=>
   have c:b∉L:=λz=>by rw[(h.fr b z).1] at q;cases q
   have:=h.rel.bas b o (by rw[cf c];exact q);rw[this] at y;cases y
theorem ki.unlp (h:ki K G Z A ρ σ H i n u v L)(h':ki K G (Z.lp A H) A' ρ' σ' H' i n u' v' L'):ki K G Z A' ρ' σ' H' i n u' v' L' :=
 ⟨h'.at_,h'.nod,λb hb=>⟨Ky h (h'.fr b hb).1,(h'.fr b hb).2⟩,h'.dp,h'.rel.pkg rfl (λb=>Iff.rfl) (λb ha e=>by
  by_cases c:b∈L'
  ·rw[oI c] at e ⊢;exact e
  ·rw[cf c] at e ⊢;exact Ky h e) λb o e=>by
  by_cases c:b∈L'
  ·rw[oI c] at e;exact e
  ·rw[cf c] at e;refine h'.rel.bas b o ?_;rw[cf c,iq (λy=>by rw[e] at y;exact nomatch y.2)];have cL:b∉L:=λz=>by rw[(h.fr b z).1] at e;cases e
   exact h.rel.bas b o (by rw[cf cL];exact e)⟩
theorem ki.ext (h:ki K G Z A ρ σ H i n u v L)(h':ki K G (Z.lp A H) A' ρ' σ' H' i n u' v' L'):dR A H H'/\∀b,A' b->A b\/H b=none:=by
 refine⟨λb o nb e=>?_,λb z=>?_⟩
 ·have lb:(Z.lp A H).B b=some o:=by rw[iq (λy=>nb y.1)];exact e
  have c:b∉L':=λy=>by rw[(h'.fr b y).1] at lb;cases lb
  exact h'.rel.bas b o (by rw[cf c];exact lb)
 ·have f:(Z.lp A H).B b=none->A b\/H b=none:=λy=>(qt y).imp (λw=>w.1) id;rcases h'.rel.out b z with y|y
  ·rcases y with y|y
   ·exact .inl (h.rel.sup b (.inl y))
   ·exact f (h'.fr b y).1
  ·by_cases c:b∈L'
   ·exact f (h'.fr b c).1
   ·rw[cf c] at y;exact f y
def mF (K:WH)(G:Gm)(Z:Pkg)(i n:Nat):SR->kT->Prop
 | .nx ρ',D=>∀A' σ' H' u' v' L',ki K G Z A' ρ' σ' H' i n u' v' L'->ρ'[i]? = some (some u')->D.nx σ' H'
 | .bk ρ',D=>∀A' σ' H' u' v' L',ki K G Z A' ρ' σ' H' i n u' v' L'->ρ'[i]? = some (some u')->D.bk σ' H'
 | .ct ρ',D=>∀A' σ' H' u' v' L',ki K G Z A' ρ' σ' H' i n u' v' L'->ρ'[i]? = some (some u')->D.ct σ' H'
 |_,_=>False
def TR (K:WH)(G:Gm)(i n:Nat)(g:Ev->SR):TS:=λD σ H=>∃Z A ρ u v L,ki K G Z A ρ σ H i n u v L/\ρ[i]? = some (some u)/\mF K G Z i n (g ρ) D
theorem mF.lp (h:ki K G Z A ρ σ H i n u v L){r:SR}{D:kT}(f:mF K G Z i n r D):mF K G (Z.lp A H) i n r D:=by
 cases r with
 |nx=>exact λA' σ' H' u' v' L' h'=>f A' σ' H' u' v' L' (h.unlp h')
 |bk=>exact λA' σ' H' u' v' L' h'=>f A' σ' H' u' v' L' (h.unlp h')
 |ct=>exact λA' σ' H' u' v' L' h'=>f A' σ' H' u' v' L' (h.unlp h')
 |rt=>exact f.elim
 |exc=>exact f.elim
 |stk=>exact f.elim
theorem mF.of {α:Type}{x:R α}{k:α->SR}{D:kT}(f:mF K G Z i n (SR.of x k) D):∃a,x=.ok a/\mF K G Z i n (k a) D:=by
 cases x with
 |ok a=>exact⟨a,rfl,f⟩
 |exc=>exact f.elim
 |stk=>exact f.elim
end
structure DD (X:Cx)(G:Gm)(i n:Nat)(st:abM)(g:Ev->SR):Prop where
 un:PS X st (TR X.K G i n g)
structure TV (X:Cx)(G:Gm)(i n:Nat)(st:List abM)(g:Ev->SR):Prop where
 un:sd X st (TR X.K G i n g)
section
variable {e a b c o f:YO}{rest:List abM}{es:List YO}{cI cpos:Pos}{b1 b2:Bool}{m1 m2 m:Md}{g1 g2:Ev->R (U×Ev)}{h1:Ev->R (Bool×Ev)}{s1 s2:Ev->SR}
theorem Bt (h:DD X G i n st s1):TV X G i n [st] s1:=⟨Ag h.un⟩
noncomputable def vt (i:Nat)(sg:U->Ev->R Ev)(s:Ev->SR):List U->Ev->SR
 | [],ρ=>.nx ρ
 |u::us,ρ=>SR.of (sg u (ρ.set i none)) λρ1=>match s (ρ1.set i (ρ[i]?.getD none)) with
   | .nx ρ2=>vt i sg s us ρ2
   | .ct ρ2=>vt i sg s us ρ2
   | .bk ρ2=>.nx ρ2
   |r=>r
noncomputable def iw (i:Nat)(gi:Ev->R (List U×Ev))(sg:U->Ev->R Ev)(s:Ev->SR):Ev->SR:=λρ=>SR.of (gi (ρ.set i none)) λx=>vt i sg s x.1 ρ
theorem F0 {gi:Ev->R (List U×Ev)}(hp:acI (Xg X.prog X.w) X.A X.env X.xe)(hc:X.calm=true)(hi:DI X G tg iter false false gi)(hg:DG X G tg sg)(hb:TV X G i n body s1)(ci:G.is i=true:=by rfl)(hs:∀x,Za iter X.env x=pure x:=by intro _;rfl):DD X G i n (.For tg iter body [] pos) (iw i gi sg s1):=⟨(Ap hp hc hi.un hg.un hb.un hs).to λD σ H h00=>by
 obtain⟨Z,A,ρ,u,v,L,h,hu,f⟩:=h00;obtain⟨⟨us,ρ1⟩,e1,f⟩:=f.of;refine⟨Z.hx H L,A,ρ.set i none,h.rel,?_⟩;rw[e1];intro J H1 q1 x1 yn wk;have h1:=h.same (yn rfl).2;dsimp only at f;obtain⟨hz,wk⟩:=wk;refine⟨λj k σ H=>j+k=us.length/\∃A' ρ' u' v' L',ki X.K G (Z.lp A H1) A' ρ' σ H i n u' v' L'/\ρ'[i]? = some (some u')/\mF X.K G (Z.lp A H1) i n (vt i sg s1 (us.drop j) ρ') D,⟨us.length,by lia,A,ρ,u,v,L,h1.lp,hu,by rw[ZZ];exact f.lp h1⟩,?_⟩;rintro j k σ H ⟨hk,A',ρ',u',v',L',h',cN,f'⟩;obtain⟨ex,nw⟩:=h1.ext h';obtain⟨w1,w2⟩:=wk H A' (by rw[hV WE];exact ex) nw;by_cases sP:j<us.length
 ·have eu:us[j]? = some us[j]:=Wz sP;obtain⟨go,yl⟩:=w1 j _ eu;rw[XO sP] at f';unfold vt at f';obtain⟨ρ2,e2,f2⟩:=f'.of;refine .inr ⟨go,λσ H=>∃A' ρ' u' v' L',ki X.K G (Z.lp A H1) A' ρ' σ H i n u' v' L'/\ρ'[i]? = some (some u')/\mF X.K G (Z.lp A H1) i n (vt i sg s1 (us.drop (j+1)) ρ') D,λσ' H' z=>⟨k-1,by lia,by lia,z⟩,λx H' y=>?_⟩;obtain⟨sm,rp⟩:=yl x H' y;have h2:=h'.same sm;refine⟨(Z.lp A H1).hx H' L',A',ρ'.set i none,us[j],h2.rel,rp,?_⟩;rw[e2];intro σ2 q2 keep;have K3:σ2[i]? = some (some v'):=by rw[keep i ci];exact h2.at_
  have il:i<ρ2.length:=by
   rw[q2.len];exact (WL.mp K3).1
  have S9:(ρ2.set i (some u'))[i]? = some (some u'):=Zj il;rw[cN,ZW] at f2;refine⟨Z.lp A H1,A',ρ2.set i (some u'),u',v',L',⟨K3,h2.nod,h2.fr,h2.dp,by rw[List.set_set];exact q2.drop i⟩,S9,?_⟩;cases e3:s1 (ρ2.set i (some u')) with
  |nx ρ3=>rw[e3] at f2;exact λA3 σ3 H3 u3 v3 L3 h3 S_=>⟨A3,ρ3,u3,v3,L3,h3,S_,f2⟩
  |ct ρ3=>rw[e3] at f2;exact λA3 σ3 H3 u3 v3 L3 h3 S_=>⟨A3,ρ3,u3,v3,L3,h3,S_,f2⟩
  |bk ρ3=>rw[e3] at f2;exact f2
  |rt=>rw[e3] at f2;exact f2
  |exc=>rw[e3] at f2;exact f2
  |stk=>rw[e3] at f2;exact f2
 ·have e:j=us.length:=by lia
  subst e;rw[Zo] at f';exact .inl ⟨w2,f' A' σ H u' v' L' h' cN⟩⟩
noncomputable def uf (i:Nat)(g:Ev->SR):Ev->SR:=λρ=>match ρ[i]? with
 |some (some (.dct [] []))=>match g ρ with
  | .nx ρ'=>.nx ρ'
  | .bk ρ'=>.bk ρ'
  | .ct ρ'=>.ct ρ'
  |_=>.stk
 |_=>.stk
theorem IL (h:DD X G i (n+1) st s1)(hi:G.io=true->i≠0:=by decide)(c:G.is i=true:=by rfl):DS X G m st (uf i s1):=⟨h.un.to λD σ H h00=>by
 obtain⟨Z,A,ρ,q,f⟩:=h00;unfold uf at f;split at f
 ·rename_i hu;obtain⟨a,hd⟩:=q.hid (n:=n) c hi hu;refine⟨Z,A,ρ,_,_,_,hd,hu,?_⟩;cases e:s1 ρ with
  |nx=>rw[e] at f;exact λA' σ' H' u' v' L' h' cN=>f _ σ' H' (h'.un c cN)
  |bk=>rw[e] at f;exact λA' σ' H' u' v' L' h' cN=>f _ σ' H' (h'.un c cN)
  |ct=>rw[e] at f;exact λA' σ' H' u' v' L' h' cN=>f _ σ' H' (h'.un c cN)
  |rt=>rw[e] at f;exact f.elim
  |exc=>rw[e] at f;exact f.elim
  |stk=>rw[e] at f;exact f.elim
 ·exact f.elim⟩
end
end L2
namespace L2
noncomputable def oJ (i:Nat):Ev->R (U×(U->U)):=λρ=>match ρ[i]? with
 |some (some u)=>.ok (u,id)
 |_=>.stk
noncomputable def rC (i:Nat)(e0:U)(gp:Ev->R (U×(U->U)))(gk:Ev->R (U×Ev)):Ev->R (U×(U->U)):=λρ=>(gp ρ).bind λx=>(gk (ρ.set i none)).bind λk=>match x.1 with
 | .dct ks us=>if Cw k.1=true/\us.length<WJ then .ok ((cW ks us k.1).getD e0,λw=>x.2 (.dct (cK ks k.1) (cc ks us k.1 w))) else .stk
 |_=>.stk
def Q3 (K:WH)(G:Gm)(i n m:Nat)(gp:Ev->R (U×(U->U))):TE:=λσ H Q=>∃Z A ρ u v L,ki K G Z A ρ σ H i n u v L/\ρ[i]? = some (some u)/\match gp ρ with
 | .ok (u',F)=>∀A1 H1 L1 v' L',ki K G Z A1 ρ σ H1 i n (F u') v L1->At K H1 A1 n v L1 m u' v' L' F->Q v' H1
 |_=>False
noncomputable def Q4:Nat->HO
 |0=>.lst []
 |_+1=>.dK []
noncomputable def xE:Nat->U
 |0=>.lst []
 |_+1=>.dct [] []
def TX (m:Nat):TE:=λ_ H Q=>∀p,H p=none->Q (.ref p) (bV H p (Q4 m))
theorem MS {c:W7}:∀{m:Nat},H c=some (Q4 m)->Dp K H A m (xE m) (.ref c) [c]
 |0,h=>⟨c,[],[],rfl,rfl,rfl,h,X5 _,aC.nil⟩
 |m+1,h=>⟨c,[],[],[],rfl,rfl,rfl,⟨.inr ⟨rfl,h⟩,Y9,(λe he=>nomatch he)⟩,λ_=>h,X5 _,rfl,rfl⟩
theorem Dp.self {c:W7}:∀{m:Nat},Dp K H A m u (.ref c) L->c∈L
 |0,⟨a,_,_,e,_,e2,_⟩=>by cases e;subst e2;exact WG
 |m+1,⟨a,_,_,_,e,_,e2,_⟩=>by cases e;subst e2;exact WG
section
variable {e o f:YO}{cI cpos p1:Pos}{y:Str}{mk:Md}{gk:Ev->R (U×Ev)}{gp:Ev->R (U×(U->U))}
theorem IM:PE X (.List [] pos) (TX 0):=(Dy jA).to λσ H Q h=>⟨X5 _,h⟩
theorem IP (i:Nat)(hN:X.N[i]? = some y:=by rfl)(hv:BY X.env.scope y:=by first|exact Or.inl rfl|exact Or.inr (Or.inl rfl)|exact Or.inr (Or.inr rfl))(hd:(y==("__debug__":Str))=false:=by decide)
  (lE:(y==("__classdict__":Str))=false:=by decide):PE X (.Name y pos) (Q3 X.K G i n n (oJ i)):=(gx hN hv hd lE).to λσ H Q h00=>by
 obtain⟨Z,A,ρ,u,v,L,h,hu,f⟩:=h00;unfold oJ at f;rw[hu] at f;exact⟨v,h.at_,f A H L v L h (.root h.dp h.nod)⟩
theorem IQ (hu:X.A.units+64<YV)(ho:PE X o (Q3 X.K G i n (m+1) gp))(he:DE X G e false mk gk)(hf:PE X f (TX m))(hn:mk≠.P:=by decide)(M:M2 X o "setdefault" cI e f cpos:=by exact⟨rfl,rfl,rfl,rfl⟩) :
  PE X (.Call (.Attribute o "setdefault" cI) [e,f] [] cpos) (Q3 X.K G i n m (rC i (xE m) gp gk)):=(IJ hu ho he.un hf M).to λσ H Q h00=>by
 obtain⟨Z,A,ρ,u,v,L,hd,hu0,f⟩:=h00;unfold rC at f;cases e1:gp ρ with
 |stk=>rw[e1] at f;exact f.elim
 |exc=>rw[e1] at f;exact f.elim
 |ok x=>
  obtain⟨u1,F⟩:=x;rw[e1] at f;dsimp only[R.bind] at f;cases e2:gk (ρ.set i none) with
  |stk=>rw[e2] at f;exact f.elim
  |exc=>rw[e2] at f;exact f.elim
  |ok k=>
   obtain⟨k,ρk⟩:=k;rw[e2] at f;dsimp only[R.bind] at f;refine⟨Z,A,ρ,u,v,L,hd,hu0,?_⟩;rw[e1];intro A1 H1 L1 v' L' Ad j1;obtain⟨a,us,es,M,r1,r2,r3,d,z,l,al⟩:=id j1.dp;subst r1 r2 r3;dsimp only at f;split at f;rotate_left
   ·exact f.elim
   rename_i u' F' ef;split at ef;rotate_left
   ·cases ef
   rename_i hk;cases ef;refine⟨a,rfl,.inr ⟨es,d⟩,Z.hx H1 L1,A1,ρ.set i none,Ad.rel,?_⟩;rw[e2];intro vk H2 q2 x2 s2 vP;have Rg:=(s2 rfl).2;intro c nc;have s3:aG H2 (bV H2 c (Q4 m)):=bQ nc _;have N0:=Rg.trans s3;have Ab:Cw k=true:=hk.1;cases k<;>first|(cases Ab;done)|skip
   rename_i kk;obtain⟨b,rfl,kb⟩:=wQ Ab (vP.rp hn);have Ux:r6 (bV H2 c (Q4 m)) kk b:=kb.to λx ys q=>s3 x _ q;have Ta:=rB Ad.rel.mu N0;have Tb:=Ad.kept N0;have Vz:=j1.keep Ta Tb (vq N0);have ka:=Tb a (j1.sub a WG);have d3:=d.re ka Ta.tup;have VA:=al.imp λu v L' s (p:Dp X.K H1 A1 m u v L')=>p.re Ta λb hb=>Tb b (j1.sub b (WI _ (s b hb)));have hl:es.length=us.length:=by rw[al.length,WA]
   refine⟨es,kk,b,d3,rfl,Ux,by lia,λx hx=>?_,λhx ep=>?_⟩
   ·obtain⟨u',L2,y1,y2,y3⟩:=Vz.child d3 (by rw[ka];exact z) l VA hx;rw[show cW (es.map λp=>U.tup p.1) us (.tup kk)=some u' from y1,ZW] at f;refine f A1 _ L1 x L2 ?_ y3;show ki _ _ _ _ _ _ _ _ _ (F (.dct (cK (gJ es) (.tup kk)) (cc (gJ es) us (.tup kk) u'))) _ _;rw[y2];exact Ad.same N0
   ·have Uy:H1 c=none:=vq Rg c nc;obtain⟨L4,L2,y1,y3,z1,z2,g⟩:=At.new (H0:=H1) (c:=c) (u0:=xE m) (ep:=ep) j1 d hk.2 al Ad.rel.mu (λb hb=>Ad.inA hb) N0 Uy Ux hx rfl (λH' e _=>MS (by rw[e];exact ba));rw[show cW (es.map λp=>U.tup p.1) us (.tup kk)=none from y1,aay] at f;refine f _ _ L4 (.ref c) L2 (Ad.put g (λb z=>.inl z) (λb nb ne=>?_) y3.nod z1 (λb hb=>?_) (λb hb=>?_) (λb z=>?_) y3.all rfl) y3
    ·have:b≠a:=λq=>nb (by rw[q];exact z1 a (j1.sub a WG));show (if b=a then _ else _)=_;rw[hV this];cases q:H1 b with
     |none=>exact absurd q ne
     |some o=>exact N0 b o q
    ·rcases z2 b hb with y|y
     ·exact .inl y
     ·rw[y];exact .inr Uy
    ·exact (z2 b hb).imp (λy=>Ad.inA y) id
    ·rcases z with z|z
     ·exact .inl z
     ·rw[z];exact .inr (y3.sub c y3.dp.self)
noncomputable def F1 (i:Nat)(gp:Ev->R (U×(U->U)))(g:Ev->R (U×Ev)):Ev->SR:=λρ=>SR.of (gp ρ) λx=>SR.of (g (ρ.set i none)) λy=>match x.1 with
 | .lst us=>if us.length<WJ then .nx (ρ.set i (some (x.2 (.lst (us++[y.1]))))) else .stk
 |_=>.stk
theorem MT (ho:PE X o (Q3 X.K G i n 0 gp))(he:DE X G e false mk gk)(hn:mk≠.P:=by decide)
  (mO:ZR o "append" X.env (Z4 o X.env)=Z4 o X.env:=by rfl)
  (GA:((Zl cpos (W5 [e] X.env)).all (λx=> !x.1)&&(backToKw cpos (abR [] X.env)).all (λx=>x.1.isSome)
   && decide ([e].length+([]:List abA).length+(if ([]:List abA).isEmpty then 0 else 1)<30))=true:=by rfl)
  (mP:(cI.endLine==cpos.line)=true:=by rfl) (hs:W5 [e] X.env=(false,Z4 e X.env)::W5 [] X.env:=by rfl) (rV:(Zl cpos (W5 [] X.env)).any (·.1)=false:=by rfl)
  (hw:abq (.Call (.Attribute o "append" cI) [e] [] cpos) none pos.line X.env=pure false:=by rfl) :
  DD X G i n (.Expr (.Call (.Attribute o "append" cI) [e] [] cpos) pos) (F1 i gp gk):=⟨(Ah (Ju ZU PySem.F.slot_list_append PySem.F.type_list_append B8 ho (ae (p:=false) he aj (λh=>absurd h hn) hs).un mO GA mP hs rV) hw).to λD σ H h00=>by
 obtain⟨Z,A,ρ,u,v,L,hd,hu0,f⟩:=h00;obtain⟨⟨u1,F⟩,e1,f⟩:=f.of;obtain⟨⟨y,ρy⟩,e2,f⟩:=f.of;dsimp only at e2 f;refine⟨Z,A,ρ,u,v,L,hd,hu0,?_⟩;rw[e1];intro A1 H1 L1 v' L' Ad j1;obtain⟨a,us,xs,r1,r2,r3,q,l,r⟩:=id j1.dp;subst r1 r2 r3;dsimp only at f;split at f;rotate_left
 ·exact f.elim
 rename_i hl;refine⟨.inl ⟨rfl,xs,.inl (.inl q)⟩,Z.hx H1 L1,A1,ρ.set i none,Ad.rel,?_⟩;unfold ag;rw[e2];intro vs H2 q2 x2 s2 vP;have sm:=(s2 rfl).2;have rr:=vP.rps;unfold aC at rr;obtain⟨w,wr,rfl,rw1,rw2⟩:=rr;unfold aC at rw2;subst rw2;have K3:=j1.keep (rB Ad.rel.mu sm) (Ad.kept sm) (vq sm);have BU:=Ad.same sm;have VB:H2 a=some (.lst xs):=sm a _ q;have r2:=r.same sm;refine⟨a,xs,w,rfl,rfl,VB,by rw[←r.length];exact hl,?_⟩;have aA:A1 a:=BU.inA (K3.sub a WG);have hb:∀b,b≠a->bV H2 a (.lst (xs++[w])) b=H2 b:=λb nb=>by unfold bV;rw[hV nb]
 have g:yv A1 A1 H2 (bV H2 a (.lst (xs++[w]))):=⟨BU.rel.mu,λb o nb e=>by rw[hb b (λz=>nb (z▸aA))];exact e,λb z=>.inl z⟩;obtain⟨L4,d4,n4,z1,z3,z2⟩:=K3.put _ A1 (.lst (us++[y])) [a] g (λb pZ nb=>hb b λz=>nb (by rw[z];exact WG))
  ⟨a,_,_,rfl,rfl,rfl,ba,by rw[WN];exact hl,(r2.snoc rw1).re g.mu g.ex g.nw⟩ (XX _ _) (λb hb=>hb) (λb hb=>.inl hb)
 have il:i<ρ.length:=by
  have:=BU.rel.len;rw[X4] at this;rw[this];exact (WL.mp BU.at_).1
 refine f A1 σ _ _ v L4 (BU.put g (λb z=>z) (λb nb ne=>hb b λz=>nb (z3 b (by rw[z];exact WG))) n4 z1 (λb pZ=>?_) (λb pZ=>?_) (λb z=>.inl z) d4 (List.set_set _)) (Zj il)
 ·rcases z2 b pZ with x|x
  ·rw[WU] at x;rw[x];exact .inl (K3.sub a WG)
  ·exact .inl x
 ·rcases z2 b pZ with x|x
  ·rw[WU] at x;rw[x];exact aA
  ·exact BU.inA x⟩
end
end L2
noncomputable section
namespace Hc
open PySem L2
noncomputable abbrev lj:Gm:=⟨[false,false,false],false,λ_=>False⟩
noncomputable def d7:Ev->SR:=(aR (bB 0 (i0 wH (ag (af 0) aq)))
 (aR (bB 1 (i0 wH (ag (af 1) aq)))
 (aR (fR (gB (aZ (kD not) (af 1) (gC (.int 0))))
 (aR (bB 2 (aZ o9 (af 0) (af 1)))
 (aR (bB 0 (af 1))
 (bB 1 (af 2)))) 1000000000000)
 (cE (af 0)))))
noncomputable def bb:List U->R U:=fc .S 3 d7
noncomputable abbrev IS:Gm:=⟨[false,false,false],false,λ_=>False⟩
noncomputable def vv:Ev->SR:=(aR (bB 2 (kz 2 bb (ag (af 0) (ag (af 1) aq))))
 (aR (wA (gB (aZ OW (af 1) (gC (.int 0)))) (bB 2 (QL HQ (af 2))) fH)
 (cE (c9 (ag (aZ iQ (af 0) (af 2)) (ag (aZ iQ (af 1) (af 2)) aq))))))
noncomputable def kj:List U->R U:=fc .S 3 vv
noncomputable abbrev pd:Gm:=⟨[false,false,false],false,λ_=>False⟩
noncomputable def fj:Ev->SR:=(bB 1 (aZ iQ (aZ d_ (af 1) (aZ kJ (af 2) (gC (.int 1)))) (kz 2 bb (ag (af 1) (ag (aZ kJ (af 2) (gC (.int 1))) aq)))))
noncomputable def fW:Ev->SR:=(aR (bB 1 (gC (.int 1)))
 (aR (m9 (dO (af 0)) (bH 2)
 fj)
 (cE (af 1))))
noncomputable def cq:List U->R U:=fc .S 3 fW
noncomputable abbrev zO:Gm:=⟨[false,false],false,λ_=>False⟩
noncomputable def lq:Ev->SR:=(cE (i0 fS (ag (jG (dO (af 1)) [none,some 0] (bH 0) c8 (aZ kJ (af 1) (af 0))) aq)))
noncomputable def gK:List U->R U:=fc .S 2 lq
noncomputable abbrev C3:Gm:=⟨[false,true,false],false,λ_=>False⟩
noncomputable def nB:Ev->SR:=(aR (bB 1 Me)
 (aR (m9 (dO (af 0)) (bH 2)
 (jN 1 (aZ cy (jM 1 (af 2) (gC (.int 0))) (gC (.int 1))) (af 2)))
 (cE (af 1))))
noncomputable def iT:List U->R U:=fc .O 3 nB
noncomputable abbrev F2:Gm:=⟨[false,false,true,false,false,false,false,false],false,λ_=>False⟩
noncomputable def nC:Ev->SR:=(aR (bB 7 (kz 2 gK (ag (af 5) (ag (af 3) aq))))
 (jN 2 (aZ cy (jM 2 (af 7) (gC (.int 0))) (aZ d_ (af 6) (af 4))) (af 7)))
noncomputable def km:Ev->SR:=(m9 (QZ (af 0)) (cD 2 (aE (bH 5) (aE (bH 6) cC)))
 nC)
noncomputable def rD:Ev->SR:=(aR (bB 2 Me)
 (aR (m9 (QZ (kz 1 iT (ag (af 1) aq))) (cD 2 (aE (bH 3) (aE (bH 4) cC)))
 km)
 (cE (af 2))))
noncomputable def jV:List U->R U:=fc .O 8 rD
noncomputable abbrev zP:Gm:=⟨[false,false,false,true,false,false,false],false,λ_=>False⟩
noncomputable def fK:Ev->SR:=(jN 3 (aZ d_ (aZ kJ (af 5) (gC (.int 0))) (aZ iQ (af 2) (aZ kJ (af 5) (gC (.int 1))))) (af 4))
noncomputable def lr:Ev->SR:=(aR (bB 2 (kz 1 cq (ag (jG (dO (af 0)) [none,none] (cD 2 (aE (bH 0) (aE (bH 1) cC))) c8 (af 1)) aq)))
 (aR (bB 3 Me)
 (aR (m9 (dO (af 0)) (cD 2 (aE (bH 4) (aE (bH 5) cC)))
 fK)
 (xb 3 (aR (bB 6 (kz 2 jV (ag (af 3) (ag (af 1) aq))))
 (cE (jG (dO (i0 kO (ag (af 6) aq))) [none,some 6,some 2,some 1] (bH 0) c8 (c9 (ag (af 0) (ag (kz 2 kj (ag (aZ o_ (af 1) (af 0)) (ag (aZ d_ (af 2) (i0 jK (ag (af 3) aq))) aq))) aq))))))))))
noncomputable def fm:List U->R U:=fc .O 7 lr
noncomputable abbrev rE:Gm:=⟨[false,false],false,λ_=>False⟩
noncomputable def eQ:Ev->SR:=(aR (wA (gB (aZ OW (af 1) (i0 jK (ag (af 0) aq)))) (cE (aZ kJ (af 0) (af 1))) fH)
 (cE (gC (.int 0))))
noncomputable def cH:List U->R U:=fc .S 2 eQ
noncomputable abbrev vx:Gm:=⟨[false,false,false],false,λ_=>False⟩
noncomputable def f9:Ev->SR:=(aR (bB 2 (kz 2 cH (ag (af 0) (ag (af 1) aq))))
 (aR (wA (gB (aZ RY (af 2) (aZ HP (gC (.int 10)) (gC (.int 18))))) (cE (l5 (ag (aZ Cm (af 2) (aZ HP (gC (.int 10)) (gC (.int 18)))) (ag (gC (.bl true)) aq)))) fH)
 (cE (l5 (ag (aZ o9 (af 2) (gC (.int 2147483647))) (ag (gC (.bl false)) aq))))))
noncomputable def eR:List U->R U:=fc .O 3 f9
noncomputable abbrev xF:Gm:=⟨[true,false,false,false],true,λ_=>False⟩
noncomputable def iy:Ev->SR:=(aR (wA (gB (aZ kJ (af 0) (gC (.int 1)))) (aR (bB 2 (aZ o9 (aZ kJ (af 0) (gC (.int 0))) (af 1)))
 (aR (Ay 0 (aZ iQ (aZ kJ (af 0) (gC (.int 0))) (af 1)) (gC (.int 0)))
 (cE (af 2)))) fH)
 (aR (Ay 0 (aZ o9 (aZ cy (aZ d_ (aZ kJ (af 0) (gC (.int 0))) (gC (.int 48271))) (gC (.int 29))) (gC (.int 2147483647))) (gC (.int 0)))
 (aR (bB 3 (aZ o9 (aZ cy (aZ cy (aZ d_ (aZ kJ (af 0) (gC (.int 0))) (aZ kJ (af 0) (gC (.int 0)))) (aZ d_ (gC (.int 39373)) (aZ kJ (af 0) (gC (.int 0))))) (gC (.int 7))) (gC (.int 2147483629))))
 (aR (bB 3 (aZ o9 (aZ cy (aZ d_ (af 3) (af 3)) (aZ d_ (gC (.int 16807)) (af 3))) (gC (.int 2147483587))))
 (cE (aZ o9 (aZ iQ (af 3) (gC (.int 8))) (af 1)))))))
noncomputable def aw:List U->R (U×U):=wC 4 iy
noncomputable abbrev jd:Gm:=⟨[true,false,true],true,λ_=>False⟩
noncomputable def je:Ev->SR:=(aR (bB 2 (Er (ag (af 1) aq)))
 (cE (i0 fS (ag (uN jd (gE (ag (af 1) aq)) [none,some 2,some 0] (bH 0) c8 (gM "list" 1 nj (ag (oZ 2 2 aw (ag (i0 jK (ag (af 1) aq)) aq)) aq))) aq))))
noncomputable def cR:List U->R (U×U):=wC 3 je
noncomputable abbrev gL:Gm:=⟨[true,false,false,false,false,false,false,false,false,true],true,λ_=>False⟩
noncomputable def bW:Ev->SR:=(aR (bB 2 (Es (ag (af 1) aq)))
 (aR (bB 3 (oZ 2 0 aw (ag (gC (.int 6)) aq)))
 (aR (wA (gB (aZ (kD id) (af 3) (gC (.int 0)))) (cE (i0 fS (ag (jG (gE (ag (af 1) aq)) [none,some 2] (bH 0) c8 (aZ cy (qo nU (af 1) (cV (af 0)) dG) (qo nU (af 1) dG (cV (af 0))))) aq))) fH)
 (aR (wA (gB (aZ (kD id) (af 3) (gC (.int 1)))) (aR (bB 4 (oZ 2 0 cR (ag (af 1) aq)))
 (cE (c9 (ag (af 2) (ag (af 4) aq))))) fH)
 (aR (wA (gB (aZ (kD id) (af 3) (gC (.int 2)))) (aR (bB 5 (aZ iQ (af 1) (gC (.int 2))))
 (cE (c9 (ag (af 2) (ag (aZ cy (aZ cy (qo nU (af 2) (cV (af 5)) (cV (aZ d_ (gC (.int 2)) (af 5)))) (qo nU (af 2) dG (cV (af 5)))) (qo nU (af 2) (cV (aZ d_ (gC (.int 2)) (af 5))) dG)) aq))))) fH)
 (aR (wA (gB (aZ (kD id) (af 3) (gC (.int 3)))) (aR (bB 6 (l5 (ag (c9 aq) aq)))
 (aR (bB 7 (i0 wI (ag (af 1) (ag (aZ cy (gC (.int 2)) (oZ 2 0 aw (ag (gC (.int 3)) aq))) aq))))
 (aR (m9 (gE (ag (af 7) aq)) (bH 8)
 (aR (bB 9 (l5 aq))
 (aR (m9 (dO (af 6)) (bH 4)
 (qr (gM "list" 9 i9 (ag (jG (gE (ag (aZ cy (af 8) (gC (.int 1))) aq)) [none,some 4,some 8] (bH 0) c8 (aZ cy (aZ cy (qo nU (af 1) dG (cV (af 0))) (c9 (ag (af 2) aq))) (qo nU (af 1) (cV (af 0)) dG))) aq))))
 (wz 6 9))))
 (cE (i0 fS (ag (jG (dO (af 6)) [none,some 2,some 7] (bH 0) c8 (aZ cy (af 0) (qo nU (af 1) (cV (af 2)) dG))) aq)))))) fH)
 (cE (i0 fS (ag (uN gL (gE (ag (aZ cy (gC (.int 1)) (oZ 2 0 aw (ag (gC (.int 4)) aq))) aq)) [none,some 0,some 1] (bH 0) c8 (oZ 2 1 cR (ag (af 2) aq))) aq)))))))))
noncomputable def aI:List U->R (U×U):=wC 10 bW
noncomputable abbrev rF:Gm:=⟨[false,false],false,λ_=>False⟩
noncomputable def gN:Ev->SR:=(aR (bB 0 (i0 wH (ag (af 0) aq)))
 (aR (bB 1 (i0 wH (ag (af 1) aq)))
 (aR (fR (gB (aZ QO (af 1) (gC (.int 0))))
 (HH 0 1 (ag (af 1) (ag (aZ o9 (af 0) (af 1)) aq))) 1000000000000)
 (cE (af 0)))))
noncomputable def de:List U->R U:=fc .S 2 gN
noncomputable abbrev vy:Gm:=⟨[false,false,false],false,λ_=>False⟩
noncomputable def jf:Ev->SR:=(aR (bB 2 (kz 2 de (ag (af 0) (ag (af 1) aq))))
 (cE (c9 (ag (aZ iQ (af 0) (af 2)) (ag (aZ iQ (af 1) (af 2)) aq)))))
noncomputable def cw:List U->R U:=fc .S 3 jf
noncomputable abbrev vz:Gm:=⟨[false,false,false,false],false,λ_=>False⟩
noncomputable def fz:Ev->SR:=(bB 1 (kz 2 cw (ag (aZ cy (aZ d_ (aZ kJ (af 1) (gC (.int 0))) (af 3)) (aZ d_ (af 2) (aZ kJ (af 1) (gC (.int 1))))) (ag (aZ d_ (aZ kJ (af 1) (gC (.int 1))) (af 3)) aq))))
noncomputable def jg:Ev->SR:=(aR (bB 1 (c9 (ag (gC (.int 0)) (ag (gC (.int 1)) aq))))
 (aR (m9 (dO (af 0)) (cD 2 (aE (bH 2) (aE (bH 3) cC)))
 fz)
 (cE (af 1))))
noncomputable def cS:List U->R U:=fc .S 4 jg
noncomputable abbrev fo:Gm:=⟨[true,false,false],true,λ_=>False⟩
noncomputable def jh:Ev->SR:=(aR (bB 2 (oZ 2 0 aw (ag (gC (.int 4)) aq)))
 (aR (wA (gB (aZ OW (af 2) (gC (.int 2)))) (cE (i0 fS (ag (uN fo (gE (ag (af 1) aq)) [none,some 0] (bH 0) c8 (oZ 2 1 aw (ag (gC (.int 2)) aq))) aq))) fH)
 (cE (i0 fS (ag (uN fo (gE (ag (af 1) aq)) [none,some 0,some 2] (bH 0) c8 (oZ 2 1 aw (ag (aZ kJ (l5 (ag (gC (.int 3)) (ag (gC (.int 10)) aq))) (aZ Cm (af 2) (gC (.int 2)))) aq))) aq)))))
noncomputable def df:List U->R (U×U):=wC 3 jh
noncomputable abbrev xG:Gm:=⟨[false,false],false,λ_=>False⟩
noncomputable def jW:Ev->SR:=(cE (i0 fS (ag (jG (dO (af 1)) [none,some 0] (bH 0) c8 (aZ kJ (af 1) (af 0))) aq)))
noncomputable def dg:List U->R U:=fc .S 2 jW
noncomputable abbrev oK:Gm:=⟨[false,false],false,λ_=>False⟩
noncomputable def bG:Nat->Ev->SR
 |0=>λ_=>.stk
 |n+1=>let r__law_same:=fc .S 2 (bG n)
  (aR (wA (gB (zk "tuple" "list" (af 1))) (aR (wA (OQ (gB (aZ (kD not) (nV "tuple" (af 0)) (nV "tuple" (af 1)))) (gB (aZ (kD not) (nV "list" (af 0)) (nV "list" (af 1))))) (cE (gC (.bl false))) fH)
 (aR (wA (gB (aZ (kD not) (i0 jK (ag (af 0) aq)) (i0 jK (ag (af 1) aq)))) (cE (gC (.bl false))) fH)
 (cE (i0 Ep (ag (jG (EO (ag (af 0) (ag (af 1) aq))) [none,none] (cD 2 (aE (bH 0) (aE (bH 1) cC))) c8 (kz 2 r__law_same (ag (af 0) (ag (af 1) aq)))) aq))))) fH)
 (cE (LO (aZ (kD id) (af 0) (af 1)) (aZ (kD id) (nV "bool" (af 0)) (nV "bool" (af 1))))))
noncomputable def bf (n:Nat):List U->R U:=fc .S 2 (bG n)
noncomputable abbrev gO:Gm:=⟨[true,false,false,false],true,λ_=>False⟩
noncomputable def lu:Ev->SR:=(aR (bB 2 (i0 iS (ag (uN gO (gE (ag (aZ cy (gC (.int 1)) (oZ 2 0 aw (ag (gC (.int 4)) aq))) aq)) [none,some 0,some 1] (bH 0) c8 (oZ 2 1 df (ag (af 2) aq))) aq)))
 (aR (bB 3 (uN gO (dO (af 2)) [none,some 0] (bH 0) c8 (aZ cy (gC (.int 1)) (oZ 2 1 aw (ag (gC (.int 9)) aq)))))
 (cE (jG (EO (ag (af 2) (ag (af 3) aq))) [none,none,some 3] (cD 2 (aE (bH 0) (aE (bH 1) cC))) c8 (c9 (ag (af 0) (ag (kz 2 cw (ag (af 1) (ag (i0 uc (ag (af 2) aq)) aq))) aq)))))))
noncomputable def ji:List U->R (U×U):=wC 4 lu
noncomputable abbrev zQ:Gm:=⟨[false,false,true,false,false,false],false,λ_=>False⟩
noncomputable def lx:Ev->SR:=(aR (bB 2 Me)
 (aR (uf 2 (iw 2 (dO (af 0)) (cD 2 (aE (bH 3) (aE (bH 4) cC)))
 (iw 2 (dO (af 1)) (bH 5)
 (F1 2 (rC 2 (xE 0) (oJ 2) (kz 2 dg (ag (af 3) (ag (af 5) aq)))) (c9 (ag (aZ kJ (af 4) (gC (.int 0))) (ag (aZ d_ (aZ kJ (af 4) (gC (.int 1))) (i0 jK (ag (af 1) aq))) aq)))))))
 (xb 2 (cE (jG (dO (i0 kO (ag (af 2) aq))) [none,some 2] (bH 0) c8 (c9 (ag (af 0) (ag (kz 1 cS (ag (aZ o_ (af 1) (af 0)) aq)) aq))))))))
noncomputable def fq:List U->R U:=fc .O 6 lx
noncomputable abbrev PU:Gm:=⟨[false,false,true,false,false,false,false,false,true,false],false,λ_=>False⟩
noncomputable def vA:Ev->SR:=(aR (bB 2 (kz 2 eR (ag (af 0) (ag (af 1) aq))))
 (aR (bB 3 (aZ cy (gC (.int 1)) (oZ 2 2 aw (ag (gC (.int 8)) aq))))
 (aR (bB 4 (oZ 2 2 ji (ag (af 3) aq)))
 (aR (bB 5 (oZ 2 2 aI (ag (af 3) aq)))
 (aR (bB 6 (i0 tm (ag (af 4) aq)))
 (aR (bB 7 (kz 2 fq (ag (af 4) (ag (af 5) aq))))
 (aR (bB 8 (kz 2 fm (ag (af 6) (ag (af 5) aq))))
 (aR (wA (OQ (D9 (gB (kz 2 (bf 6) (ag (af 8) (ag (af 7) aq))))) (gB (aZ (QP not) (af 6) (af 4)))) (cE (gC (.bl false))) fH)
 (aR (bB 9 (oZ 2 2 aI (ag (af 3) aq)))
 (aR (wA (D9 (gB (kz 2 (bf 6) (ag (kz 2 fm (ag (af 8) (ag (af 9) aq))) (ag (kz 2 fq (ag (af 7) (ag (af 9) aq))) aq))))) (cE (gC (.bl false))) fH)
 (aR (qr (gM "list" 8 qz aq))
 (wA (D9 (gB (kz 2 (bf 6) (ag (kz 2 fm (ag (af 6) (ag (af 5) aq))) (ag (af 7) aq))))) (cE (gC (.bl false))) fH))))))))))))
noncomputable def F3:Ev->SR:=(aR (m9 (gE (ag (i0 AF (ag (gC (.int 1)) (ag (i0 wI (ag (i0 jK (ag (af 0) aq)) (ag (gC (.int 3)) aq))) aq))) aq)) (bH 1)
 vA)
 (cE (gC (.bl true))))
noncomputable def xH:List U->R U:=fc .S 10 F3
end Hc
end
namespace Hc
open L2
noncomputable def top (i:Nat):abM:=PySem.Challenge.pw_hushcards_k12_mixes_shuffled.main.body.getD i (.Pass ⟨0,0,0,0⟩)
noncomputable abbrev bU:abM:=top 1
noncomputable abbrev nD:abM:=top 2
noncomputable abbrev cZ:abM:=top 3
noncomputable abbrev gP:abM:=top 5
noncomputable abbrev iU:abM:=top 7
noncomputable abbrev kn:abM:=top 8
noncomputable abbrev ez:abM:=top 9
noncomputable abbrev ft:abM:=top 11
noncomputable abbrev gq:abM:=top 12
noncomputable abbrev iV:abM:=top 13
noncomputable abbrev fu:abM:=top 14
noncomputable abbrev bS:abM:=top 15
noncomputable abbrev eA:abM:=top 16
noncomputable abbrev gr:abM:=top 17
noncomputable abbrev gu:abM:=top 18
noncomputable abbrev iz:abM:=top 19
noncomputable abbrev gQ:abM:=top 20
noncomputable abbrev fL:abM:=top 21
noncomputable abbrev gb:abM:=top 22
noncomputable abbrev jj:abM:=top 23
noncomputable abbrev xI:abM:=top 24
abbrev Bd (x:Str)(ps:List Str)(s:abM):Prop:=∀(kV mT pm:WM) (an:Option W7) (c7 ct:WM) (us:List WM),us.length=ps.length->bindArgs (YR x x (eJ s) (bZ s) (ai s) .none kV mT pm an c7 ct) ⟨us,[]⟩=pure (ps.zip us)
theorem sD {P:List Str}{sc:Scope}(a:sc.kind=.function:=by rfl)(b:sc.isCoroutine=false:=by rfl)(c:sc.isGenerator=false:=by rfl)(d:N.Nodup:=by decide+kernel)(e:N.take P.length=P:=by rfl)(f:∀x∈P,sc.names.lookup x=some .local\/sc.names.lookup x=some .cell:=by decide+kernel)(g:∀y∈sc.names,y.2≠.free:=by decide+kernel):aW N P sc:=⟨a,b,c,d,e,f,g⟩
theorem rm {A:XD}(r:eG k A)(h:j<=k:=by first|decide|lia):eG j A:=r.mono h
theorem br:aW ["one","other","rest"] ["one","other"] (ai bU):=sD
theorem kE:Bd "greatest_divisor" ["one","other"] bU:=λ_ _ _ _ _ _ us hl=>match us,hl with|[_,_],_=>rfl
theorem rG:aW ["top","bottom","divisor"] ["top","bottom"] (ai nD):=sD
theorem F4:Bd "ratio" ["top","bottom"] nD:=λ_ _ _ _ _ _ us hl=>match us,hl with|[_,_],_=>rfl
theorem dC:aW ["some","bottom","fraction"] ["some"] (ai cZ):=sD
theorem nE:Bd "common_bottom" ["some"] cZ:=λ_ _ _ _ _ _ us hl=>match us,hl with|[_],_=>rfl
theorem xJ:aW ["row","places"] ["row","places"] (ai gP):=sD
theorem xK:Bd "cards_at" ["row","places"] gP:=λ_ _ _ _ _ _ us hl=>match us,hl with|[_,_],_=>rfl
theorem lA:aW ["shuffle","often","order"] ["shuffle"] (ai iU):=sD
theorem zS:Bd "counted" ["shuffle"] iU:=λ_ _ _ _ _ _ us hl=>match us,hl with|[_],_=>rfl
theorem fw:aW ["weights","shuffle","gathered","order","often","row","weight","changed"] ["weights","shuffle"] (ai kn):=sD
theorem C4:Bd "spread" ["weights","shuffle"] kn:=λ_ _ _ _ _ _ us hl=>match us,hl with|[_,_],_=>rfl
theorem eB:aW ["mix","shuffle","bottom","weights","row","chance","gathered"] ["mix","shuffle"] (ai ez):=sD
theorem xM:Bd "shuffled" ["mix","shuffle"] ez:=λ_ _ _ _ _ _ us hl=>match us,hl with|[_,_],_=>rfl
theorem pf:aW ["script","k"] ["script","k"] (ai ft):=sD
theorem ph:Bd "_law_cell_at" ["script","k"] ft:=λ_ _ _ _ _ _ us hl=>match us,hl with|[_,_],_=>rfl
theorem kP:aW ["script","k","cell"] ["script","k"] (ai gq):=sD
theorem sE:Bd "_law_state" ["script","k"] gq:=λ_ _ _ _ _ _ us hl=>match us,hl with|[_,_],_=>rfl
theorem gc:aW ["state","many","found","mixed"] ["state","many"] (ai iV):=sD
theorem vB:Bd "_law_take" ["state","many"] iV:=λ_ _ _ _ _ _ us hl=>match us,hl with|[_,_],_=>rfl
theorem kQ:aW ["state","many","left"] ["state","many"] (ai fu):=sD
theorem sF:Bd "_law_order" ["state","many"] fu:=λ_ _ _ _ _ _ us hl=>match us,hl with|[_,_],_=>rfl
theorem aT:aW ["state","many","stays","way","order","half","some","size","k","longer"] ["state","many"] (ai bS):=sD
theorem pj:Bd "_law_shuffle" ["state","many"] bS:=λ_ _ _ _ _ _ us hl=>match us,hl with|[_,_],_=>rfl
theorem dU:aW ["one","other"] ["one","other"] (ai eA):=sD
theorem pq:Bd "_law_divisor" ["one","other"] eA:=λ_ _ _ _ _ _ us hl=>match us,hl with|[_,_],_=>rfl
theorem kR:aW ["top","bottom","by"] ["top","bottom"] (ai gr):=sD
theorem sG:Bd "_law_ratio" ["top","bottom"] gr:=λ_ _ _ _ _ _ us hl=>match us,hl with|[_,_],_=>rfl
theorem dQ:aW ["some","found","top","bottom"] ["some"] (ai gu):=sD
theorem sH:Bd "_law_total" ["some"] gu:=λ_ _ _ _ _ _ us hl=>match us,hl with|[_],_=>rfl
theorem oM:aW ["state","many","way"] ["state","many"] (ai iz):=sD
theorem xN:Bd "_law_row" ["state","many"] iz:=λ_ _ _ _ _ _ us hl=>match us,hl with|[_,_],_=>rfl
theorem vC:aW ["row","order"] ["row","order"] (ai gQ):=sD
theorem vD:Bd "_law_laid" ["row","order"] gQ:=λ_ _ _ _ _ _ us hl=>match us,hl with|[_,_],_=>rfl
theorem mG:aW ["found","due"] ["found","due"] (ai fL):=sD
theorem mH:Bd "_law_same" ["found","due"] fL:=λ_ _ _ _ _ _ us hl=>match us,hl with|[_,_],_=>rfl
theorem jX:aW ["state","many","rows","weights"] ["state","many"] (ai gb):=sD
theorem xO:Bd "_law_mix" ["state","many"] gb:=λ_ _ _ _ _ _ us hl=>match us,hl with|[_,_],_=>rfl
theorem fM:aW ["mix","shuffle","ends","row","chance","order"] ["mix","shuffle"] (ai jj):=sD
theorem xP:Bd "_law_due" ["mix","shuffle"] jj:=λ_ _ _ _ _ _ us hl=>match us,hl with|[_,_],_=>rfl
theorem iJ:aW ["script","k","state","many","mix","shuffle","handed","due","found","more"] ["script"] (ai xI):=sD
structure r9 (mg:Str->Option WM):Prop where
 znq:mg "abs"=none
 zlq:mg "all"=none
 zeq:mg "bool"=none
 zaq:mg "isinstance"=none
 zhq:mg "len"=none
 zfq:mg "list"=none
 zkq:mg "max"=none
 zjq:mg "min"=none
 zcq:mg "range"=none
 ziq:mg "set"=none
 zbq:mg "sorted"=none
 zgq:mg "sum"=none
 zdq:mg "tuple"=none
 zmq:mg "zip"=none
end Hc
namespace Hc
open L2
section
variable {base:ZG}
theorem kF (T:r9 mg)  (bY:Df K mg "greatest_divisor" bU):Fn P w K mg base "greatest_divisor" 1 ["one","other"] (jD K 2 bb .S):=by
 refine Df.fnD (N:=["one","other","rest"]) (ps:=["one","other"]) (st:=bU) (k:=0) lj .S d7 bY br kE rfl (by decide) ?_;intro f c7 A outer s0 H E hr;have hu:=hr.units;have mR:=dF hr;exact (ah (aX (i:=0) br.nd (bx lR pO (by rfl) T.znq uF (ae (ak 0) aj)))
 (ah (aX (i:=1) br.nd (bx lR pO (by rfl) T.znq uF (ae (ak 1) aj)))
 (ah (wB Yb (eL Ak pV (ak 1) au (dI _))
 (ah (aX (i:=2) br.nd (aP jz ir (ak 0) (ak 1)))
 (ah (aX (i:=0) br.nd (ak 1))
 (aB (aX (i:=1) br.nd (ak 2))))))
 (aB (bq (ak 0))))))
theorem F5 (T:r9 mg)(bC:Fn P w K mg base "greatest_divisor" 1 ["one","other"] (jD K 2 bb .S))(mS:Df K mg "ratio" nD):Fn P w K mg base "ratio" 2 ["top","bottom"] (jD K 2 kj .S):=by
 refine Df.fnD (N:=["top","bottom","divisor"]) (ps:=["top","bottom"]) (st:=nD) (k:=1) IS .S vv mS rG F4 rfl (by decide) ?_;intro f c7 A outer s0 H E hr;have hu:=hr.units;have mR:=dF hr;exact (ah (aX (i:=2) rG.nd (aY bC (rm hr) (ae (ak 0) (ae (ak 1) aj))))
 (ah (gD (eL Dv y_ (ak 1) au (dI _)) (aB (aX (i:=2) rG.nd (OS Lo HU (ak 2)))) cP)
 (aB (bq (gA (ae (aP dw eN (ak 0) (ak 2)) (ae (aP dw eN (ak 1) (ak 2)) aj)))))))
theorem nF (T:r9 mg)(bC:Fn P w K mg base "greatest_divisor" 1 ["one","other"] (jD K 2 bb .S))(cY:Df K mg "common_bottom" cZ):Fn P w K mg base "common_bottom" 2 ["some"] (jD K 1 cq .S):=by
 refine Df.fnD (N:=["some","bottom","fraction"]) (ps:=["some"]) (st:=cZ) (k:=1) pd .S fW cY dC nE rfl (by decide) ?_;intro f c7 A outer s0 H E hr;have hu:=hr.units;have mR:=dF hr;exact (ah (aX (i:=1) dC.nd au)
 (ah (i5 Yb rfl (eM (ak 0)) (aL (i:=2) dC.nd)
 (aB (aX (i:=1) dC.nd (aP dw eN (aP dW cQ (ak 1) (d9 cB cG (ak 2) au (λ_ _=>rfl))) (aY bC (rm hr) (ae (ak 1) (ae (d9 cB cG (ak 2) au (λ_ _=>rfl)) aj)))))))
 (aB (bq (ak 1)))))
theorem xQ (T:r9 mg)  (gU:Df K mg "cards_at" gP):Fn P w K mg base "cards_at" 1 ["row","places"] (jD K 2 gK .S):=by
 refine Df.fnD (N:=["row","places"]) (ps:=["row","places"]) (st:=gP) (k:=0) zO .S lq gU xJ xK rfl (by decide) ?_;intro f c7 A outer s0 H E hr;have hu:=hr.units;have mR:=dF hr;exact (aB (bq (dz bP eh (by rfl) T.zdq cU (ae (iD (ai gP) ["row","places"] ["place","row"] [none,some 0] rfl (eM (ak 1)) (λY=>⟨(aL (i:=0) (show (["place","row"]:List Str).Nodup by decide+kernel)),bL,(d9 cB cG (ak 1) (ak 0) (λ_ _=>rfl))⟩)) aj))))
theorem zT (T:r9 mg)  (iX:Df K mg "counted" iU):Fn P w K mg base "counted" 1 ["shuffle"] (jD K 1 iT .O):=by
 refine Df.fnD (N:=["shuffle","often","order"]) (ps:=["shuffle"]) (st:=iU) (k:=0) C3 .O nB iX lA zS rfl (by decide) ?_;intro f c7 A outer s0 H E hr;have hu:=hr.units;have mR:=dF hr;exact (ah (ik (i:=1) lA.nd md)
 (ah (i5 Yb rfl (eM (ak 0)) (aL (i:=2) lA.nd)
 (aB (uR (j:=1) hu (aP bN bO (wR (j:=1) hu (ak 2) au) au) (ak 2))))
 (aB (Au (i:=1) (hi:=by decide)))))
theorem C5 (T:r9 mg)(lH:Fn P w K mg base "cards_at" 1 ["row","places"] (jD K 2 gK .S))(nK:Fn P w K mg base "counted" 1 ["shuffle"] (jD K 1 iT .O))(j2:Df K mg "spread" kn):Fn P w K mg base "spread" 2 ["weights","shuffle"] (jD K 2 jV .O):=by
 refine Df.fnD (N:=["weights","shuffle","gathered","order","often","row","weight","changed"]) (ps:=["weights","shuffle"]) (st:=kn) (k:=1) F2 .O rD j2 fw C4 rfl (by decide) ?_;intro f c7 A outer s0 H E hr;have hu:=hr.units;have mR:=dF hr;exact (ah (ik (i:=2) fw.nd md)
 (ah (i5 Yb rfl (w_ (aY nK (rm hr) (ae (ak 1) aj))) (jE rfl (bK (aL (i:=3) fw.nd) (bK (aL (i:=4) fw.nd) ij)))
 (aB (i5 Yb rfl (w_ (ak 0)) (jE rfl (bK (aL (i:=5) fw.nd) (bK (aL (i:=6) fw.nd) ij)))
 (ah (aX (i:=7) fw.nd (aY lH (rm hr) (ae (ak 5) (ae (ak 3) aj))))
 (aB (uR (j:=2) hu (aP bN bO (wR (j:=2) hu (ak 7) au) (aP dW cQ (ak 6) (ak 4))) (ak 7)))))))
 (aB (Au (i:=2) (hi:=by decide)))))
theorem xR (T:r9 mg)(vS:Fn P w K mg base "ratio" 2 ["top","bottom"] (jD K 2 kj .S))(fX:Fn P w K mg base "common_bottom" 2 ["some"] (jD K 1 cq .S))(rY:Fn P w K mg base "spread" 2 ["weights","shuffle"] (jD K 2 jV .O))(gW:Df K mg "shuffled" ez):Fn P w K mg base "shuffled" 3 ["mix","shuffle"] (jD K 2 fm .O):=by
 refine Df.fnD (N:=["mix","shuffle","bottom","weights","row","chance","gathered"]) (ps:=["mix","shuffle"]) (st:=ez) (k:=2) zP .O lr gW eB xM rfl (by decide) ?_;intro f c7 A outer s0 H E hr;have hu:=hr.units;have mR:=dF hr;exact (ah (aX (i:=2) eB.nd (aY fX (rm hr) (ae (iD (ai ez) ["mix","shuffle","bottom","weights","row","chance","gathered"] ["row","chance"] [none,none] rfl (eM (ak 0)) (λY=>⟨(jE rfl (bK (aL (i:=0) (show (["row","chance"]:List Str).Nodup by decide+kernel)) (bK (aL (i:=1) (show (["row","chance"]:List Str).Nodup by decide+kernel)) ij))),bL,(ak 1)⟩)) aj)))
 (ah (ik (i:=3) eB.nd md)
 (ah (i5 Yb rfl (eM (ak 0)) (jE rfl (bK (aL (i:=4) eB.nd) (bK (aL (i:=5) eB.nd) ij)))
 (aB (uR (j:=3) hu (aP dW cQ (d9 cB cG (ak 5) au (λ_ _=>rfl)) (aP dw eN (ak 2) (d9 cB cG (ak 5) au (λ_ _=>rfl)))) (ak 4))))
 (Be 3 (ah (aX (i:=6) eB.nd (aY rY (rm hr) (ae (ak 3) (ae (ak 1) aj))))
 (aB (pM (iD (ai ez) ["mix","shuffle","bottom","weights","row","chance","gathered"] ["row","gathered","bottom","shuffle"] [none,some 6,some 2,some 1] rfl (eM (bx (t7 rfl hu) xx (by rfl) T.zbq mZ (ae (ak 6) aj))) (λY=>⟨(aL (i:=0) (show (["row","gathered","bottom","shuffle"]:List Str).Nodup by decide+kernel)),bL,(gA (ae (ak 0) (ae (aY vS (rm hr) (ae (EB hu (ak 1) (ak 0)) (ae (aP dW cQ (ak 2) (bx gy i7 (by rfl) T.zhq kW (ae (ak 3) aj))) aj))) aj)))⟩)))))))))
theorem pz (T:r9 mg)  (di:Df K mg "_law_cell_at" ft):Fn P w K mg base "_law_cell_at" 1 ["script","k"] (jD K 2 cH .S):=by
 refine Df.fnD (N:=["script","k"]) (ps:=["script","k"]) (st:=ft) (k:=0) rE .S eQ di pf ph rfl (by decide) ?_;intro f c7 A outer s0 H E hr;have hu:=hr.units;have mR:=dF hr;exact (ah (gD (eL Dv y_ (ak 1) (bx gy i7 (by rfl) T.zhq kW (ae (ak 0) aj)) (dI _)) (aB (bq (d9 cB cG (ak 0) (ak 1) (λ_ _=>rfl)))) cP)
 (aB (bq au)))
theorem sI (T:r9 mg)(gX:Fn P w K mg base "_law_cell_at" 1 ["script","k"] (jD K 2 cH .S))(eW:Df K mg "_law_state" gq):Fn P w K mg base "_law_state" 2 ["script","k"] (jD K 2 eR .O):=by
 refine Df.fnD (N:=["script","k","cell"]) (ps:=["script","k"]) (st:=gq) (k:=1) vx .O f9 eW kP sE rfl (by decide) ?_;intro f c7 A outer s0 H E hr;have hu:=hr.units;have mR:=dF hr;exact (ah (aX (i:=2) kP.nd (aY gX (rm hr) (ae (ak 0) (ae (ak 1) aj))))
 (ah (gD (eL Oi Mc (ak 2) (aP Du AD au au) (dI _)) (aB (pM (qm (ae (aP Dt AB (ak 2) (aP Du AD au au)) (ae nR aj))))) cP)
 (aB (pM (qm (ae (aP jz ir (ak 2) au) (ae nR aj)))))))
theorem vE (T:r9 mg)  (fN:Df K mg "_law_take" iV):Fn P w K mg base "_law_take" 1 ["state","many"] (Ar K 2 aw):=by
 refine Df.fnI (N:=["state","many","found","mixed"]) (ps:=["state","many"]) (st:=iV) (k:=0) xF iy fN gc vB rfl rfl (by decide) ?_;intro f c7 A outer s0 H E hr;have hu:=hr.units;have mR:=dF hr;exact (ah (gD (qj (d9 cB cG (jC 0) au (λ_ _=>rfl))) (ah (aX (i:=2) gc.nd (aP jz ir (d9 cB cG (jC 0) au (λ_ _=>rfl)) (ak 1)))
 (ah (Az (i:=0) (aP dw eN (d9 cB cG (jC 0) au (λ_ _=>rfl)) (ak 1)) au)
 (aB (bq (ak 2))))) cP)
 (ah (Az (i:=0) (aP jz ir (aP bN bO (aP dW cQ (d9 cB cG (jC 0) au (λ_ _=>rfl)) au) au) au) au)
 (ah (aX (i:=3) gc.nd (aP jz ir (aP bN bO (aP bN bO (aP dW cQ (d9 cB cG (jC 0) au (λ_ _=>rfl)) (d9 cB cG (jC 0) au (λ_ _=>rfl))) (aP dW cQ au (d9 cB cG (jC 0) au (λ_ _=>rfl)))) au) au))
 (ah (aX (i:=3) gc.nd (aP jz ir (aP bN bO (aP dW cQ (ak 3) (ak 3)) (aP dW cQ au (ak 3))) au))
 (aB (bq (aP jz ir (aP dw eN (ak 3) au) (ak 1))))))))
theorem sJ (T:r9 mg)(aO:Fn P w K mg base "_law_take" 1 ["state","many"] (Ar K 2 aw))(eX:Df K mg "_law_order" fu):Fn P w K mg base "_law_order" 2 ["state","many"] (Ar K 2 cR):=by
 refine Df.fnI (N:=["state","many","left"]) (ps:=["state","many"]) (st:=fu) (k:=1) jd je eX kQ sF rfl rfl (by decide) ?_;intro f c7 A outer s0 H E hr;have hu:=hr.units;have mR:=dF hr;exact (ah (ik (i:=2) kQ.nd (HW rfl (ae (ak 1) aj) T.zfq T.zcq))
 (aB (bq (dz bP eh (by rfl) T.zdq cU (ae (ng (ai fu) ["state","many","left"] ["k","left","state"] [none,some 2,some 0] rfl (dA (ae (ak 1) aj) T.zcq) (λY=>⟨(aL (i:=0) (show (["k","left","state"]:List Str).Nodup by decide+kernel)),bL,(Ec (i:=1) ZU PySem.F.slot_list_pop PySem.F.type_list_pop DK Cs (ae (bJ (i:=2) aO (rm hr) (ae (bx gy i7 (by rfl) T.zhq kW (ae (jC 1) aj)) aj)) aj))⟩)) aj)))))
theorem pA (T:r9 mg)(aO:Fn P w K mg base "_law_take" 1 ["state","many"] (Ar K 2 aw))(gg:Fn P w K mg base "_law_order" 2 ["state","many"] (Ar K 2 cR))(dk:Df K mg "_law_shuffle" bS):Fn P w K mg base "_law_shuffle" 3 ["state","many"] (Ar K 2 aI):=by
 refine Df.fnI (N:=["state","many","stays","way","order","half","some","size","k","longer"]) (ps:=["state","many"]) (st:=bS) (k:=2) gL bW dk aT pj rfl rfl (by decide) ?_;intro f c7 A outer s0 H E hr;have hu:=hr.units;have mR:=dF hr;exact (ah (aX (i:=2) aT.nd (HX rfl (ae (ak 1) aj) T.zdq T.zcq))
 (ah (aX (i:=3) aT.nd (bJ (i:=0) aO (rm hr) (ae au aj)))
 (ah (gD (eL sR kh (ak 3) au (dI _)) (aB (bq (dz bP eh (by rfl) T.zdq cU (ae (iD (ai bS) ["state","many","stays","way","order","half","some","size","k","longer"] ["k","stays"] [none,some 2] rfl (dA (ae (ak 1) aj) T.zcq) (λY=>⟨(aL (i:=0) (show (["k","stays"]:List Str).Nodup by decide+kernel)),bL,(aP bN bO (fG fI jJ (ak 1) (f6 (ak 0)) i4) (fG fI jJ (ak 1) i4 (f6 (ak 0))))⟩)) aj)))) cP)
 (ah (gD (eL sR kh (ak 3) au (dI _)) (ah (aX (i:=4) aT.nd (bJ (i:=0) gg (rm hr) (ae (ak 1) aj)))
 (aB (bq (gA (ae (ak 2) (ae (ak 4) aj)))))) cP)
 (ah (gD (eL sR kh (ak 3) au (dI _)) (ah (aX (i:=5) aT.nd (aP dw eN (ak 1) au))
 (aB (bq (gA (ae (ak 2) (ae (aP bN bO (aP bN bO (fG fI jJ (ak 2) (f6 (ak 5)) (f6 (aP dW cQ au (ak 5)))) (fG fI jJ (ak 2) i4 (f6 (ak 5)))) (fG fI jJ (ak 2) (f6 (aP dW cQ au (ak 5))) i4)) aj)))))) cP)
 (ah (gD (eL sR kh (ak 3) au (dI _)) (ah (aX (i:=6) aT.nd (qm (ae (gA aj) aj)))
 (ah (aX (i:=7) aT.nd (bx (sS rfl) wJ (by rfl) T.zjq D3 (ae (ak 1) (ae (aP bN bO au (bJ (i:=0) aO (rm hr) (ae au aj))) aj))))
 (ah (i5 Yb rfl (dA (ae (ak 7) aj) T.zcq) (aL (i:=8) aT.nd)
 (ah (ik (i:=9) aT.nd (qm aj))
 (ah (i5 Yb rfl (eM (ak 6)) (aL (i:=4) aT.nd)
 (aB (As (Ec (i:=9) ZU PySem.F.slot_list_extend PySem.F.type_list_extend HY y9 (ae (iD (ai bS) ["state","many","stays","way","order","half","some","size","k","longer"] ["j","order","k"] [none,some 4,some 8] rfl (dA (ae (aP bN bO (ak 8) au) aj) T.zcq) (λY=>⟨(aL (i:=0) (show (["j","order","k"]:List Str).Nodup by decide+kernel)),bL,(aP bN bO (aP bN bO (fG fI jJ (ak 1) i4 (f6 (ak 0))) (gA (ae (ak 2) aj))) (fG fI jJ (ak 1) (f6 (ak 0)) i4))⟩)) aj)))))
 (aB (HG (i:=6) (j:=9) aT.nd)))))
 (aB (bq (dz bP eh (by rfl) T.zdq cU (ae (iD (ai bS) ["state","many","stays","way","order","half","some","size","k","longer"] ["order","stays","size"] [none,some 2,some 7] rfl (eM (ak 6)) (λY=>⟨(aL (i:=0) (show (["order","stays","size"]:List Str).Nodup by decide+kernel)),bL,(aP bN bO (ak 0) (fG fI jJ (ak 1) (f6 (ak 2)) i4))⟩)) aj))))))) cP)
 (aB (bq (dz bP eh (by rfl) T.zdq cU (ae (ng (ai bS) ["state","many","stays","way","order","half","some","size","k","longer"] ["k","state","many"] [none,some 0,some 1] rfl (dA (ae (aP bN bO au (bJ (i:=0) aO (rm hr) (ae au aj))) aj) T.zcq) (λY=>⟨(aL (i:=0) (show (["k","state","many"]:List Str).Nodup by decide+kernel)),bL,(bJ (i:=1) gg (rm hr) (ae (ak 2) aj))⟩)) aj))))))))))
theorem pB (T:r9 mg)  (dq:Df K mg "_law_divisor" eA):Fn P w K mg base "_law_divisor" 1 ["one","other"] (jD K 2 de .S):=by
 refine Df.fnD (N:=["one","other"]) (ps:=["one","other"]) (st:=eA) (k:=0) rF .S gN dq dU pq rfl (by decide) ?_;intro f c7 A outer s0 H E hr;have hu:=hr.units;have mR:=dF hr;exact (ah (aX (i:=0) dU.nd (bx lR pO (by rfl) T.znq uF (ae (ak 0) aj)))
 (ah (aX (i:=1) dU.nd (bx lR pO (by rfl) T.znq uF (ae (ak 1) aj)))
 (ah (wB Yb (eL Oh Mb (ak 1) au (dI _))
 (aB (LW (i:=0) (j:=1) rfl dU.nd (ae (ak 1) (ae (aP jz ir (ak 0) (ak 1)) aj)))))
 (aB (bq (ak 0))))))
theorem sL (T:r9 mg)(gY:Fn P w K mg base "_law_divisor" 1 ["one","other"] (jD K 2 de .S))(eY:Df K mg "_law_ratio" gr):Fn P w K mg base "_law_ratio" 2 ["top","bottom"] (jD K 2 cw .S):=by
 refine Df.fnD (N:=["top","bottom","by"]) (ps:=["top","bottom"]) (st:=gr) (k:=1) vy .S jf eY kR sG rfl (by decide) ?_;intro f c7 A outer s0 H E hr;have hu:=hr.units;have mR:=dF hr;exact (ah (aX (i:=2) kR.nd (aY gY (rm hr) (ae (ak 0) (ae (ak 1) aj))))
 (aB (bq (gA (ae (aP dw eN (ak 0) (ak 2)) (ae (aP dw eN (ak 1) (ak 2)) aj))))))
theorem sM (T:r9 mg)(dD:Fn P w K mg base "_law_ratio" 2 ["top","bottom"] (jD K 2 cw .S))(eZ:Df K mg "_law_total" gu):Fn P w K mg base "_law_total" 3 ["some"] (jD K 1 cS .S):=by
 refine Df.fnD (N:=["some","found","top","bottom"]) (ps:=["some"]) (st:=gu) (k:=2) vz .S jg eZ dQ sH rfl (by decide) ?_;intro f c7 A outer s0 H E hr;have hu:=hr.units;have mR:=dF hr;exact (ah (aX (i:=1) dQ.nd (gA (ae au (ae au aj))))
 (ah (i5 Yb rfl (eM (ak 0)) (jE rfl (bK (aL (i:=2) dQ.nd) (bK (aL (i:=3) dQ.nd) ij)))
 (aB (aX (i:=1) dQ.nd (aY dD (rm hr) (ae (aP bN bO (aP dW cQ (d9 cB cG (ak 1) au (λ_ _=>rfl)) (ak 3)) (aP dW cQ (ak 2) (d9 cB cG (ak 1) au (λ_ _=>rfl)))) (ae (aP dW cQ (d9 cB cG (ak 1) au (λ_ _=>rfl)) (ak 3)) aj))))))
 (aB (bq (ak 1)))))
theorem xS (T:r9 mg)(aO:Fn P w K mg base "_law_take" 1 ["state","many"] (Ar K 2 aw))(gZ:Df K mg "_law_row" iz):Fn P w K mg base "_law_row" 2 ["state","many"] (Ar K 2 df):=by
 refine Df.fnI (N:=["state","many","way"]) (ps:=["state","many"]) (st:=iz) (k:=1) fo jh gZ oM xN rfl rfl (by decide) ?_;intro f c7 A outer s0 H E hr;have hu:=hr.units;have mR:=dF hr;exact (ah (aX (i:=2) oM.nd (bJ (i:=0) aO (rm hr) (ae au aj)))
 (ah (gD (eL Dv y_ (ak 2) au (dI _)) (aB (bq (dz bP eh (by rfl) T.zdq cU (ae (ng (ai iz) ["state","many","way"] ["k","state"] [none,some 0] rfl (dA (ae (ak 1) aj) T.zcq) (λY=>⟨(aL (i:=0) (show (["k","state"]:List Str).Nodup by decide+kernel)),bL,(bJ (i:=1) aO (rm hr) (ae au aj))⟩)) aj)))) cP)
 (aB (bq (dz bP eh (by rfl) T.zdq cU (ae (ng (ai iz) ["state","many","way"] ["k","state","way"] [none,some 0,some 2] rfl (dA (ae (ak 1) aj) T.zcq) (λY=>⟨(aL (i:=0) (show (["k","state","way"]:List Str).Nodup by decide+kernel)),bL,(bJ (i:=1) aO (rm hr) (ae (d9 cB cG (qm (ae au (ae au aj))) (aP Dt AB (ak 2) au) (λ_ _=>rfl)) aj))⟩)) aj))))))
theorem vF (T:r9 mg)  (fO:Df K mg "_law_laid" gQ):Fn P w K mg base "_law_laid" 1 ["row","order"] (jD K 2 dg .S):=by
 refine Df.fnD (N:=["row","order"]) (ps:=["row","order"]) (st:=gQ) (k:=0) xG .S jW fO vC vD rfl (by decide) ?_;intro f c7 A outer s0 H E hr;have hu:=hr.units;have mR:=dF hr;exact (aB (bq (dz bP eh (by rfl) T.zdq cU (ae (iD (ai gQ) ["row","order"] ["place","row"] [none,some 0] rfl (eM (ak 1)) (λY=>⟨(aL (i:=0) (show (["place","row"]:List Str).Nodup by decide+kernel)),bL,(d9 cB cG (ak 1) (ak 0) (λ_ _=>rfl))⟩)) aj))))
theorem vG (T:r9 mg)  (eE:Df K mg "_law_same" fL):∀n,Fn P w K mg base "_law_same" (n+1) ["found","due"] (jD K 2 (bf n) .S):=by
 intro n
 induction n with
 |zero=>
  refine Df.fnD (N:=["found","due"]) (ps:=["found","due"]) (st:=fL) (k:=0) oK .S (bG 0) eE mG mH rfl (by decide) ?_;intro f c7 A outer s0 H E hr;have hu:=hr.units;have mR:=dF hr;exact HZ
 |succ n fP=>
  refine Df.fnD (N:=["found","due"]) (ps:=["found","due"]) (st:=fL) (k:=n+1) oK .S (bG (n+1)) eE mG mH rfl (by decide) ?_;intro f c7 A outer s0 H E hr;have hu:=hr.units;have mR:=dF hr;exact (ah (gD (qj (ET (T1:="tuple") (T2:="list") (by decide) (by decide) (ak 1) T.zaq T.zdq cU T.zfq lZ)) (ah (gD (DW.dt (Jx (eL Ak pV (j8 (T:="tuple") (by decide) (ak 0) T.zaq T.zdq cU) (j8 (T:="tuple") (by decide) (ak 1) T.zaq T.zdq cU) (dI _)) (D_ (eL Ak pV (j8 (T:="list") (by decide) (ak 0) T.zaq T.zfq lZ) (j8 (T:="list") (by decide) (ak 1) T.zaq T.zfq lZ) (dI _))))) (aB (bq nR)) cP)
 (ah (gD (eL Ak pV (bx gy i7 (by rfl) T.zhq kW (ae (ak 0) aj)) (bx gy i7 (by rfl) T.zhq kW (ae (ak 1) aj)) (dI _)) (aB (bq nR)) cP)
 (aB (bq (bx (Ce rfl) HV (by rfl) T.zlq LH (ae (iD (ai fL) ["found","due"] ["one","other"] [none,none] rfl (ES (ae (ak 0) (ae (ak 1) aj)) T.zmq) (λY=>⟨(jE rfl (bK (aL (i:=0) (show (["one","other"]:List Str).Nodup by decide+kernel)) (bK (aL (i:=1) (show (["one","other"]:List Str).Nodup by decide+kernel)) ij))),bL,(aY fP (rm hr) (ae (ak 0) (ae (ak 1) aj)))⟩)) aj)))))) cP)
 (aB (bq (LP (ha:=(D8 sR kh (ak 0) (ak 1) (dI _))) (hb:=(LQ (D8 sR kh (j8 (T:="bool") (by decide) (ak 0) T.zaq T.zeq Aq) (j8 (T:="bool") (by decide) (ak 1) T.zaq T.zeq Aq) (dI _))))))))
theorem xT (T:r9 mg)(aO:Fn P w K mg base "_law_take" 1 ["state","many"] (Ar K 2 aw))(dD:Fn P w K mg base "_law_ratio" 2 ["top","bottom"] (jD K 2 cw .S))(lJ:Fn P w K mg base "_law_row" 2 ["state","many"] (Ar K 2 df))(g7:Df K mg "_law_mix" gb):Fn P w K mg base "_law_mix" 3 ["state","many"] (Ar K 2 ji):=by
 refine Df.fnI (N:=["state","many","rows","weights"]) (ps:=["state","many"]) (st:=gb) (k:=2) gO lu g7 jX xO rfl rfl (by decide) ?_;intro f c7 A outer s0 H E hr;have hu:=hr.units;have mR:=dF hr;exact (ah (aX (i:=2) jX.nd (zN rfl hu (ae (ng (ai gb) ["state","many","rows","weights"] ["k","state","many"] [none,some 0,some 1] rfl (dA (ae (aP bN bO au (bJ (i:=0) aO (rm hr) (ae au aj))) aj) T.zcq) (λY=>⟨(aL (i:=0) (show (["k","state","many"]:List Str).Nodup by decide+kernel)),bL,(bJ (i:=1) lJ (rm hr) (ae (ak 2) aj))⟩)) aj) T.zbq T.ziq))
 (ah (aX (i:=3) jX.nd (ng (ai gb) ["state","many","rows","weights"] ["row","state"] [none,some 0] rfl (eM (ak 2)) (λY=>⟨(aL (i:=0) (show (["row","state"]:List Str).Nodup by decide+kernel)),bL,(aP bN bO au (bJ (i:=1) aO (rm hr) (ae au aj)))⟩)))
 (aB (bq (iD (ai gb) ["state","many","rows","weights"] ["row","weight","weights"] [none,none,some 3] rfl (ES (ae (ak 2) (ae (ak 3) aj)) T.zmq) (λY=>⟨(jE rfl (bK (aL (i:=0) (show (["row","weight","weights"]:List Str).Nodup by decide+kernel)) (bK (aL (i:=1) (show (["row","weight","weights"]:List Str).Nodup by decide+kernel)) ij))),bL,(gA (ae (ak 0) (ae (aY dD (rm hr) (ae (ak 1) (ae (bx (CZ rfl) FX (by rfl) T.zgq LJ (ae (ak 2) aj)) aj))) aj)))⟩))))))
theorem xU (T:r9 mg)(jn:Fn P w K mg base "_law_total" 3 ["some"] (jD K 1 cS .S))(j3:Fn P w K mg base "_law_laid" 1 ["row","order"] (jD K 2 dg .S))(g8:Df K mg "_law_due" jj):Fn P w K mg base "_law_due" 4 ["mix","shuffle"] (jD K 2 fq .O):=by
 refine Df.fnD (N:=["mix","shuffle","ends","row","chance","order"]) (ps:=["mix","shuffle"]) (st:=jj) (k:=3) zQ .O lx g8 fM xP rfl (by decide) ?_;intro f c7 A outer s0 H E hr;have hu:=hr.units;have mR:=dF hr;exact (ah (ik (i:=2) fM.nd md)
 (ah (IL (F0 Yb rfl (eM (ak 0)) (jE rfl (bK (aL (i:=3) fM.nd) (bK (aL (i:=4) fM.nd) ij))) (Bt
 (F0 Yb rfl (eM (ak 1)) (aL (i:=5) fM.nd) (Bt
 (MT (IQ hu (IP 2) (aY j3 (rm hr) (ae (ak 3) (ae (ak 5) aj))) IM) (gA (ae (d9 cB cG (ak 4) au (λ_ _=>rfl)) (ae (aP dW cQ (d9 cB cG (ak 4) au (λ_ _=>rfl)) (bx gy i7 (by rfl) T.zhq kW (ae (ak 1) aj))) aj)))))))))
 (Be 2 (aB (pM (iD (ai jj) ["mix","shuffle","ends","row","chance","order"] ["end","ends"] [none,some 2] rfl (eM (bx (t7 rfl hu) xx (by rfl) T.zbq mZ (ae (ak 2) aj))) (λY=>⟨(aL (i:=0) (show (["end","ends"]:List Str).Nodup by decide+kernel)),bL,(gA (ae (ak 0) (ae (aY jn (rm hr) (ae (EB hu (ak 1) (ak 0)) aj)) aj)))⟩)))))))
theorem MU (T:r9 mg)(FL:GN K "law" "law" xI f fd)(bY:Df K mg "greatest_divisor" bU)(mS:Df K mg "ratio" nD)(cY:Df K mg "common_bottom" cZ)(gU:Df K mg "cards_at" gP)(iX:Df K mg "counted" iU)(j2:Df K mg "spread" kn)(gW:Df K mg "shuffled" ez)(di:Df K mg "_law_cell_at" ft)(eW:Df K mg "_law_state" gq)(fN:Df K mg "_law_take" iV)(eX:Df K mg "_law_order" fu)(dk:Df K mg "_law_shuffle" bS)(dq:Df K mg "_law_divisor" eA)(eY:Df K mg "_law_ratio" gr)(eZ:Df K mg "_law_total" gu)(gZ:Df K mg "_law_row" iz)(fO:Df K mg "_law_laid" gQ)(eE:Df K mg "_law_same" fL)(g7:Df K mg "_law_mix" gb)(g8:Df K mg "_law_due" jj)(hp:∀ns:List Int,ns.length<=63->xH [.scr (ns.map .int)]=.ok (.bl true)):ku P w K mg base v_ 8 f fd ["script"] (wD K):=by
 have bC:=kF (P:=P) (w:=w) (base:=base) T  bY;have vS:=F5 (P:=P) (w:=w) (base:=base) T bC mS;have fX:=nF (P:=P) (w:=w) (base:=base) T bC cY;have lH:=xQ (P:=P) (w:=w) (base:=base) T  gU;have nK:=zT (P:=P) (w:=w) (base:=base) T  iX;have rY:=C5 (P:=P) (w:=w) (base:=base) T lH nK j2;have lK:=xR (P:=P) (w:=w) (base:=base) T vS fX rY gW;have gX:=pz (P:=P) (w:=w) (base:=base) T  di;have vT:=sI (P:=P) (w:=w) (base:=base) T gX eW;have aO:=vE (P:=P) (w:=w) (base:=base) T  fN;have gg:=sJ (P:=P) (w:=w) (base:=base) T aO eX;have j4:=pA (P:=P) (w:=w) (base:=base) T aO gg dk;have gY:=pB (P:=P) (w:=w) (base:=base) T  dq;have dD:=sL (P:=P) (w:=w) (base:=base) T gY eY;have jn:=sM (P:=P) (w:=w) (base:=base) T dD eZ;have lJ:=xS (P:=P) (w:=w) (base:=base) T aO gZ;have j3:=vF (P:=P) (w:=w) (base:=base) T  fO;have fP:=vG (P:=P) (w:=w) (base:=base) T  eE;have Ae:=xT (P:=P) (w:=w) (base:=base) T aO dD lJ g7;have rZ:=xU (P:=P) (w:=w) (base:=base) T jn j3 g8;refine L9 (f:=xH) ?_ hp;refine GN.okD (N:=["script","k","state","many","mix","shuffle","handed","due","found","more"]) (ps:=["script"]) (st:=xI) (k:=7) PU .S F3 FL iJ rfl (by decide) ?_;intro f c7 A outer s0 H E hr;have hu:=hr.units;have mR:=dF hr;exact (ah (i5 Yb rfl (dA (ae (bx (B4 rfl) En (by rfl) T.zkq LG (ae au (ae (bx (sS rfl) wJ (by rfl) T.zjq D3 (ae (bx gy i7 (by rfl) T.zhq kW (ae (ak 0) aj)) (ae au aj))) aj))) aj) T.zcq) (aL (i:=1) iJ.nd)
 (ah (ik (i:=2) iJ.nd (aY vT (rm hr) (ae (ak 0) (ae (ak 1) aj))))
 (ah (aX (i:=3) iJ.nd (aP bN bO au (bJ (i:=2) aO (rm hr) (ae au aj))))
 (ah (aX (i:=4) iJ.nd (bJ (i:=2) Ae (rm hr) (ae (ak 3) aj)))
 (ah (aX (i:=5) iJ.nd (bJ (i:=2) j4 (rm hr) (ae (ak 3) aj)))
 (ah (aX (i:=6) iJ.nd (dz uB Em (by rfl) T.zfq lZ (ae (ak 4) aj)))
 (ah (aX (i:=7) iJ.nd (aY rZ (rm hr) (ae (ak 4) (ae (ak 5) aj))))
 (ah (ik (i:=8) iJ.nd (aY lK (rm hr) (ae (ak 6) (ae (ak 5) aj))))
 (ah (gD (FI 8 (DW.dt (Jx (yR (qj (aY (fP 6) (rm hr) (ae (ak 8) (ae (ak 7) aj))))) (D_ (eL (LF hu) (Ma (f:=not)) (ak 6) (ak 4) (dI _)))))) (aB (bq nR)) cP)
 (ah (aX (i:=9) iJ.nd (bJ (i:=2) j4 (rm hr) (ae (ak 3) aj)))
 (ah (gD (FI 8 (yR (qj (aY (fP 6) (rm hr) (ae (aY lK (rm hr) (ae (ak 8) (ae (ak 9) aj))) (ae (aY rZ (rm hr) (ae (ak 7) (ae (ak 9) aj))) aj)))))) (aB (bq nR)) cP)
 (ah (As (HF (i:=8) ZU PySem.F.slot_list_clear PySem.F.type_list_clear DM Ct))
 (aB (gD (yR (qj (aY (fP 6) (rm hr) (ae (aY lK (rm hr) (ae (ak 6) (ae (ak 5) aj))) (ae (ak 7) aj))))) (aB (bq nR)) cP))))))))))))))
 (aB (bq nR)))
end
inductive rH (K:WH)(x:Str)(st:abM):Prop
 |mk {f:W7} {od an:Option W7} {sl:Array (Option WM)} {oc kV dc pm cd ct:WM}:Yr K XI x=some (some (.ref f))->K.lookup f=some ⟨oc,od,.func (YR x x (eJ st) (bZ st) (ai st) .none kV dc pm an cd ct),sl⟩->acj K cd x=true->ZY K (.ref f)=true->rH K x st
theorem eC (q:rH K x st)(X:K.In h)(G:h.Ns XI mg):Df K mg x st:=by
 obtain⟨a,l,c,k⟩:=q;exact⟨_,_,PySem.W.mg_of X G a,DQ (st:=st) l c k⟩
theorem all_mk {fa:W7}(X:K.In h)(G:h.Ns XI mg)(VC:mg "law"=some (.ref fa))(q0:rH K "greatest_divisor" bU)(q1:rH K "ratio" nD)(q2:rH K "common_bottom" cZ)(q3:rH K "cards_at" gP)(q4:rH K "counted" iU)(q5:rH K "spread" kn)(q6:rH K "shuffled" ez)(q7:rH K "_law_cell_at" ft)(q8:rH K "_law_state" gq)(q9:rH K "_law_take" iV)(VD:rH K "_law_order" fu)(VE:rH K "_law_shuffle" bS)(VF:rH K "_law_divisor" eA)(VG:rH K "_law_ratio" gr)(VH:rH K "_law_total" gu)(VI:rH K "_law_row" iz)(VJ:rH K "_law_laid" gQ)(VL:rH K "_law_same" fL)(VM:rH K "_law_mix" gb)(VN:rH K "_law_due" jj)(VO:rH K "law" xI)(znq:Yr K XI "abs"=some none)(zlq:Yr K XI "all"=some none)(zeq:Yr K XI "bool"=some none)(zaq:Yr K XI "isinstance"=some none)(zhq:Yr K XI "len"=some none)(zfq:Yr K XI "list"=some none)(zkq:Yr K XI "max"=some none)(zjq:Yr K XI "min"=some none)(zcq:Yr K XI "range"=some none)(ziq:Yr K XI "set"=some none)(zbq:Yr K XI "sorted"=some none)(zgq:Yr K XI "sum"=some none)(zdq:Yr K XI "tuple"=some none)(zmq:Yr K XI "zip"=some none)(hp:∀ns:List Int,ns.length<=63->xH [.scr (ns.map .int)]=.ok (.bl true))
  : ∃fd:abI,(∀(s:WY) (v:WM),BindsTo s fd ⟨[v],[]⟩ [("script",v)])/\∀base:ZG,K.In base->base.Ns XI mg->ku PySem.Challenge.pw_hushcards_k12_mixes_shuffled w K mg base v_ 8 fa fd ["script"] (wD K):=by
 obtain @⟨f_,od_,an20,sl_,oc_,kV20,dc20,pm20,cd20,ct20,a20,l20,c20,k20⟩:=VO;have e:=VC.symm.trans (PySem.W.mg_of X G a20);cases e;have T:r9 mg:=⟨XM X G znq,XM X G zlq,XM X G zeq,XM X G zaq,XM X G zhq,XM X G zfq,XM X G zkq,XM X G zjq,XM X G zcq,XM X G ziq,XM X G zbq,XM X G zgq,XM X G zdq,XM X G zmq⟩;have bY:=eC q0 X G;have mS:=eC q1 X G;have cY:=eC q2 X G;have gU:=eC q3 X G;have iX:=eC q4 X G;have j2:=eC q5 X G;have gW:=eC q6 X G;have di:=eC q7 X G;have eW:=eC q8 X G;have fN:=eC q9 X G;have eX:=eC VD X G;have dk:=eC VE X G;have dq:=eC VF X G;have eY:=eC VG X G;have eZ:=eC VH X G;have gZ:=eC VI X G;have fO:=eC VJ X G;have eE:=eC VL X G;have g7:=eC VM X G;have g8:=eC VN X G;have FL:=DQ (st:=xI) l20 c20 k20;refine⟨YR "law" "law" (eJ xI) (bZ xI) (ai xI) .none kV20 dc20 pm20 an20 cd20 ct20,λs v=>.of_eq rfl,λbase _ _=>?_⟩;exact MU (P:=PySem.Challenge.pw_hushcards_k12_mixes_shuffled) (w:=w) (base:=base) T  FL bY mS cY gU iX j2 gW di eW fN eX dk dq eY eZ gZ fO eE g7 g8 hp
end Hc
namespace Hc
open L2
noncomputable abbrev hS (s:String)(n:Nat):WM:=.str (YC s) n
noncomputable abbrev hE (P:Params)(s:String)(n:Nat)(v:WM):acH:=⟨PyData.keyHash P (YC s),hS s n,v⟩
noncomputable abbrev hD (c:WM)(l:List acH)(n:Nat):Obj:=⟨c,none,.dict l.toArray n,#[]⟩
noncomputable abbrev hX (c:WM)(l:List WM):Obj:=⟨c,none,.fields l.toArray,#[]⟩
noncomputable abbrev hC (n q:String)(a:Nat)(l k:Int)(r r1:Nat)(v1 v2:WM)(r2:Nat)(m:Int)(m':Nat):Obj:=hX (.type "code") [hS n a,hS q (a+1),hS "/claim/cut.py" (a+2),.int l 0,.int k 0,.int 0 0,.int 0 0,.int 3 0,.ref r,.bool true,.int 181 0,.ref r1,.none,v1,v2,.ref r2,.int m 0,.int l 0,hS "/claim/cut.py" m']
noncomputable abbrev hF (n q:String)(s:abM)(kV mT pm:WM)(an:Option W7)(cd ct:WM):Obj:=⟨.type "function",none,.func (YR n q (eJ s) (bZ s) (ai s) .none kV mT pm an cd ct),#[]⟩
noncomputable def Kf (P:Params):WH:=
 (nat_lit 2,hD .none [] 0) ::
 (nat_lit 3,hD (.type "dict") [hE P "__name__" 165 (hS "law_hushcards_k12_mixes_shuffled" 255),hE P "__doc__" 166 .none,hE P "__package__" 167 .none,hE P "__loader__" 168 (.builtin "__main__.__loader__#opaque"),hE P "__spec__" 169 .none,hE P "__annotations__" 170 (.ref 6),hE P "__builtins__" 171 (.ref 4),hE P "__file__" 173 (hS "/claim/cut.py" 172),hE P "__cached__" 174 .none,hE P "greatest_divisor" 197 (.ref 21),hE P "ratio" 206 (.ref 28),hE P "common_bottom" 215 (.ref 35),hE P "cards_at" 223 (.ref 40),hE P "counted" 234 (.ref 47),hE P "spread" 248 (.ref 54),hE P "shuffled" 254 (.ref 59),hE P "_law_cell_at" 264 (.ref 66),hE P "_law_state" 273 (.ref 73),hE P "_law_take" 283 (.ref 80),hE P "_law_order" 289 (.ref 85),hE P "_law_shuffle" 295 (.ref 90),hE P "_law_divisor" 303 (.ref 97),hE P "_law_ratio" 312 (.ref 104),hE P "_law_total" 322 (.ref 111),hE P "_law_row" 328 (.ref 116),hE P "_law_laid" 334 (.ref 121),hE P "_law_same" 340 (.ref 126),hE P "_law_mix" 346 (.ref 131),hE P "_law_due" 352 (.ref 136),hE P "law" 368 (.ref 143)] 30) ::
 (nat_lit 20,hC "greatest_divisor" "greatest_divisor" 189 2 2 15 16 (.ref 17) (.ref 18) 19 195 196) ::
 (nat_lit 21,hF "greatest_divisor" "greatest_divisor" (top 1) .none .none (hS "hushcards.fractions" 187) none (.ref 20) .none) ::
 (nat_lit 27,hC "ratio" "ratio" 198 10 2 22 23 (.ref 24) (.ref 25) 26 204 205) ::
 (nat_lit 28,hF "ratio" "ratio" (top 2) .none .none (hS "hushcards.fractions" 187) none (.ref 27) .none) ::
 (nat_lit 34,hC "common_bottom" "common_bottom" 207 15 1 29 30 (.ref 31) (.ref 32) 33 213 214) ::
 (nat_lit 35,hF "common_bottom" "common_bottom" (top 3) .none .none (hS "hushcards.fractions" 187) none (.ref 34) .none) ::
 (nat_lit 39,hC "cards_at" "cards_at" 218 21 2 36 37 .none .none 38 221 222) ::
 (nat_lit 40,hF "cards_at" "cards_at" (top 5) .none .none (hS "hushcards.orders" 216) none (.ref 39) .none) ::
 (nat_lit 46,hC "counted" "counted" 226 24 1 41 42 (.ref 43) (.ref 44) 45 232 233) ::
 (nat_lit 47,hF "counted" "counted" (top 7) .none .none (hS "hushcards.shuffles" 224) none (.ref 46) .none) ::
 (nat_lit 53,hC "spread" "spread" 235 29 2 48 49 (.ref 50) (.ref 51) 52 246 247) ::
 (nat_lit 54,hF "spread" "spread" (top 8) .none .none (hS "hushcards.shuffles" 224) none (.ref 53) .none) ::
 (nat_lit 58,hC "shuffled" "shuffled" 249 36 2 55 56 .none .none 57 252 253) ::
 (nat_lit 59,hF "shuffled" "shuffled" (top 9) .none .none (hS "hushcards.shuffles" 224) none (.ref 58) .none) ::
 (nat_lit 65,hC "_law_cell_at" "_law_cell_at" 257 44 2 60 61 (.ref 62) (.ref 63) 64 262 263) ::
 (nat_lit 66,hF "_law_cell_at" "_law_cell_at" (top 11) .none .none (hS "law_hushcards_k12_mixes_shuffled" 255) none (.ref 65) .none) ::
 (nat_lit 72,hC "_law_state" "_law_state" 265 48 2 67 68 (.ref 69) (.ref 70) 71 271 272) ::
 (nat_lit 73,hF "_law_state" "_law_state" (top 12) .none .none (hS "law_hushcards_k12_mixes_shuffled" 255) none (.ref 72) .none) ::
 (nat_lit 79,hC "_law_take" "_law_take" 274 53 2 74 75 (.ref 76) (.ref 77) 78 281 282) ::
 (nat_lit 80,hF "_law_take" "_law_take" (top 13) .none .none (hS "law_hushcards_k12_mixes_shuffled" 255) none (.ref 79) .none) ::
 (nat_lit 84,hC "_law_order" "_law_order" 284 62 2 81 82 .none .none 83 287 288) ::
 (nat_lit 85,hF "_law_order" "_law_order" (top 14) .none .none (hS "law_hushcards_k12_mixes_shuffled" 255) none (.ref 84) .none) ::
 (nat_lit 89,hC "_law_shuffle" "_law_shuffle" 290 65 2 86 87 .none .none 88 293 294) ::
 (nat_lit 90,hF "_law_shuffle" "_law_shuffle" (top 15) .none .none (hS "law_hushcards_k12_mixes_shuffled" 255) none (.ref 89) .none) ::
 (nat_lit 96,hC "_law_divisor" "_law_divisor" 296 86 2 91 92 (.ref 93) (.ref 94) 95 301 302) ::
 (nat_lit 97,hF "_law_divisor" "_law_divisor" (top 16) .none .none (hS "law_hushcards_k12_mixes_shuffled" 255) none (.ref 96) .none) ::
 (nat_lit 103,hC "_law_ratio" "_law_ratio" 304 92 2 98 99 (.ref 100) (.ref 101) 102 310 311) ::
 (nat_lit 104,hF "_law_ratio" "_law_ratio" (top 17) .none .none (hS "law_hushcards_k12_mixes_shuffled" 255) none (.ref 103) .none) ::
 (nat_lit 110,hC "_law_total" "_law_total" 313 95 1 105 106 (.ref 107) (.ref 108) 109 320 321) ::
 (nat_lit 111,hF "_law_total" "_law_total" (top 18) .none .none (hS "law_hushcards_k12_mixes_shuffled" 255) none (.ref 110) .none) ::
 (nat_lit 115,hC "_law_row" "_law_row" 323 100 2 112 113 .none .none 114 326 327) ::
 (nat_lit 116,hF "_law_row" "_law_row" (top 19) .none .none (hS "law_hushcards_k12_mixes_shuffled" 255) none (.ref 115) .none) ::
 (nat_lit 120,hC "_law_laid" "_law_laid" 329 105 2 117 118 .none .none 119 332 333) ::
 (nat_lit 121,hF "_law_laid" "_law_laid" (top 20) .none .none (hS "law_hushcards_k12_mixes_shuffled" 255) none (.ref 120) .none) ::
 (nat_lit 125,hC "_law_same" "_law_same" 335 107 2 122 123 .none .none 124 338 339) ::
 (nat_lit 126,hF "_law_same" "_law_same" (top 21) .none .none (hS "law_hushcards_k12_mixes_shuffled" 255) none (.ref 125) .none) ::
 (nat_lit 130,hC "_law_mix" "_law_mix" 341 115 2 127 128 .none .none 129 344 345) ::
 (nat_lit 131,hF "_law_mix" "_law_mix" (top 22) .none .none (hS "law_hushcards_k12_mixes_shuffled" 255) none (.ref 130) .none) ::
 (nat_lit 135,hC "_law_due" "_law_due" 347 119 2 132 133 .none .none 134 350 351) ::
 (nat_lit 136,hF "_law_due" "_law_due" (top 23) .none .none (hS "law_hushcards_k12_mixes_shuffled" 255) none (.ref 135) .none) ::
 (nat_lit 142,hC "law" "law" 353 125 1 137 138 (.ref 139) (.ref 140) 141 366 367) ::
 (nat_lit 143,hF "law" "law" (top 24) .none .none (hS "law_hushcards_k12_mixes_shuffled" 255) none (.ref 142) .none)::[]
noncomputable def vw:ZI:={PySem.Challenge.pw_hushcards_k12_mixes_shuffled with main:={PySem.Challenge.pw_hushcards_k12_mixes_shuffled.main with body:=([1,2,3,5,7,8,9,11,12,13,14,15,16,17,18,19,20,21,22,23,24]:List Nat).map top}}
noncomputable def hk:PySem.W.Hook:=PySem.W.kHook Kf [2,3,20,21,27,28,34,35,39,40,46,47,53,54,58,59,65,66,72,73,79,80,84,85,89,90,96,97,103,104,110,111,115,116,120,121,125,126,130,131,135,136,142,143] (λ_=>by kernel_rfl)
noncomputable abbrev TY:=PySem.Challenge.rw_hushcards_k12_mixes_shuffled.row
theorem left:PySem.W.LeftO TY.prog vw [] (λs=>PySem.W.xlAt vw [] s&&PySem.W.recOk (PySem.W.RowW.records TY.toRowW) s) hk.obs hk.val 1434:=λw=>by kernel_rfl
end Hc
namespace Hc
open L2
theorem Kz {f:Bool->Bool}{u w:U}:kD f u w=(MR u w).bind λb=>.ok (.bl (f b)):=nr rfl
theorem gf {a b:Int}:MR (.int a) (.int b)=.ok (a==b):=nr rfl
theorem F6 {a b:Bool}:MR (.bl a) (.bl b)=.ok (a==b):=nr rfl
theorem Bu {a b:Str}:MR (.str a) (.str b)=.ok (a==b):=nr rfl
theorem dh:type_of% @WD.{0,0}/\type_of% @X0.{0,0}/\type_of% @WT.{0}/\type_of% @aaR.{0}/\type_of% @aaz.{0}/\type_of% @YJ.{0}/\type_of% @List.replicate_succ.{0}/\type_of% @List.replicate_zero.{0}/\type_of% @List.getElem?_cons_zero.{0}/\type_of% @X_.{0}/\type_of% @aa1.{0}/\type_of% @List.set_cons_succ.{0}/\type_of% @ZW.{0}/\type_of% @aay.{0}/\type_of% @if_true.{1}/\type_of% @if_false.{1}/\type_of% @Xq/\type_of% @JO/\type_of% @Zt/\type_of% @acm/\type_of% @Kz/\type_of% @gf/\type_of% @F6/\type_of% @Bu:=
 ⟨@WD.{0,0},@X0.{0,0},@WT.{0},@aaR.{0},@aaz.{0},@YJ.{0},@List.replicate_succ.{0},@List.replicate_zero.{0},@List.getElem?_cons_zero.{0},@X_.{0},@aa1.{0},@List.set_cons_succ.{0},@ZW.{0},@aay.{0},@if_true.{1},@if_false.{1},@Xq,@JO,@Zt,@acm,@Kz,@gf,@F6,@Bu⟩
end Hc
namespace Hc.Cn
open L2 Hc.Ts
noncomputable abbrev Rw:=List Int
noncomputable abbrev Dc:=List (Rw×Int)
noncomputable def iK (d:Dc)(k:Rw):Int:=((d.find? λp=>decide (p.1=k)).map (·.2)).getD 0
noncomputable def jv (d:Dc)(k:Rw)(v:Int):Dc:=if k∈d.map (·.1) then d.map (λp=>if p.1=k then (p.1,v) else p) else d++[(k,v)]
noncomputable def kG (d:Dc)(k:Rw)(w:Int):Dc:=jv d k (iK d k+w)
noncomputable def lB (d:Dc)(f:Rw->Int):Int:=(d.map λp=>p.2*f p.1).sum
def Nd (d:Dc):Prop:=(d.map (·.1)).Nodup
def Ps (d:Dc):Prop:=∀p∈d,1<=p.2
theorem iW (p:Rw×Int)(d:Dc)(k:Rw):iK (p::d) k=if p.1=k then p.2 else iK d k:=by
 unfold iK;rw[Ya];by_cases c:p.1=k
 ·rw[hG c,hZ c];rfl
 ·rw[hJ c,hV c]
theorem jY:∀{d:Dc} {k:Rw},k∉d.map (·.1)->iK d k=0
 | [],_,_=>rfl
 |p::d,k,h=>by
  rw[WD,WV,not_or] at h;rw[iW,hV (λe=>h.1 e.symm),jY h.2]
theorem ug {d:Dc}{k:Rw}(h:k∈d.map (·.1)):(k,iK d k)∈d:=by
 induction d with
 |nil=>cases h
 |cons q d ih=>
  rw[iW];by_cases c:q.1=k
  ·rw[hZ c,←c];exact WG
  ·rw[hV c];rw[WD,WV] at h;rcases h with h|h
   ·exact absurd h.symm c
   ·exact WI _ (ih h)
theorem mI (d:Dc)(k:Rw)(v:Int):(jv d k v).map (·.1)=if k∈d.map (·.1) then d.map (·.1) else d.map (·.1)++[k]:=by
 unfold jv;split
 ·rw[Xb];apply Xl;intro p _;show (if p.1=k then (p.1,v) else p).1=p.1;split<;>rfl
 ·rw[WW];rfl
theorem MV {d:Dc}(k:Rw)(v:Int)(h:Nd d):Nd (jv d k v):=by
 unfold Nd at h ⊢;rw[mI];split
 ·exact h
 ·rename_i c;exact Ye.mpr ⟨h,by simp,λa ha b hb=>by
   rw[WU] at hb;subst hb;exact λe=>c (e▸ha)⟩
theorem MW {d:Dc}{k:Rw}{v:Int}(h:Ps d)(hv:1<=v):Ps (jv d k v):=by
 unfold jv;intro p hp;split at hp
 ·obtain⟨q,hq,rfl⟩:=WS.mp hp;split
  ·exact hv
  ·exact h q hq
 ·rcases W0.mp hp with hp|hp
  ·exact h p hp
  ·rw[WU] at hp;subst hp;exact hv
theorem iA {d:Dc}(h:Ps d)(k:Rw):0<=iK d k:=by
 by_cases c:k∈d.map (·.1)
 ·have:=h _ (ug c);lia
 ·rw[jY c];exact Int.le_refl _
theorem sum_append (a b:List Int):(a++b).sum=a.sum+b.sum:=List.sum_append
theorem xV:∀{d:Dc} {k:Rw} {v:Int} (f:Rw->Int),Nd d->k∈d.map (·.1)->lB (d.map λp=>if p.1=k then (p.1,v) else p) f=lB d f+(v-iK d k)*f k
 |q::d,k,v,f,n,h=>by
  unfold Nd at n;rw[WD,X3] at n;unfold lB;rw[WD,WD,WD,XH,XH,iW];by_cases c:q.1=k
  ·rw[hZ c,hZ c];have e:(d.map λp=>if p.1=k then (p.1,v) else p)=d:=by
    conv=>rhs;rw[←List.map_id d]
    apply Xl;intro p hp;rw[hV (λz=>n.1 (by rw[c,←z];exact Xh hp))];rfl
   rw[e,c];show v*f k+_=q.2*f k+_+(v-q.2)*f k;rw[Int.sub_mul];lia
  ·rw[hV c,hV c];have h':k∈d.map (·.1):=by
    rw[WD,WV] at h;rcases h with h|h
    ·exact absurd h.symm c
    ·exact h
   have:=xV (v:=v) f n.2 h';unfold lB at this;rw[this];lia
theorem F7 {d:Dc}(k:Rw)(w:Int)(f:Rw->Int)(n:Nd d):lB (kG d k w) f=lB d f+w*f k:=by
 unfold kG jv;split
 ·rename_i c;rw[xV f n c];congr 2;lia
 ·rename_i c;unfold lB;rw[WW,sum_append,jY c];simp
noncomputable def aJ (d:Dc)(ws:List (Rw×Int)):Dc:=ws.foldl (λd p=>kG d p.1 p.2) d
theorem gw:∀(ws:List (Rw×Int)) {d:Dc},Nd d->Ps d->(∀p∈ws,1<=p.2)->Nd (aJ d ws)/\Ps (aJ d ws)/\∀f,lB (aJ d ws) f=lB d f+(ws.map λp=>p.2*f p.1).sum
 | [],d,n,p,_=>⟨n,p,λf=>by show lB d f=_;simp⟩
 |q::ws,d,n,p,h=>by
  have n1:Nd (kG d q.1 q.2):=MV _ _ n;have p1:Ps (kG d q.1 q.2):=MW p (by have:=iA p q.1;have:=h q WG;lia);obtain⟨a,b,c⟩:=gw ws n1 p1 λx hx=>h x (WI _ hx);refine⟨a,b,λf=>?_⟩;show lB (aJ (kG d q.1 q.2) ws) f=_;rw[c f,F7 _ _ _ n,WD,XH];lia
theorem F8 {d:Dc}(n:Nd d)(k:Rw):lB d (λx=>if x=k then 1 else 0)=iK d k:=by
 induction d with
 |nil=>rfl
 |cons q d ih=>
  have n':=n;unfold Nd at n';rw[WD,X3] at n';have:=ih n'.2;unfold lB at this ⊢;rw[WD,XH,this,iW];show q.2*(if q.1=k then 1 else 0)+_=_;by_cases c:q.1=k
  ·rw[hZ c,hZ c,jY (c▸n'.1)];lia
  ·rw[hV c,hV c];lia
noncomputable def IT (d:Dc):Int:=(d.map (·.2)).sum
theorem sN {a b:List Rw}(p:a.Perm b):eo a=eo b:=pU (((a_ a).trans p).trans (a_ b).symm) (jR a) (jR b)
noncomputable def bg (l:List Rw):Dc:=aJ [] (l.map λx=>(x,1))
theorem iL:Nd []/\Ps []:=⟨Y9,λp hp=>by cases hp⟩
theorem rJ (l:List Rw):Nd (bg l)/\Ps (bg l)/\∀f,lB (bg l) f=(l.map f).sum:=by
 obtain⟨a,b,c⟩:=gw (l.map λx=>(x,(1:Int))) iL.1 iL.2 λp hp=>by
  obtain⟨x,_,rfl⟩:=WS.mp hp;exact Int.le_refl _
 refine⟨a,b,λf=>?_⟩;have:=c f;rw[Xb] at this;unfold bg;rw[this];show (0:Int)+_=_;rw[Int.zero_add];congr 1;apply Xl;intro x _;show 1*f x=f x;lia
theorem rK {α β:Type}(g:α->List β)(h:β->Int):∀l:List α,((l.flatMap g).map h).sum=(l.map λa=>((g a).map h).sum).sum
 | []=>rfl
 |a::l=>by rw[ZO,WW,sum_append,WD,XH,rK g h l]
theorem Bv (k:Int):∀l:List Int,(l.map λx=>k*x).sum=k*l.sum
 | []=>by simp
 |x::l=>by rw[WD,XH,XH,Bv k l,Int.mul_add]
theorem Bw (l:List Rw):IT (bg l)=l.length:=by
 obtain⟨n,p,s⟩:=rJ l;have:=s λ_=>1;unfold lB at this;unfold IT;have e:((bg l).map λp=>p.2*1)=(bg l).map (·.2):=by
  apply Xl;intro p _;lia
 rw[e] at this;rw[this];clear this e s p n
 induction l with
 |nil=>rfl
 |cons x l ih=>rw[WD,XH,ih,WT];lia
theorem MX {l:List Int}(h:∀x∈l,0<=x):∀x∈l,x<=l.sum:=by
 induction l with
 |nil=>intro x hx;cases hx
 |cons y l ih=>
  intro x hx;have hl:0<=l.sum:=by
   clear ih hx
   induction l with
   |nil=>exact Int.le_refl _
   |cons z l ih2=>
    rw[XH];have:=ih2 λw hw=>h w (by rcases WV.mp hw with e|e;exact e▸WG;exact WI _ (WI _ e));have:=h z (WI _ WG);lia
  rw[XH];rcases WV.mp hx with rfl|hx
  ·lia
  ·have:=ih (λw hw=>h w (WI _ hw)) x hx;have:=h y WG;lia
theorem MY {d:Dc}(p:Ps d):∀q∈d,q.2<=IT d:=λq hq=>MX (λx hx=>by
 obtain⟨r,hr,rfl⟩:=WS.mp hx;have:=p r hr;lia) q.2 (Xh hq)
end Hc.Cn
variable {d:Hc.Cn.Dc}
namespace Hc
open L2
theorem NS:(0:Nat)<=WJ/\(1:Nat)<=WJ/\(2:Nat)<=WJ/\(3:Nat)<=WJ/\(4:Nat)<=WJ/\(5:Nat)<=WJ/\(6:Nat)<=WJ/\(10:Nat)<=WJ/\(16:Nat)<=WJ/\(18:Nat)<=WJ/\(22:Nat)<=WJ:=by decide
theorem Pzz:type_of% @aD∧type_of% @dh∧type_of% @NS:=⟨@aD,@dh,@NS⟩
theorem eT {α:Type}{f:U->R (Option U)}{c g:α->U}:∀{xs:List α},(∀x∈xs,f (c x)=.ok (some (g x)))->yt f (xs.map c)=.ok (xs.map g)
 | [],_=>rfl
 |x::xs,h=>by
  rw[WD,WD];unfold yt;rw[h x WG];show (yt f (xs.map c)).bind _=_;rw[eT λy hy=>h y (WI _ hy)];rfl
theorem PV {ws:List U}:i9 (.lst us) [.lst ws]=if us.length+ws.length<=WJ then .ok (.non,.lst (us++ws)) else .stk:=nr rfl
theorem rL (us:List U)(k:Nat):i6 us none (some (k:Int))=us.take k:=by
 unfold i6;rw[HT.sIx_none,HT.sIx_nat,ZZ,Nat.sub_zero];rcases Nat.le_total k us.length with h|h
 ·rw[Yx h]
 ·rw[Nat.min_eq_right h,X2,Yt h]
theorem mJ (us:List U)(k:Nat):i6 us (some (k:Int)) none=us.drop k:=by
 unfold i6;rw[HT.sIx_none,HT.sIx_nat];rcases Nat.le_total k us.length with h|h
 ·rw[Yx h,Yt (by rw[XA];lia)]
 ·rw[Nat.min_eq_right h,Zo,List.drop_of_length_le h,List.take_nil]
def nG (s:U):Prop:=∃v b,s=.lst [.int v,.bl b]/\0<=v/\(b=false->v<2147483647)
theorem fA {s:U}{m:Int}(h:nG s)(h0:0<m)(h1:m<18446744073709551616):∃r s',aw [s,.int m]=.ok (.int r,s')/\0<=r/\r<m/\nG s':=by
 obtain⟨v,b,rfl,hv,hb⟩:=h;cases b with
 |true=>
  refine⟨v % m,.lst [.int (v / m),.bl true],?_,Zh _ (by lia),YL _ h0,v / m,true,rfl,Int.ediv_nonneg hv (by lia),λh=>nomatch h⟩;simp only[Pzz,cF,Nat.reduceAdd,Nat.reduceSub,aw,iy,hG h0,pR h0 h1,Bb]
 |false=>
  have g1:0<=(v*48271+29) % 2147483647:=Zh _ (by decide);have g2:(v*48271+29) % 2147483647<2147483647:=YL _ (by decide);have c1:iE v 48271=true:=ja (by decide) (by decide);have d1:decide ((0:Int)<2147483647)=true:=by decide
  have d2:decide ((0:Int)<2147483629)=true:=by decide
  have d3:decide ((0:Int)<2147483587)=true:=by decide
  have e8:wG (((((v*48271+29) % 2147483647)*((v*48271+29) % 2147483647)+39373*((v*48271+29) % 2147483647)+7) % 2147483629*((((v*48271+29) % 2147483647)*((v*48271+29) % 2147483647)+39373*((v*48271+29) % 2147483647)+7) % 2147483629)+16807*((((v*48271+29) % 2147483647)*((v*48271+29) % 2147483647)+39373*((v*48271+29) % 2147483647)+7) % 2147483629)) % 2147483587) 8=true:=pR (by decide) (by decide);have c2:iE ((v*48271+29) % 2147483647) ((v*48271+29) % 2147483647)=true:=qE g1 (by lia);have c3:iE 39373 ((v*48271+29) % 2147483647)=true:=qE (by decide) (by decide);generalize hs:(v*48271+29) % 2147483647=s1 at *;have g3:0<=(s1*s1+39373*s1+7) % 2147483629:=Zh _ (by decide);have g4:(s1*s1+39373*s1+7) % 2147483629<2147483629:=YL _ (by decide);have c4:iE ((s1*s1+39373*s1+7) % 2147483629) ((s1*s1+39373*s1+7) % 2147483629)=true:=qE g3 (by lia);have c5:iE 16807 ((s1*s1+39373*s1+7) % 2147483629)=true:=qE (by decide) (by decide);refine⟨((s1*s1+39373*s1+7) % 2147483629*((s1*s1+39373*s1+7) % 2147483629)+16807*((s1*s1+39373*s1+7) % 2147483629)) % 2147483587 / 8 % m,.lst [.int s1,.bl false],?_,Zh _ (by lia),YL _ h0,s1,false,rfl,g1,λ_=>g2⟩
  ·simp only[Pzz,cF,Nat.reduceAdd,Nat.reduceSub,aw,iy,hG h0,c1,d1,d2,d3,hs,c2,c3,c4,c5,e8,Bb]
theorem F9 {us:List U}{k:Int}(hu:u=.scr (ns.map .int)\/u=.lst (ns.map .int))(h0:0<=k):∃s,eR [u,.int k]=.ok s/\nG s:=by
 obtain⟨k,rfl⟩:∃n:Nat,k=n:=⟨k.toNat,by lia⟩;have uq:∃c:Int,cH [u,.int k]=.ok (.int c):=by
  by_cases hk:k<ns.length
  ·refine⟨ns[k],?_⟩;have d:decide ((k:Int)<((ns.map U.int).length:Nat))=true:=by rw[WA];exact hG (by lia)
   have e:lU (ns.map U.int) (k:Int)=some (.int ns[k]):=by rw[w9,W3,Wz hk];rfl
   rcases hu with rfl|rfl<;>simp only[Pzz,cF,Nat.reduceAdd,Nat.reduceSub,cH,eQ,d,e]
  ·refine⟨0,?_⟩;have d:decide ((k:Int)<((ns.map U.int).length:Nat))=false:=by rw[WA];exact hJ (by lia)
   rcases hu with rfl|rfl<;>simp only[Pzz,cF,Nat.reduceAdd,Nat.reduceSub,cH,eQ,d]
 obtain⟨c,hc⟩:=uq;have Uz:HN 10 18=true:=by decide
 have UA:(10:Int) ^ (18:Int).toNat=1000000000000000000:=by decide
 have dm:decide ((0:Int)<2147483647)=true:=by decide
 by_cases h:1000000000000000000<=c
 ·refine⟨.lst [.int (c-1000000000000000000),.bl true],?_,_,true,rfl,by lia,λh=>nomatch h⟩;simp only[Pzz,cF,Nat.reduceAdd,Nat.reduceSub,eR,f9,hc,Uz,UA,hG h,hZ]
 ·refine⟨.lst [.int (c % 2147483647),.bl false],?_,_,false,rfl,Zh _ (by decide),λ_=>YL _ (by decide)⟩;simp only[Pzz,cF,Nat.reduceAdd,Nat.reduceSub,eR,f9,hc,Uz,UA,hJ h,dm,hZ]
theorem rM {α:Type}:∀(l:List α) (i:Nat) (h:i<l.length),(l[i]::l.eraseIdx i).Perm l
 |x::l,0,_=>Yo _
 |x::l,i+1,h=>by
  have h':i<l.length:=by simpa using h
  show (l[i]::x::l.eraseIdx i).Perm (x::l);exact (List.Perm.swap _ _ _).trans (List.Perm.cons x (rM l i h'))
theorem mK {α β:Type}(f:α->β):∀(l:List α) (i:Nat),(l.map f).eraseIdx i=(l.eraseIdx i).map f
 | [],_=>rfl
 |_::_,0=>rfl
 |x::l,i+1=>by
  show f x::(l.map f).eraseIdx i=f x::(l.eraseIdx i).map f;rw[mK f l i]
theorem MZ {k:Int}{y:U}(h1:acw k us.length=some j)(h2:us[j]? = some y)(h3:0<=k)(h4:k<1000000000):nj (.lst us) [.int k]=.ok (y,.lst (us.eraseIdx j)):=by
 unfold nj;dsimp only;rw[hZ (by lia),h1];dsimp only;rw[h2]
def rN (n:Nat)(os:List Int):Prop:=os.Perm (aV n)
theorem xW {s:U}(h:nG s)(h1:m<=1000):∃(os:List Int) (s':U),cR [s,.int m]=.ok (.tup (os.map .int),s')/\rN m os/\nG s':=by
 obtain⟨ys,⟨left,s'⟩,e,l,os,hr,hp,hs'⟩:=iR (G:=jd) (js:=[none,some 2,some 0]) (sg:=bH 0) (ge:=gM "list" 1 nj (ag (oZ 2 2 aw (ag (i0 jK (ag (af 1) aq)) aq)) aq))
  (λx:List Int×U=>[some x.2,some (.int m),some (.lst (x.1.map .int))]) m (λys x=>∃os:List Int,ys=os.map .int/\(os++x.1).Perm (aV m)/\nG x.2)
  (λdone u x hd h00=>by
   obtain⟨os,hr,hp,hs⟩:=h00;obtain⟨left,s⟩:=x;have hl:0<left.length:=by
    have:=hp.length_eq;rw[WN,fi] at this;have h2:done.length=os.length:=by rw[hr,WA]
    dsimp only at this;lia
   have Dd:left.length<=m:=by
    have:=hp.length_eq;rw[WN,fi] at this;dsimp only at this;lia
   obtain⟨r,s',b1,b2,b3,b4⟩:=fA (m:=left.length) hs (by lia) (by lia);obtain⟨k,rfl⟩:∃n:Nat,r=n:=⟨r.toNat,by lia⟩;have hk:k<left.length:=by lia
   refine⟨[some u,some (.lst (left.map .int)),some s],.int left[k],[some u,some (.lst ((left.eraseIdx k).map .int)),some s'],(left.eraseIdx k,s'),rfl,?_,rfl,os++[left[k]],by rw[hr,WW];rfl,?_,b4⟩
   ·have hx:acw (k:Int) (left.map U.int).length=some k:=by
     unfold acw;rw[WA];simp;lia
    have hy:(left.map U.int)[k]? = some (.int left[k]):=by rw[W3,Wz hk];rfl
    have pp:=MZ hx hy (by lia) (by lia);rw[mK] at pp;simp only[Pzz,cF,Nat.reduceAdd,Nat.reduceSub,WA,b1,pp]
   ·rw[W8];refine List.Perm.trans (X7 os ?_) hp;exact rM left k hk) (aF 0 m) [] (aV m,s) (by rw[aU];simp) ⟨[],rfl,Yo _,h⟩
 rw[aU] at l;have ln:os.length=m:=by
  have:=congrArg List.length hr;rw[YJ,WA] at this;lia
 have le:left=[]:=by
  have:=hp.length_eq;rw[WN,fi] at this;dsimp only at this;exact YA (by lia)
 subst le;rw[Xt] at hp;rw[YJ] at hr;dsimp only at e;refine⟨os,s',?_,hp,hs'⟩;rw[hr] at e;simp only[Pzz,cF,Nat.reduceAdd,Nat.reduceSub,cR,je,i_ m (by lia),Iq m (by lia),gG] at e ⊢;simp only[Pzz,cF,Nat.reduceAdd,Nat.reduceSub,e]
noncomputable def tO (os:List Int):U:=.tup (os.map .int)
theorem rO (n:Nat):aF 0 n=(Xo n).map λi=>U.int (i:Nat):=by
 rw[gG];unfold aV;rw[Xb];rfl
theorem xX (n:Nat):aV (n+1)=aV n++[(n:Int)]:=by
 unfold aV;rw[List.range_succ,WW];rfl
theorem xY {z:Nat}(h:z<=m):(aV m).take z=aV z:=by
 unfold aV;rw[←List.map_take,List.take_range,Yx h]
theorem IU (us:List U)(a b:Nat)(h:a<=b)(h2:b<=us.length):i6 us (some (a:Int)) (some (b:Int))=(us.drop a).take (b-a):=by
 unfold i6;rw[HT.sIx_nat,HT.sIx_nat,Yx h2,Yx (XC h h2)]
noncomputable def Q5:Nat->Nat
 |0=>1
 |n+1=>Q5 n*(n+1)
theorem F_ {os:List Int}(h:os.Perm (aV k)):(os.take j++[(k:Int)]++os.drop j).Perm (aV (k+1)):=by
 rw[xX,W8];refine (X8).trans ?_;rw[W8];have:(os.drop j++os.take j).Perm (aV k):=(X8).trans (by rw[Xu];exact h);exact ((X7 [(k:Int)] this)).trans X8
theorem IV {a b c d e f g:Option U}{oss:List (List Int)}(hk:k<=8)(hl:oss.length<=1000)(hp:∀os∈oss,os.Perm (aV k))(v4:Option U) :
  ∃(ls:List (List Int)) (v4':Option U),fY (bH 4) (qr (gM "list" 9 i9 (ag (jG (gE (ag (aZ cy (af 8) (gC (.int 1))) aq)) [none,some 4,some 8] (bH 0) c8 (aZ cy (aZ cy (qo nU (af 1) dG (cV (af 0))) (c9 (ag (af 2) aq))) (qo nU (af 1) (cV (af 0)) dG))) aq))) (oss.map tO)
   [a,b,c,d,v4,e,f,g,some (.int k),some (.lst [])]=.nx [a,b,c,d,v4',e,f,g,some (.int k),some (.lst (ls.map tO))]/\ls.length=oss.length*(k+1)/\∀os∈ls,os.Perm (aV (k+1)):=by
 obtain⟨ρ',e1,ls,v,e2,l2,p2⟩:=dB (us:=oss.map tO) (sg:=bH 4) (s:=qr (gM "list" 9 i9 (ag (jG (gE (ag (aZ cy (af 8) (gC (.int 1))) aq)) [none,some 4,some 8] (bH 0) c8 (aZ cy (aZ cy (qo nU (af 1) dG (cV (af 0))) (c9 (ag (af 2) aq))) (qo nU (af 1) (cV (af 0)) dG))) aq)))
  (λi ρ=>∃(ls:List (List Int)) (v:Option U),ρ=[a,b,c,d,v,e,f,g,some (.int k),some (.lst (ls.map tO))]/\ls.length=i*(k+1)/\∀os∈ls,os.Perm (aV (k+1)))
  (λi u ρ hu h00=>by
   obtain⟨ls,v,hr,Dd,De⟩:=h00;subst hr;rw[W3] at hu;cases ho:oss[i]? with
   |none=>rw[ho] at hu;cases hu
   |some os=>
    rw[ho] at hu;cases hu;have G0:=hp os (Yh ho);have lo:os.length=k:=by have:=G0.length_eq;rwa [fi] at this
    have hi:i<oss.length:=by
     rcases Zv i oss.length with z|z
     ·exact z
     ·rw[XY.mpr z] at ho;cases ho
    have sz:WJ=16777216:=rfl;have e0:yt (vW [none,some 4,some 8] (bH 0) c8 (aZ cy (aZ cy (qo nU (af 1) dG (cV (af 0))) (c9 (ag (af 2) aq))) (qo nU (af 1) (cV (af 0)) dG)) [a,b,c,d,some (tO os),e,f,g,some (.int k),some (.lst (ls.map tO))]) ((Xo (k+1)).map λi=>U.int (i:Nat))=.ok ((Xo (k+1)).map λj=>tO (os.take j++[(k:Int)]++os.drop j)):=
     eT λj hj=>by
      have q1:((os.map U.int).take j).length+1<=WJ:=by rw[Xc,WA];lia
      have q2:((os.map U.int).take j++[U.int k]).length+((os.map U.int).drop j).length<=WJ:=by rw[WN,Xc,XA,WA,YF];lia
      simp only[Pzz,cF,Nat.reduceAdd,Nat.reduceSub,tO,rL,mJ,q1,q2];simp only[WW,List.map_take,List.map_drop,WD,X0]
    have hm:i*(k+1)<=1000*9:=aau (by lia) (by lia);have q3:(ls.map tO).length+((Xo (k+1)).map λj=>tO (os.take j++[(k:Int)]++os.drop j)).length<=WJ:=by
     rw[WA,WA,XJ];lia
    have ek:(k:Int)+1=((k+1:Nat):Int):=rfl;refine⟨[a,b,c,d,some (tO os),e,f,g,some (.int k),some (.lst (ls.map tO))],[a,b,c,d,some (tO os),e,f,g,some (.int k),some (.lst ((ls++(Xo (k+1)).map λj=>os.take j++[(k:Int)]++os.drop j).map tO))],rfl,.inl ?_,_,_,rfl,?_,?_⟩
    ·simp only[Pzz,cF,Nat.reduceAdd,Nat.reduceSub,ek,i_ (k+1) (by lia),rO,e0,PV,q3];simp only[WW,Xb];rfl
    ·rw[WN,WA,XJ,Dd,Nat.add_mul,Nat.one_mul]
    ·intro x hx;rcases W0.mp hx with z|z
     ·exact De x z
     ·obtain⟨j,_,rfl⟩:=WS.mp z;exact F_ G0) (ρ:=[a,b,c,d,v4,e,f,g,some (.int k),some (.lst [])]) ⟨[],v4,rfl,by simp,λx hx=>by cases hx⟩
 subst e2;rw[WA] at l2;exact⟨ls,v,e1,l2,p2⟩
theorem Ga (l:List Int)(k:Nat):(l.drop k++l.take k).Perm l:=(X8).trans (by rw[Xu])
theorem C6 (l:List Int)(h:Nat):(((l.drop h).take h++l.take h)++l.drop (h+h)).Perm l:=by
 have e:l=l.take h++((l.drop h).take h++l.drop (h+h)):=by
  rw[←acq,Xu,Xu]
 have p:((l.drop h).take h++l.take h).Perm (l.take h++(l.drop h).take h):=X8;refine (Yk _ p).trans ?_;rw[W8,←e]
def ko (m:Nat)(r:R (U×U)):Prop:=∃(oss:List (List Int)) (s':U),r=.ok (.tup (oss.map tO),s')/\(∀os∈oss,rN m os)/\1<=oss.length/\oss.length<=24/\nG s'
theorem IW {s:U}{w:Int}(h8:m<=8)(e1:aw [s,.int 6]=.ok (.int w,s1))(lL:nG s1)(hw:w=4\/w=5):ko m (aI [s,.int m]):=by
 have sz:WJ=16777216:=rfl;obtain⟨t,s2,e2,t0,t1,bT⟩:=fA (m:=4) lL (by decide) (by decide);obtain⟨n,hn⟩:∃n:Nat,1+t=n:=⟨(1+t).toNat,by lia⟩;obtain⟨ys,s3,e3,ly,oss,hy,ho,QB⟩:=iR (G:=gL) (js:=[none,some 0,some 1]) (sg:=bH 0) (ge:=oZ 2 1 cR (ag (af 2) aq))
  (λx:U=>[some x,some (.int m),some (.tup (aF 0 m)),some (.int w),none,none,none,none,none,none]) n (λys x=>∃oss:List (List Int),ys=oss.map tO/\(∀os∈oss,rN m os)/\nG x)
  (λdone u x hd h00=>by
   obtain⟨oss,hr,hp,hs⟩:=h00;obtain⟨os,x',b1,b2,b3⟩:=xW (m:=m) hs (by lia);refine⟨[some u,some x,some (.int m)],tO os,[some u,some x',some (.int m)],x',rfl,?_,rfl,oss++[os],by rw[hr,WW];rfl,?_,b3⟩
   ·simp only[Pzz,cF,Nat.reduceAdd,Nat.reduceSub,b1,tO]
   ·intro y hy;rcases W0.mp hy with z|z
    ·exact hp y z
    ·rw[WU.mp z];exact b2) (aF 0 n) [] s2 (by rw[aU];simp) ⟨[],rfl,(λx hx=>by cases hx),bT⟩
 rw[YJ] at hy;rw[aU] at ly;have lo:oss.length=n:=by
  have:=congrArg List.length hy;rw[WA] at this;lia
 refine⟨oss,s3,?_,ho,by lia,by lia,QB⟩;rw[hy] at e3;rcases hw with rfl|rfl<;>simp only[Pzz,cF,Nat.reduceAdd,Nat.reduceSub,aI,bW,mm m (by lia),e1,gf,Int.reduceBEq,id,e2,hn,i_ n (by lia),e3]
theorem M5 {s:U}(h1:1<=m)(h8:m<=8)(e1:aw [s,.int 6]=.ok (.int 0,s1))(lL:nG s1):ko m (aI [s,.int m]):=by
 have sz:WJ=16777216:=rfl;have e0:yt (vW [none,some 2] (bH 0) c8 (aZ cy (qo nU (af 1) (cV (af 0)) dG) (qo nU (af 1) dG (cV (af 0)))) [some s1,some (.int m),some (.tup (aF 0 m)),some (.int 0),none,none,none,none,none,none]) (aF 0 m)
   = .ok ((Xo m).map λk=>.tup ((aF 0 m).drop k++(aF 0 m).take k)):=by
  have:=eT (f:=vW [none,some 2] (bH 0) c8 (aZ cy (qo nU (af 1) (cV (af 0)) dG) (qo nU (af 1) dG (cV (af 0)))) [some s1,some (.int m),some (.tup (aF 0 m)),some (.int 0),none,none,none,none,none,none])
   (c:=λi:Nat=>U.int (i:Nat)) (g:=λk=>.tup ((aF 0 m).drop k++(aF 0 m).take k)) (xs:=Xo m) λk hk=>by
    have q:((aF 0 m).drop k).length+((aF 0 m).take k).length<=WJ:=by rw[XA,Xc,aU];lia
    simp only[Pzz,cF,Nat.reduceAdd,Nat.reduceSub,rL,mJ,q]
  rwa [←rO] at this
 refine⟨(Xo m).map λk=>(aV m).drop k++(aV m).take k,s1,?_,?_,by rw[WA,XJ];exact h1,by rw[WA,XJ];lia,lL⟩
 ·simp only[Pzz,cF,Nat.reduceAdd,Nat.reduceSub,aI,bW,mm m (by lia),e1,gf,Int.reduceBEq,id,i_ m (by lia),e0];rw[Xb];congr 4;funext k;show U.tup _=tO _;unfold tO;rw[gG,WW,List.map_drop,List.map_take]
 ·intro os ho;obtain⟨k,_,rfl⟩:=WS.mp ho;exact Ga _ _
theorem M6 {s:U}(h8:m<=8)(e1:aw [s,.int 6]=.ok (.int 1,s1))(lL:nG s1):ko m (aI [s,.int m]):=by
 obtain⟨os,s2,b1,b2,b3⟩:=xW (m:=m) lL (by lia);refine⟨[aV m,os],s2,?_,?_,by simp,by simp,b3⟩
 ·simp only[Pzz,cF,Nat.reduceAdd,Nat.reduceSub,aI,bW,mm m (by lia),e1,gf,Int.reduceBEq,id,b1,tO,gG]
 ·intro x hx;simp only[WV,Y1,or_false] at hx;rcases hx with rfl|rfl
  ·exact Yo _
  ·exact b2
theorem IX {s:U}(h1:1<=m)(h8:m<=8)(e1:aw [s,.int 6]=.ok (.int 2,s1))(lL:nG s1):ko m (aI [s,.int m]):=by
 have sz:WJ=16777216:=rfl;have d1:wG (m:Int) 2=true:=pR (by decide) (by decide);have d2:iE 2 ((m / 2:Nat):Int)=true:=qE (by decide) (by decide);have e2:(m:Int) / 2=((m / 2:Nat):Int):=by lia
 have e3:(2:Int)*((m / 2:Nat):Int)=((m / 2+m / 2:Nat):Int):=by lia
 have c1:i6 (aF 0 m) (some ((m / 2:Nat):Int)) (some ((m / 2+m / 2:Nat):Int))=((aF 0 m).drop (m / 2)).take (m / 2):=by
  rw[IU _ _ _ (by lia) (by rw[aU];lia),Nat.add_sub_cancel]
 have q1:(((aF 0 m).drop (m / 2)).take (m / 2)).length+((aF 0 m).take (m / 2)).length<=WJ:=by rw[Xc,XA,Xc,aU];lia
 have q2:(((aF 0 m).drop (m / 2)).take (m / 2)++(aF 0 m).take (m / 2)).length+((aF 0 m).drop (m / 2+m / 2)).length<=WJ:=by rw[WN,Xc,XA,Xc,XA,aU];lia
 refine⟨[aV m,((aV m).drop (m / 2)).take (m / 2)++(aV m).take (m / 2)++(aV m).drop (m / 2+m / 2)],s1,?_,?_,by simp,by simp,lL⟩
 ·simp only[Pzz,cF,Nat.reduceAdd,Nat.reduceSub,aI,bW,mm m (by lia),e1,gf,Int.reduceBEq,id,d1,e2,d2,e3,c1,rL,mJ,q1,q2];simp only[tO,WW,List.map_take,List.map_drop,gG]
 ·intro x hx;simp only[WV,Y1,or_false] at hx;rcases hx with rfl|rfl
  ·exact Yo _
  ·exact C6 _ _
theorem KA (h:n<=4):1<=Q5 n/\Q5 n<=24:=by
 have:n=0\/n=1\/n=2\/n=3\/n=4:=by lia
 rcases this with rfl|rfl|rfl|rfl|rfl<;>decide
theorem M7 {s:U}(h1:1<=m)(h8:m<=8)(e1:aw [s,.int 6]=.ok (.int 3,s1))(lL:nG s1):ko m (aI [s,.int m]):=by
 have sz:WJ=16777216:=rfl;obtain⟨t,s2,e2,t0,t1,bT⟩:=fA (m:=3) lL (by decide) (by decide);obtain⟨z,hz⟩:∃z:Nat,(if 2+t<(m:Int) then 2+t else (m:Int))=z:=⟨(if 2+t<(m:Int) then 2+t else (m:Int)).toNat,by split<;>lia⟩;have zb:1<=z/\z<=4/\z<=m:=by split at hz<;>lia
 obtain⟨ρ',e3,oss,v4,v8,rfl,l3,p3⟩:=dB (us:=aF 0 z) (sg:=bH 8) (s:=(aR (bB 9 (l5 aq))
 (aR (m9 (dO (af 6)) (bH 4)
 (qr (gM "list" 9 i9 (ag (jG (gE (ag (aZ cy (af 8) (gC (.int 1))) aq)) [none,some 4,some 8] (bH 0) c8 (aZ cy (aZ cy (qo nU (af 1) dG (cV (af 0))) (c9 (ag (af 2) aq))) (qo nU (af 1) (cV (af 0)) dG))) aq))))
 (wz 6 9))))
  (λi ρ=>∃(oss:List (List Int)) (v4 v8:Option U),ρ=[some s2,some (.int m),some (.tup (aF 0 m)),some (.int 3),v4,none,some (.lst (oss.map tO)),some (.int z),v8,none]/\oss.length=Q5 i/\∀os∈oss,os.Perm (aV i))
  (λi u ρ hu h00=>by
   obtain⟨oss,v4,v8,hr,hl,hp⟩:=h00;subst hr;have hi:i<z:=by
    rcases Zv i z with y|y
    ·exact y
    ·rw[XY.mpr (by rw[aU];exact y)] at hu;cases hu
   obtain rfl:u=.int i:=by
    rw[rO,W3,ZT hi] at hu;cases hu;rfl
   obtain⟨ls,v4',g1,g2,g3⟩:=IV (a:=some s2) (b:=some (.int m)) (c:=some (.tup (aF 0 m))) (d:=some (.int 3)) (e:=none) (f:=some (.lst (oss.map tO))) (g:=some (.int z)) (k:=i) (oss:=oss) (by lia) (by have:=KA (n:=i) (by lia);lia) hp v4;refine⟨[some s2,some (.int m),some (.tup (aF 0 m)),some (.int 3),v4,none,some (.lst (oss.map tO)),some (.int z),some (.int i),none],[some s2,some (.int m),some (.tup (aF 0 m)),some (.int 3),v4',none,some (.lst (ls.map tO)),some (.int z),some (.int i),none],rfl,.inl ?_,ls,v4',some (.int i),rfl,by rw[g2,hl];rfl,g3⟩;simp only[Pzz,cF,Nat.reduceAdd,Nat.reduceSub,g1])
  (ρ:=[some s2,some (.int m),some (.tup (aF 0 m)),some (.int 3),none,none,some (.lst [.tup []]),some (.int z),none,none]) ⟨[[]],none,none,rfl,rfl,λx hx=>by rw[WU.mp hx];exact Yo _⟩
 rw[aU] at l3 p3;have e4:yt (vW [none,some 2,some 7] (bH 0) c8 (aZ cy (af 0) (qo nU (af 1) (cV (af 2)) dG)) [some s2,some (.int m),some (.tup (aF 0 m)),some (.int 3),v4,none,some (.lst (oss.map tO)),some (.int z),v8,none]) (oss.map tO)=.ok (oss.map λos=>tO (os++(aV m).drop z)):=
  eT λos ho=>by
   have lo:os.length=z:=by have:=(p3 os ho).length_eq;rwa [fi] at this
   have q:(os.map U.int).length+((aF 0 m).drop z).length<=WJ:=by rw[WA,XA,aU];lia
   simp only[Pzz,cF,Nat.reduceAdd,Nat.reduceSub,tO,mJ,q];simp only[WW,List.map_drop,gG]
 have fb:=KA (n:=z) zb.2.1;refine⟨oss.map λos=>os++(aV m).drop z,s2,?_,?_,by rw[WA];lia,by rw[WA];lia,bT⟩
 ·simp only[Pzz,cF,Nat.reduceAdd,Nat.reduceSub,aI,bW,mm m (by lia),e1,gf,Int.reduceBEq,id,e2,hz,i_ z (by lia),e3,e4];rw[Xb];rfl
 ·intro x hx;obtain⟨os,ho,rfl⟩:=WS.mp hx;have:(aV m)=aV z++(aV m).drop z:=by
   rw[←xY zb.2.2,Xu]
  show (os++_).Perm (aV m);refine (Yk _ (p3 os ho)).trans ?_;rw[←this]
theorem zU {s:U}(h:nG s)(h1:1<=m)(h8:m<=8):ko m (aI [s,.int m]):=by
 obtain⟨w,s1,e1,w0,w1,lL⟩:=fA (m:=6) h (by decide) (by decide);have hw:w=0\/w=1\/w=2\/w=3\/w=4\/w=5:=by lia
 rcases hw with rfl|rfl|rfl|rfl|hw
 ·exact M5 h1 h8 e1 lL
 ·exact M6 h8 e1 lL
 ·exact IX h1 h8 e1 lL
 ·exact M7 h1 h8 e1 lL
 ·exact IW h8 e1 lL hw
open Hc.Cn Hc.Ts
noncomputable def DU (d:Dc):U:=.dct (d.map λp=>ar p.1) (d.map λp=>.int p.2)
noncomputable def oN (d:Dc):List U:=d.map λp=>ar p.1
noncomputable def Dj (d:Dc):List U:=d.map λp=>U.int p.2
theorem Bx:∀{a b:List Int},a.map U.int=b.map U.int->a=b
 | [],[],_=>rfl
 | [],_::_,h=>by cases h
 |_::_,[],h=>by cases h
 |x::a,y::b,h=>by
  rw[WD,WD] at h;injection h with h1 h2
  cases h1;rw[Bx h2]
theorem eU {a b:List Int}:ar a=ar b↔a=b:=by
 constructor
 ·intro h;unfold ar at h;injection h with h
  exact Bx h
 ·intro h;rw[h]
theorem vH {k:List Int}:ar k∈oN d↔k∈d.map (·.1):=by
 unfold oN;constructor
 ·intro h;obtain⟨p,hp,e⟩:=WS.mp h;rw[←eU.mp e];exact Xh hp
 ·intro h;obtain⟨p,hp,rfl⟩:=WS.mp h;exact Xh hp
theorem M8 (d:Dc)(k:List Int)(v:Int):cK (oN d) (ar k)=oN (jv d k v):=by
 unfold cK;have e:oN (jv d k v)=((jv d k v).map (·.1)).map ar:=by unfold oN;rw[Xb];rfl
 rw[e,mI];by_cases c:k∈d.map (·.1)
 ·rw[hZ (vH.mpr c),hZ c];unfold oN;rw[Xb];rfl
 ·rw[hV (λz=>c (vH.mp z)),hV c,WW];unfold oN;rw[Xb];rfl
theorem Gb (k:List Int)(v:Int):∀d:Dc,X1 (λa u=>if a=ar k then U.int v else u) (oN d) (Dj d)=Dj (d.map λp=>if p.1=k then (p.1,v) else p)
 | []=>rfl
 |p::d=>by
  have ih:=Gb k v d;unfold oN Dj at ih ⊢;rw[WD,WD,WD,WD,XN,ih];congr 1;by_cases c:p.1=k
  ·rw[hZ (eU.mpr c),hZ c]
  ·rw[hV (λz=>c (eU.mp z)),hV c]
theorem M9 (d:Dc)(k:List Int)(v:Int):cc (oN d) (Dj d) (ar k) (.int v)=Dj (jv d k v):=by
 unfold cc jv;by_cases c:k∈d.map (·.1)
 ·rw[hZ (vH.mpr c),hZ c,Gb]
 ·rw[hV (λz=>c (vH.mp z)),hV c];unfold Dj;rw[WW];rfl
theorem zV (k:List Int):∀d:Dc,cW (oN d) (Dj d) (ar k)=if k∈d.map (·.1) then some (.int (iK d k)) else none
 | []=>rfl
 |p::d=>by
  have ih:=zV k d;unfold oN Dj at ih ⊢;rw[WD,WD];unfold cW;rw[ih,iW];by_cases c:p.1=k
  ·rw[hZ (eU.mpr c),hZ (by rw[WD,c];exact WG),hZ c]
  ·rw[hV (λz=>c (eU.mp z)),hV c];by_cases c2:k∈d.map (·.1)
   ·rw[hZ c2,hZ (by rw[WD];exact WI _ c2)]
   ·rw[hV c2,hV (by rw[WD,WV,not_or];exact⟨λz=>c z.symm,c2⟩)]
theorem xZ:∀l:List Int,wO (l.map U.int)=true
 | []=>rfl
 |x::l=>by rw[WD];unfold wO;rw[xZ l];rfl
theorem x_:∀l:List Int,su (l.map U.int)=0
 | []=>rfl
 |x::l=>by rw[WD];unfold su;rw[x_ l];rfl
theorem rP (k:List Int):Cw (ar k)=true:=by
 show (wO (k.map U.int)&&decide (su (k.map U.int)<=6))=true;rw[xZ,x_];rfl
theorem PX (d:Dc):(oN d).all Ex=true:=XR.mpr λu hu=>by
 obtain⟨p,_,rfl⟩:=WS.mp hu;rfl
theorem PY (d:Dc):(oN d).all Mw=true:=XR.mpr λu hu=>by
 obtain⟨p,_,rfl⟩:=WS.mp hu;rfl
theorem vI (d:Dc)(k:List Int):kA (oN d) (ar k)=true:=by
 unfold kA;rw[rP,PX];exact Bool.or_true _
theorem Gd (h:d≠[]):zC (oN d)=true:=by
 unfold zC;rw[PY];cases d with
 |nil=>exact absurd rfl h
 |cons=>rfl
noncomputable def Sj (i:Nat)(v k:U)(ρ:Ev)(o:Option (Option U)):SR:=match o with
 |some (some (.dct ks us))=>if kA ks k=true/\us.length<WJ then .nx (ρ.set i (some (.dct (cK ks k) (cc ks us k v)))) else .stk
 |_=>.stk
theorem zW {gv gk:Ev->R (U×Ev)}:jN i gv gk ρ=SR.of (gv ρ) λx=>if AV x.2[i]? = true then SR.of (gk x.2) λy=>Sj i x.1 y.1 y.2 y.2[i]? else .stk:=nr rfl
theorem vJ (h:d.length<1000000){v:Int}{k:List Int}:Sj i (.int v) (ar k) ρ (some (some (DU d)))=.nx (ρ.set i (some (DU (jv d k v)))):=by
 have sz:WJ=16777216:=rfl;have:Sj i (.int v) (ar k) ρ (some (some (DU d)))=.nx (ρ.set i (some (.dct (cK (oN d) (ar k)) (cc (oN d) (Dj d) (ar k) (.int v))))):=hZ ⟨vI d k,by show (Dj d).length<_;unfold Dj;rw[WA,sz];lia⟩;rw[this,M8 d k v,M9];rfl
noncomputable def Sk (k x:U)(ρ:Ev)(o:Option (Option U)):R (U×Ev):=match o with
 |some (some (.dct ks us))=>if kA ks k=true then .ok ((cW ks us k).getD x,ρ) else .stk
 |_=>.stk
noncomputable def TZ (i:Nat)(g2 g3:Ev->R (U×Ev))(ρ:Ev)(o:Option (Option U)):R (U×Ev):=match o with
 |some (some (.dct _ _))=>(g2 ρ).bind λk=>(g3 k.2).bind λx=>Sk k.1 x.1 x.2 x.2[i]?
 |_=>.stk
theorem By {g2 g3:Ev->R (U×Ev)}:jM i g2 g3 ρ=TZ i g2 g3 ρ ρ[i]? := nr rfl
theorem Bz {g2 g3:Ev->R (U×Ev)}:TZ i g2 g3 ρ (some (some (DU d)))=(g2 ρ).bind λk=>(g3 k.2).bind λx=>Sk k.1 x.1 x.2 x.2[i]? := nr rfl
theorem BA {k:List Int}:Sk (ar k) (.int 0) ρ (some (some (DU d)))=.ok (.int (iK d k),ρ):=by
 refine (hZ (vI d k)).trans ?_;rw[show cW (d.map λp=>ar p.1) (d.map λp=>.int p.2) (ar k)=_ from zV k d];split
 ·rfl
 ·rename_i c;rw[jY c];rfl
theorem gR (ws:List (List Int×Int)):(aJ [] ws).length<=ws.length:=by
 have:∀(ws:List (List Int×Int)) (d:Dc),(aJ d ws).length<=d.length+ws.length:=by
  intro ws
  induction ws with
  |nil=>intro d;exact WR _
  |cons p ws ih=>
   intro d;have h1:=ih (kG d p.1 p.2);have h2:(kG d p.1 p.2).length<=d.length+1:=by
    unfold kG jv;split
    ·rw[WA];lia
    ·rw[WN,YF];exact WR _
   rw[WT];show (aJ (kG d p.1 p.2) ws).length<=_;lia
 have:=this ws [];simpa using this
theorem oO (d:Dc)(ws:List (List Int×Int))(p:List Int×Int):aJ d (ws++[p])=kG (aJ d ws) p.1 p.2:=by
 unfold aJ;rw[abm];rfl
noncomputable def SU (ss:List (List Int)):U:=.tup (ss.map ar)
theorem Ge {s:Nat}{x:U}(ss:List (List Int))(hl:ss.length<100000)(mk:Dc->Option U->Ev)(step:∀(d:Dc) (o:Option U) (k:List Int),d.length<1000000->∃ρ1,bH j (ar k) (mk d o)=.ok ρ1/\jN i (aZ cy (jM i (af j) (gC (.int 0))) (gC (.int 1))) (af j) ρ1=.nx (mk (jv d k (iK d k+1)) (some (ar k))))(o:Option U) :
  ∃o',fY (bH j) (jN i (aZ cy (jM i (af j) (gC (.int 0))) (gC (.int 1))) (af j)) (ss.map ar) (mk [] o)=.nx (mk (bg ss) o'):=by
 obtain⟨ρ',e1,o',e2⟩:=dB (us:=ss.map ar) (sg:=bH j) (s:=jN i (aZ cy (jM i (af j) (gC (.int 0))) (gC (.int 1))) (af j))
  (λn ρ=>∃o,ρ=mk (aJ [] ((ss.take n).map λx=>(x,1))) o)
  (λn u ρ hu h00=>by
   obtain⟨o,hr⟩:=h00;subst hr;have hn:n<ss.length:=by have:=(WL.mp hu).1;rwa [WA] at this
   rw[W3,Wz hn] at hu;obtain rfl:ar ss[n]=u:=by injection hu
   obtain⟨ρ1,a,b⟩:=step (aJ [] ((ss.take n).map λx=>(x,1))) o ss[n] (Z6 (gR _) (by rw[WA,Xc];lia));refine⟨ρ1,_,a,.inl b,some (ar ss[n]),?_⟩;rw[Xi hn,WW];show _=mk (aJ [] (_++[(ss[n],1)])) _;rw[oO];rfl)
  (ρ:=mk [] o) ⟨o,rfl⟩
 refine⟨o',?_⟩;rw[e1,e2,WA,X2];rfl
theorem zX {x:U}(hx:uW x=λρ=>.ok (ss.map ar,ρ))(hl:ss.length<100000):iT [x]=.ok (DU (bg ss)):=by
 obtain⟨o',e⟩:=Ge (s:=0) (x:=x) (i:=1) (j:=2) ss hl (λd o=>[some x,some (DU d),o]) (λd o k hd=>⟨[some x,some (DU d),some (ar k)],rfl,by
  simp only[Pzz,cF,Nat.reduceAdd,Nat.reduceSub,zW,By,Bz,BA,vJ hd]⟩) none
 have e0:DU []=.dct [] []:=rfl;rw[e0] at e;unfold iT nB;simp only[Pzz,cF,Nat.reduceAdd,Nat.reduceSub,hx,e]
theorem ya {a b:Int}(h0:0<=a)(h1:0<b):(Y7 b.toNat (a % b).toNat)=Y7 a.toNat b.toNat:=by
 obtain⟨n,rfl⟩:∃n:Nat,a=n:=⟨a.toNat,by lia⟩;obtain⟨m,rfl⟩:∃m:Nat,b=m:=⟨b.toNat,by lia⟩;have e:((n:Int) % (m:Int)).toNat=n % m:=by rw[←Int.natCast_emod];rfl
 rw[e,Xm,Xm,Nat.gcd_comm m (n % m),←Nat.gcd_rec,Nat.gcd_comm]
theorem BB {i:Int}(h:0<=i):wH [.int i]=.ok (.int i):=by
 have e:wH [.int i]=.ok (.int (if i<0 then -i else i)):=nr rfl;rw[e,hV (by lia)]
theorem BC:∀(n:Nat) (a b:Int) (o:Option U),0<=a->0<=b->b<n->∃o',fR (gB (aZ (kD not) (af 1) (gC (.int 0)))) (aR (bB 2 (aZ o9 (af 0) (af 1))) (aR (bB 0 (af 1)) (bB 1 (af 2)))) n [some (.int a),some (.int b),o]=.nx [some (.int (Y7 a.toNat b.toNat)),some (.int 0),o']
 |0,a,b,o,h0,h1,h2=>by lia
 |n+1,a,b,o,h0,h1,h2=>by
  by_cases c:b=0
  ·subst c;refine⟨o,?_⟩;have:((Y7 a.toNat (0:Int).toNat:Nat):Int)=a:=by rw[show (0:Int).toNat=0 from rfl,Nat.gcd_zero_right];lia
   rw[this];simp only[Pzz,cF,Nat.reduceAdd,Nat.reduceSub,gf,Int.reduceBEq,pQ]
  ·have hb:0<b:=by lia
   obtain⟨o',e⟩:=BC n b (a % b) (some (.int (a % b))) h1 (Zh _ c) (by have:=YL a hb;lia);refine⟨o',?_⟩;rw[ya h0 hb] at e;have cb:(b==0)=false:=beq_eq_false_iff_ne.mpr c;simp only[Pzz,cF,Nat.reduceAdd,Nat.reduceSub,gf,cb,pQ,hG hb,e]
theorem KC {a b:Int}(h0:0<=a)(h1:0<=b)(h2:b<1000000000000):bb [.int a,.int b]=.ok (.int (Y7 a.toNat b.toNat)):=by
 obtain⟨o',e⟩:=BC 1000000000000 a b none h0 h1 h2;unfold bb d7;simp only[Pzz,cF,Nat.reduceAdd,Nat.reduceSub,BB h0,BB h1,e]
theorem BD:∀(n:Nat) (a b:Int),0<=a->0<=b->b<n->fR (gB (aZ QO (af 1) (gC (.int 0)))) (HH 0 1 (ag (af 1) (ag (aZ o9 (af 0) (af 1)) aq))) n [some (.int a),some (.int b)]=.nx [some (.int (Y7 a.toNat b.toNat)),some (.int 0)]
 |0,a,b,h0,h1,h2=>by lia
 |n+1,a,b,h0,h1,h2=>by
  by_cases c:b=0
  ·subst c;have:((Y7 a.toNat (0:Int).toNat:Nat):Int)=a:=by rw[show (0:Int).toNat=0 from rfl,Nat.gcd_zero_right];lia
   rw[this];simp only[Pzz,cF,Nat.reduceAdd,Nat.reduceSub,Int.reduceLT,decide_false,pQ]
  ·have hb:0<b:=by lia
   have e:=BD n b (a % b) h1 (Zh _ c) (by have:=YL a hb;lia);rw[ya h0 hb] at e;simp only[Pzz,cF,Nat.reduceAdd,Nat.reduceSub,pQ,hG hb,e]
theorem PZ {a b:Int}(h0:0<=a)(h1:0<=b)(h2:b<1000000000000):de [.int a,.int b]=.ok (.int (Y7 a.toNat b.toNat)):=by
 have e:=BD 1000000000000 a b h0 h1 h2;unfold de gN;simp only[Pzz,cF,Nat.reduceAdd,Nat.reduceSub,BB h0,BB h1,e]
noncomputable def Wb (u:U)(ρ:Ev):R (List U×Ev):=match u with
 | .dct ks us=>if zC ks=true then .ok (us,ρ) else .stk
 |_=>.stk
noncomputable def T3 (u:U)(ρ:Ev):R (List U×Ev):=match u with
 | .dct ks us=>if zC ks=true then .ok (X1 (λk u=>.tup [k,u]) ks us,ρ) else .stk
 |_=>.stk
theorem P0 {g:Ev->R (U×Ev)}:QZ g ρ=(g ρ).bind λx=>T3 x.1 x.2:=nr rfl
noncomputable def NQ (p:List Int×Int):U:=.tup [ar p.1,.int p.2]
theorem BE (h:d≠[]):T3 (DU d) ρ=.ok (d.map NQ,ρ):=by
 refine (hZ (Gd h)).trans ?_;have e:∀d:Dc,X1 (λk u=>U.tup [k,u]) (d.map λp=>ar p.1) (d.map λp=>U.int p.2)=d.map NQ:=by
  intro d
  induction d with
  |nil=>rfl
  |cons p d ih=>rw[WD,WD,WD,XN,ih];rfl
 rw[e]
noncomputable def Sl (i:Nat):SR->SR
 | .nx ρ'=>.nx (ρ'.set i none)
 | .bk ρ'=>.bk (ρ'.set i none)
 | .ct ρ'=>.ct (ρ'.set i none)
 | .rt u ρ'=>.rt u (ρ'.set i none)
 |r=>r
theorem KD {g:Ev->SR}:xb i g ρ=Sl i (g ρ):=nr (by unfold xb Sl;cases g ρ<;>rfl)
theorem Gf:Sl i (.rt u ρ)=.rt u (ρ.set i none):=nr rfl
theorem P2 {k:List Int}(h:k∈d.map (·.1)):o_ (DU d) (ar k)=.ok (.int (iK d k)):=by
 have e:o_ (DU d) (ar k)=if kA (oN d) (ar k)=true then (match cW (oN d) (Dj d) (ar k) with
  |some z=>.ok z
  |none=>.stk) else .stk:=rfl
 rw[e,hZ (vI d k),zV,hZ h]
theorem IY {a b:U}:cD 2 (aE (bH i) (aE (bH j) cC)) (.tup [a,b]) ρ=.ok ((ρ.set i (some a)).set j (some b)):=nr rfl
noncomputable def cT (a b:List Int):List Int:=b.map λi=>a.getD i.toNat 0
theorem BF {a b:List Int}(h:∀i∈b,0<=i/\i<a.length):yt (vW [none,some 0] (bH 0) c8 (aZ kJ (af 1) (af 0)) [some (ar a),some (ar b)]) (b.map U.int)=.ok ((cT a b).map U.int):=by
 have e:=eT (f:=vW [none,some 0] (bH 0) c8 (aZ kJ (af 1) (af 0)) [some (ar a),some (ar b)]) (c:=U.int) (g:=λi:Int=>U.int (a.getD i.toNat 0)) (xs:=b) λi hi=>by
  obtain⟨h0,h1⟩:=h i hi;obtain⟨n,rfl⟩:∃n:Nat,i=n:=⟨i.toNat,by lia⟩;have hn:n<a.length:=by lia
  have e1:lU (a.map U.int) (n:Int)=some (.int a[n]):=by rw[w9,W3,Wz hn];rfl
  have e2:a.getD (n:Int).toNat 0=a[n]:=by rw[Xm,Zn,Wz hn];rfl
  simp only[Pzz,cF,Nat.reduceAdd,Nat.reduceSub,ar,e1,e2]
 rw[e];unfold cT;rw[Xb];rfl
theorem Gg {a b:List Int}(h:∀i∈b,0<=i/\i<a.length)(hl:b.length<=1000):gK [ar a,ar b]=.ok (ar (cT a b)):=by
 have e:=BF h;have sz:((cT a b).map U.int).length<=WJ:=by rw[WA];unfold cT;rw[WA];have:WJ=16777216:=rfl;lia
 unfold gK lq;simp only[ar] at e ⊢;simp only[Pzz,cF,Nat.reduceAdd,Nat.reduceSub,e,sz]
theorem uT {a b:List Int}(h:∀i∈b,0<=i/\i<a.length)(hl:b.length<=1000):dg [ar a,ar b]=.ok (ar (cT a b)):=by
 have e:=BF h;have sz:((cT a b).map U.int).length<=WJ:=by rw[WA];unfold cT;rw[WA];have:WJ=16777216:=rfl;lia
 unfold dg jW;simp only[ar] at e ⊢;simp only[Pzz,cF,Nat.reduceAdd,Nat.reduceSub,e,sz]
theorem uh:∀ns:List Int,iu (ns.map U.int)=some ns
 | []=>rfl
 |n::ns=>by rw[WD];show (iu (ns.map U.int)).map _=_;rw[uh ns];rfl
theorem mL:∀{lG:List (List Int)},(∀ns∈lG,ns≠[])->oH (lG.map ar)=some lG
 | [],_=>rfl
 |ns::lG,h=>by
  rw[WD];unfold oH;have e1:IH (ar ns)=some ns:=by
   show (match iu (ns.map U.int) with|some (n::ns)=>some (n::ns)|_=>none)=_;rw[uh];cases ns with
   |nil=>exact absurd rfl (h [] WG)
   |cons=>rfl
  rw[e1,mL λx hx=>h x (WI _ hx)]
theorem C7 (h:d≠[])(ln:d.length<100000)(hr:∀p∈d,p.1≠[]):kO [DU d]=.ok (.lst ((eo (d.map (·.1))).map ar)):=by
 have e:kO [DU d]=if zC (oN d)=true then iI (oN d) else .stk:=rfl
 rw[e,hZ (Gd h)];unfold iI;have e2:oH (oN d)=some (d.map (·.1)):=by
  have:oN d=(d.map (·.1)).map ar:=by unfold oN;rw[Xb];rfl
  rw[this];exact mL λns hn=>by obtain⟨p,hp,rfl⟩:=WS.mp hn;exact hr p hp
 rw[e2];dsimp only;rw[hZ (by rw[WA];lia)]
theorem IZ (ss:List (List Int)):uW (SU ss)=λρ=>.ok (ss.map ar,ρ):=by funext ρ;exact zo
noncomputable def ff (t b:Int):Int×Int:=(t / (Y7 t.toNat b.toNat:Nat),b / (Y7 t.toNat b.toNat:Nat))
noncomputable def e_ (p:Int×Int):U:=.tup [.int p.1,.int p.2]
theorem Gh {p q:Nat}(hq:0<q)(hm:0<m)(hc:Y7 p q=1)(h:p*m=n*q):n / Y7 n m=p/\m / Y7 n m=q:=by
 have d:q ∣ m:=by
  have:q ∣ p*m:=⟨n,by rw[h,YT]⟩;exact (Nat.Coprime.dvd_of_dvd_mul_left (k:=q) (n:=m) (m:=p) (by rw[Nat.coprime_iff_gcd_eq_one,Nat.gcd_comm];exact hc) this)
 obtain⟨k,rfl⟩:=d;have hk:0<k:=Nat.pos_of_ne_zero λe=>by subst e;simp at hm
 have hn:n=p*k:=by
  have:n*q=(p*k)*q:=by rw[←h,YT q k,Yp]
  exact Nat.eq_of_mul_eq_mul_right hq this
 subst hn;have g:Y7 (p*k) (q*k)=k:=by rw[Nat.gcd_mul_right,hc,Nat.one_mul]
 rw[g];exact⟨Nat.mul_div_cancel _ hk,Nat.mul_div_cancel _ hk⟩
theorem yb {p q t b:Int}(hp:0<=p)(hq:0<q)(ht:0<=t)(hb:0<b)(hc:Y7 p.toNat q.toNat=1)(h:p*b=t*q):ff t b=(p,q):=by
 obtain⟨p,rfl⟩:∃n:Nat,p=n:=⟨p.toNat,by lia⟩;obtain⟨q,rfl⟩:∃n:Nat,q=n:=⟨q.toNat,by lia⟩;obtain⟨t,rfl⟩:∃n:Nat,t=n:=⟨t.toNat,by lia⟩;obtain⟨b,rfl⟩:∃n:Nat,b=n:=⟨b.toNat,by lia⟩;have h':p*b=t*q:=by exact_mod_cast h
 obtain⟨e1,e2⟩:=Gh (by lia) (by lia) (by simpa using hc) h';unfold ff;simp only[Xm];rw[←aaB,←aaB,e1,e2]
theorem lC {t b:Int}(ht:0<=t)(hb:0<b):0<=(ff t b).1/\0<(ff t b).2/\(ff t b).1*b=t*(ff t b).2/\Y7 (ff t b).1.toNat (ff t b).2.toNat=1/\(ff t b).2 ∣ b:=by
 obtain⟨t,rfl⟩:∃n:Nat,t=n:=⟨t.toNat,by lia⟩;obtain⟨b,rfl⟩:∃n:Nat,b=n:=⟨b.toNat,by lia⟩;have pZ:0<b:=by lia
 have hg:0<Y7 t b:=acF _ pZ;have d1:=Nat.gcd_dvd_left t b;have d2:=Nat.gcd_dvd_right t b;unfold ff;simp only[Xm];rw[←aaB,←aaB];refine⟨Int.natCast_nonneg _,?_,?_,?_,?_⟩
 ·have:=Nat.div_pos (Nat.le_of_dvd pZ d2) hg;lia
 ·have:t / Y7 t b*b=t*(b / Y7 t b):=by
   generalize Y7 t b=g at d1 d2
   calc t / g*b=t / g*(b / g*g):=by rw[Nat.div_mul_cancel d2]
    _=(t / g*g)*(b / g):=by rw[YT (b / g) g,Yp]
    _=t*(b / g):=by rw[Nat.div_mul_cancel d1]
  exact_mod_cast this
 ·simp only[Xm];exact Nat.coprime_div_gcd_div_gcd hg
 ·exact aa2.mpr (Nat.div_dvd_of_dvd d2)
theorem M_ {t b t' b':Int}(ht:0<=t)(hb:0<b)(VP:0<=t')(pZ:0<b')(h:t*b'=t'*b):ff t b=ff t' b':=by
 obtain⟨r1,r2,r3,r4,_⟩:=lC VP pZ;refine yb r1 r2 ht hb r4 ?_;have:((ff t' b').1*b)*b'=(t*(ff t' b').2)*b':=by
  calc ((ff t' b').1*b)*b'=((ff t' b').1*b')*b:=by rw[Yq,aaM b b',←Yq]
   _=(t'*(ff t' b').2)*b:=by rw[r3]
   _=(t'*b)*(ff t' b').2:=by rw[Yq,aaM _ b,←Yq]
   _=(t*b')*(ff t' b').2:=by rw[h]
   _=(t*(ff t' b').2)*b':=by rw[Yq,aaM b',←Yq]
 exact Int.eq_of_mul_eq_mul_right (by lia) this
theorem BG {v:Int}(h:0<g)(h2:g<1000000000000):iQ (.int v) (.int g)=.ok (.int (v / g)):=by
 have d:decide ((0:Int)<(g:Int))=true:=hG (by lia);have c:wG v (g:Int)=true:=pR (by lia) (by lia);simp only[zp,d,c,if_true]
theorem ui {t b:Int}(hb:0<b)(h2:b<1000000000000):0<Y7 t.toNat b.toNat/\Y7 t.toNat b.toNat<1000000000000:=by
 have h1:0<b.toNat:=by lia
 refine⟨acF _ h1,?_⟩;have:=Nat.gcd_le_right t.toNat h1;lia
theorem Gi {t b:Int}(h0:0<=t)(h1:0<b)(h2:b<1000000000000):kj [.int t,.int b]=.ok (e_ (ff t b)):=by
 have e:=KC h0 (by lia) h2;obtain⟨g1,g2⟩:=ui (t:=t) h1 h2;have d:decide (b<0)=false:=hJ (by lia);unfold kj vv;simp only[Pzz,cF,Nat.reduceAdd,Nat.reduceSub,e,d,BG g1 g2];rfl
theorem uj {t b:Int}(h0:0<=t)(h1:0<b)(h2:b<1000000000000):cw [.int t,.int b]=.ok (e_ (ff t b)):=by
 have e:=PZ h0 (by lia) h2;obtain⟨g1,g2⟩:=ui (t:=t) h1 h2;unfold cw jf;simp only[Pzz,cF,Nat.reduceAdd,Nat.reduceSub,e,BG g1 g2];rfl
noncomputable def wt (D:Int)(g:Int×Int):Int:=g.1*(D / g.2)
theorem P4 {D:Int}{g:Int×Int}(h:g.2 ∣ D):g.1*D=wt D g*g.2:=by
 unfold wt;rw[Yq,Int.ediv_mul_cancel h]
def kH (D:Int)(g:Int×Int):Prop:=0<=g.1/\0<g.2/\g.2 ∣ D
theorem KG {D:Int}(hD:0<D){g:Int×Int}(h:kH D g):0<=wt D g:=abp h.1 (Int.ediv_nonneg (by lia) (by have:=h.2.1;lia))
theorem I0 {f1 f2 g1 g2 S w D:Int}(h1:f1*D=S*f2)(h2:g1*D=w*g2):(f1*g2+g1*f2)*D=(S+w)*(f2*g2):=by
 rw[Int.add_mul,Int.add_mul];have a:f1*g2*D=S*(f2*g2):=by rw[Yq,aaM g2 D,←Yq,h1,Yq]
 have b:g1*f2*D=w*(f2*g2):=by rw[Yq,aaM f2 D,←Yq,h2,Yq,aaM g2 f2]
 rw[a,b]
theorem Gj {D:Int}(hD:0<D):∀{l:List (Int×Int)},(∀g∈l,kH D g)->0<=(l.map (wt D)).sum
 | [],_=>by simp
 |g::l,h=>by
  rw[WD,XH];have a:=KG hD (h g WG);have b:=Gj hD (l:=l) λx hx=>h x (WI _ hx);lia
theorem Gk {D S:Int}(hD:0<D)(hS:0<=S){g:Int×Int}(h:kH D g):ff ((ff S D).1*g.2+g.1*(ff S D).2) ((ff S D).2*g.2)=ff (S+wt D g) D:=by
 obtain⟨r1,r2,r3,_,_⟩:=lC hS hD;obtain⟨g0,g1,g2⟩:=h;have w0:=KG hD ⟨g0,g1,g2⟩;refine M_ ?_ (aaH r2 g1) (by lia) hD (I0 r3 (P4 g2));exact Int.add_nonneg (abp r1 (by lia)) (abp g0 (by lia))
theorem Gn {D:Int}(hD:0<D):ff 0 D=(0,1):=yb (by decide) (by decide) (by decide) hD (by decide) (by simp)
theorem P5:jg=aR (bB 1 (c9 (ag (gC (.int 0)) (ag (gC (.int 1)) aq)))) (aR (m9 (dO (af 0)) (cD 2 (aE (bH 2) (aE (bH 3) cC))) fz) (cE (af 1))):=rfl
theorem Gp {D:Int}(hD:0<D)(VQ:D<=100000){l:List (Int×Int)}(h:∀g∈l,kH D g):cS [.lst (l.map e_)]=.ok (e_ (ff ((l.map (wt D)).sum) D)):=by
 obtain⟨ρ,e,o2,o3,rfl⟩:=dB (us:=l.map e_) (sg:=cD 2 (aE (bH 2) (aE (bH 3) cC))) (s:=fz)
  (λi ρ=>∃o2 o3,ρ=[some (.lst (l.map e_)),some (e_ (ff (((l.take i).map (wt D)).sum) D)),o2,o3])
  (λi u ρ hu h00=>by
   obtain⟨o2,o3,hr⟩:=h00;subst hr;have hi:i<l.length:=by have:=(WL.mp hu).1;rwa [WA] at this
   rw[W3,Wz hi] at hu;obtain rfl:e_ l[i]=u:=by injection hu
   have hg:=h _ (Xp hi);have hS:=Gj hD (l:=l.take i) λx hx=>h x (Yi hx);obtain⟨r1,r2,r3,_,r5⟩:=lC hS hD;have Wu:(ff (((l.take i).map (wt D)).sum) D).2<=D:=aa3 hD r5;have UB:l[i].2<=D:=aa3 hD hg.2.2;have g2:=hg.2.1;have c1:iE (ff (((l.take i).map (wt D)).sum) D).1 l[i].2=true:=ja (by lia) (by lia);have c2:iE l[i].1 (ff (((l.take i).map (wt D)).sum) D).2=true:=ja (by lia) (by lia);have c3:iE (ff (((l.take i).map (wt D)).sum) D).2 l[i].2=true:=ja (by lia) (by lia);have m1:(ff (((l.take i).map (wt D)).sum) D).2*l[i].2<=100000*100000:=aav (by lia) (by lia) (by lia) (by lia);have q:=uj (t:=(ff (((l.take i).map (wt D)).sum) D).1*l[i].2+l[i].1*(ff (((l.take i).map (wt D)).sum) D).2) (b:=(ff (((l.take i).map (wt D)).sum) D).2*l[i].2)
    (Int.add_nonneg (abp r1 (by lia)) (abp hg.1 (by lia))) (aaH r2 g2) (by lia)
   rw[Gk hD hS hg] at q;have sm:(((l.take (i+1)).map (wt D)).sum)=((l.take i).map (wt D)).sum+wt D l[i]:=by
    rw[Xi hi,WW,List.sum_append,WD,X0,XH,List.sum_nil,Int.add_zero]
   rw[sm];refine⟨[some (.lst (l.map e_)),some (e_ (ff (((l.take i).map (wt D)).sum) D)),some (.int l[i].1),some (.int l[i].2)],[some (.lst (l.map e_)),some (e_ (ff (((l.take i).map (wt D)).sum+wt D l[i]) D)),some (.int l[i].1),some (.int l[i].2)],IY,.inl ?_,_,_,rfl⟩;unfold fz;unfold e_ at q ⊢;simp only[Pzz,cF,Nat.reduceAdd,Nat.reduceSub,c1,c2,c3,q])
  (ρ:=[some (.lst (l.map e_)),some (e_ (ff 0 D)),none,none]) ⟨_,_,rfl⟩
 rw[WA,X2] at e;rw[Gn hD] at e;unfold cS;rw[P5];unfold e_ at e ⊢;simp only[Pzz,cF,Nat.reduceAdd,Nat.reduceSub,e]
theorem zY {vf:List Int->U}(k:List Int):∀ks:List (List Int),cW (ks.map ar) (ks.map vf) (ar k)=if k∈ks then some (vf k) else none
 | []=>rfl
 |x::ks=>by
  rw[WD,WD];unfold cW;by_cases c:x=k
  ·subst c;rw[hZ rfl,hZ WG]
  ·rw[hV (λz=>c (eU.mp z)),zY k ks];by_cases d:k∈ks
   ·rw[hZ d,hZ (WI _ d)]
   ·rw[hV d,hV (λz=>(WV.mp z).elim (λe=>c e.symm) d)]
theorem mM {k:List Int}{ks:List (List Int)}:ar k∈ks.map ar↔k∈ks:=by
 constructor
 ·intro h;obtain⟨x,hx,e⟩:=WS.mp h;rw[←eU.mp e];exact hx
 ·exact λh=>Xh h
theorem I_ (ks:List (List Int))(k:List Int):cK (ks.map ar) (ar k)=(ie ks k).map ar:=by
 unfold cK ie;by_cases c:k∈ks
 ·rw[hZ (mM.mpr c),hZ c]
 ·rw[hV (λz=>c (mM.mp z)),hV c,WW];rfl
theorem KI {vf:List Int->U}{w:U}(k:List Int):∀ks:List (List Int),X1 (λk' u=>if k'=ar k then w else u) (ks.map ar) (ks.map vf)=ks.map λk'=>if k'=k then w else vf k'
 | []=>rfl
 |x::ks=>by
  rw[WD,WD,XN,KI k ks,WD];congr 1;by_cases c:x=k
  ·rw[hZ (eU.mpr c),hZ c]
  ·rw[hV (λz=>c (eU.mp z)),hV c]
theorem Ja {vf:List Int->U}{w:U}(ks:List (List Int))(k:List Int):cc (ks.map ar) (ks.map vf) (ar k) w=(ie ks k).map λk'=>if k'=k then w else vf k':=by
 unfold cc ie;by_cases c:k∈ks
 ·rw[hZ (mM.mpr c),hZ c,KI]
 ·rw[hV (λz=>c (mM.mp z)),hV c,WW];congr 1
  ·refine Xl λx hx=>?_;rw[hV (λ(e:x=k)=>c (e▸hx))]
  ·show [w]=[if k=k then w else _];rw[hZ rfl]
noncomputable abbrev Fl:=List (List Int×Int×Int)
noncomputable def cx (F:Fl):List (List Int):=eP (F.map (·.1))
noncomputable def r_ (F:Fl)(k:List Int):List (Int×Int):=(F.filter λx=>decide (x.1=k)).map (·.2)
noncomputable def TU (F:Fl):U:=.dct ((cx F).map ar) ((cx F).map λk=>.lst ((r_ F k).map e_))
theorem zZ (F:Fl)(x:List Int×Int×Int):cx (F++[x])=ie (cx F) x.1:=by
 unfold cx eP;rw[WW,abm];rfl
theorem Gq (F:Fl)(x:List Int×Int×Int)(k:List Int):r_ (F++[x]) k=r_ F k++if x.1=k then [x.2] else []:=by
 unfold r_;rw[List.filter_append,WW];congr 1;by_cases c:x.1=k
 ·rw[hZ c,List.filter_cons_of_pos (by simpa using c)];rfl
 ·rw[hV c,List.filter_cons_of_neg (by simpa using c)];rfl
theorem eD:∀(l bz:List (List Int)) (x:List Int),x∈l.foldl ie bz↔x∈bz\/x∈l
 | [],bz,x=>by simp
 |y::l,bz,x=>by
  rw[YX,eD l (ie bz y) x,WV];unfold ie;split
  ·rename_i c;constructor
   ·rintro (h|h)
    ·exact .inl h
    ·exact .inr (.inr h)
   ·rintro (h|h|h)
    ·exact .inl h
    ·rw[h];exact .inl c
    ·exact .inr h
  ·rw[W0,WU];constructor
   ·rintro ((h|h)|h)
    ·exact .inl h
    ·exact .inr (.inl h)
    ·exact .inr (.inr h)
   ·rintro (h|h|h)
    ·exact .inl (.inl h)
    ·exact .inl (.inr h)
    ·exact .inr h
theorem kq {F:Fl}{k:List Int}:k∈cx F↔k∈F.map (·.1):=by
 unfold cx eP;rw[eD];simp
theorem Jb {F:Fl}{k:List Int}(h:k∉cx F):r_ F k=[]:=by
 unfold r_;rw[List.filter_eq_nil_iff.mpr λx hx=>?_];rfl;intro e;exact h (kq.mpr (WS.mpr ⟨x,hx,of_decide_eq_true e⟩))
theorem lD:∀(l bz:List (List Int)),bz.Nodup->(l.foldl ie bz).Nodup
 | [],bz,h=>h
 |y::l,bz,h=>by
  rw[YX];refine lD l _ ?_;unfold ie;split
  ·exact h
  ·rename_i c;refine Ye.mpr ⟨h,XX _ _,λa ha b hb e=>?_⟩;rw[WU] at hb;exact c (hb▸e▸ha)
theorem yc (F:Fl):(cx F).Nodup:=lD _ _ Y9
theorem rQ:∀(l bz:List (List Int)),(l.foldl ie bz).length<=bz.length+l.length
 | [],bz=>by simp
 |y::l,bz=>by
  rw[YX,WT];have:=rQ l (ie bz y);have h2:(ie bz y).length<=bz.length+1:=by unfold ie;split<;>simp
  lia
theorem uk (F:Fl):(cx F).length<=F.length:=by
 have:=rQ (F.map (·.1)) [];unfold cx eP;simpa using this
theorem Jc {F:Fl}(hF:F.length<1000000){gk:Ev->R (U×Ev)}{k:List Int}{ρ':Ev}(h:ρ[i]? = some (some (TU F)))(hk:gk (ρ.set i none)=.ok (ar k,ρ')){gv:Ev->R (U×Ev)}{f:Int×Int}{ρ'':Ev}(hv:gv (ρ.set i none)=.ok (e_ f,ρ''))(hl:(r_ F k).length<1000000) :
  F1 i (rC i (xE 0) (oJ i) gk) gv ρ=.nx (ρ.set i (some (TU (F++[(k,f)])))):=by
 have sz:WJ=16777216:=rfl;have kl:=uk F;have r1:oJ i ρ=.ok (TU F,id):=by unfold oJ;rw[h]
 have r2:rC i (xE 0) (oJ i) gk ρ=.ok (.lst ((r_ F k).map e_),λw=>.dct (cK ((cx F).map ar) (ar k)) (cc ((cx F).map ar) ((cx F).map λk=>U.lst ((r_ F k).map e_)) (ar k) w)):=by
  unfold rC;rw[r1];dsimp only[L2.R.bind];rw[hk];dsimp only[L2.R.bind];unfold TU;dsimp only;rw[hZ ⟨rP k,by rw[WA,sz];lia⟩,zY];have:(if k∈cx F then some (U.lst ((r_ F k).map e_)) else none).getD (xE 0)=U.lst ((r_ F k).map e_):=by
   by_cases c:k∈cx F
   ·rw[hZ c];rfl
   ·rw[hV c,Jb c];rfl
  rw[this];rfl
 unfold F1;rw[r2];dsimp only[L2.SR.of];rw[hv];dsimp only[L2.SR.of];rw[hZ (by rw[WA,sz];lia)];congr 2;congr 1;unfold TU;rw[zZ,I_,Ja];congr 1;refine Xl λx hx=>?_;rw[Gq];by_cases c:x=k
 ·subst c;rw[hZ rfl,hZ rfl,WW];rfl
 ·rw[hV c,hV (λe=>c e.symm),Xt]
theorem yd {s:Ev->SR}(I:Nat->Ev->Prop)(step:∀(j:Nat) (u:U) (ρ:Ev),us[j]? = some u->I j ρ->∃ρ1 ρ2,sg u (ρ.set i none)=.ok ρ1/\s (ρ1.set i (ρ[i]?.getD none))=.nx ρ2/\I (j+1) ρ2)(h:I 0 ρ) :
  ∃ρ',vt i sg s us ρ=.nx ρ'/\I us.length ρ':=by
 have gen:∀(n j:Nat) (ρ:Ev),j+n=us.length->I j ρ->∃ρ',vt i sg s (us.drop j) ρ=.nx ρ'/\I us.length ρ':=by
  intro n
  induction n with
  |zero=>
   intro j ρ hj h;have:j=us.length:=by lia
   subst this;rw[Zo];exact⟨ρ,rfl,h⟩
  |succ n ih=>
   intro j ρ hj h;have sP:j<us.length:=by lia
   obtain⟨ρ1,ρ2,a,b,c⟩:=step j us[j] ρ (Wz sP) h;obtain⟨ρ',d,e⟩:=ih (j+1) ρ2 (by lia) c;refine⟨ρ',?_,e⟩;rw[XO sP];unfold vt;rw[a];show (match s (ρ1.set i (ρ[i]?.getD none)) with|.nx ρ2=>_|.ct ρ2=>_|.bk ρ2=>_|r=>_)=_;rw[b];exact d
 have:=gen us.length 0 ρ (by lia) h
 rwa [ZZ] at this
variable {F:Hc.Fl}
noncomputable abbrev Mx:=List (List Int×Int×Int)
noncomputable def mx (p:List Int×Int×Int):U:=.tup [ar p.1,e_ p.2]
noncomputable def bE (m:Mx):U:=.lst (m.map mx)
structure Sf (n:Nat)(ss:List (List Int)):Prop where
 n1:1<=n
 n8:n<=8
 o:∀o∈ss,rN n o
 l1:1<=ss.length
 l2:ss.length<=24
structure ye (n:Nat)(D:Int)(m:Mx):Prop where
 ne:m≠[]
 nd:(m.map (·.1)).Nodup
 el:∀p∈m,p.1.length=n/\kH D p.2
 ps:∀p∈m,1<=p.2.1
 ln:m.length<=100
 d0:0<D
 d1:D<=1000
noncomputable def GO (c:Nat)(p:List Int×Int×Int)(o:List Int):List Int×Int×Int:=(cT p.1 o,p.2.1,p.2.2*(c:Nat))
noncomputable def dN (m:Mx)(ss:List (List Int)):Fl:=m.flatMap λp=>ss.map (GO ss.length p)
theorem BH {o:List Int}(h:rN n o):∀i∈o,0<=i/\i<n:=λi hi=>zx.mp (h.mem_iff.mp hi)
theorem pX {o:List Int}(h:rN n o):o.length=n:=by have:=h.length_eq;rwa [fi] at this
noncomputable def C8:Ev->SR:=(F1 2 (rC 2 (xE 0) (oJ 2) (kz 2 dg (ag (af 3) (ag (af 5) aq)))) (c9 (ag (aZ kJ (af 4) (gC (.int 0))) (ag (aZ d_ (aZ kJ (af 4) (gC (.int 1))) (i0 jK (ag (af 1) aq))) aq))))
theorem Gs {D:Int}{m:Mx}(hm:ye n D m)(hs:Sf n ss){p:List Int×Int×Int}(hp:p∈m)(hF:F.length<10000){x0:Option U} :
  ∃o5',iw 2 (dO (af 1)) (bH 5) C8 [x0,some (SU ss),some (TU F),some (ar p.1),some (e_ p.2),o5]=.nx [x0,some (SU ss),some (TU (F++ss.map (GO ss.length p))),some (ar p.1),some (e_ p.2),o5']:=by
 have Dd:=hs.l2;obtain⟨ρ,e,o5',rfl⟩:=yd (i:=2) (us:=ss.map ar) (sg:=bH 5) (s:=C8) (λj ρ=>∃o5,ρ=[x0,some (SU ss),some (TU (F++(ss.take j).map (GO ss.length p))),some (ar p.1),some (e_ p.2),o5])
  (λj u ρ hu h00=>by
   obtain⟨o5,hr⟩:=h00;subst hr;have hj:j<ss.length:=by have:=(WL.mp hu).1;rwa [WA] at this
   rw[W3,Wz hj] at hu;obtain rfl:ar ss[j]=u:=by injection hu
   have ho:=hs.o _ (Xp hj);obtain⟨el1,el2⟩:=hm.el p hp;have lo:=uT (a:=p.1) (b:=ss[j]) (λi hi=>by rw[el1];exact BH ho i hi) (by rw[pX ho];have:=hs.n8;lia);have UB:p.2.2<=D:=aa3 hm.d0 el2.2.2;have d1:=hm.d1;have c:iE p.2.2 ((ss.length:Nat):Int)=true:=ja (by lia) (by lia);have tl:(ss.take j).length<=24:=by rw[Xc];lia
   refine⟨[x0,some (SU ss),none,some (ar p.1),some (e_ p.2),some (ar ss[j])],[x0,some (SU ss),some (TU (F++(ss.take (j+1)).map (GO ss.length p))),some (ar p.1),some (e_ p.2),some (ar ss[j])],rfl,?_,_,rfl⟩;have a:=Jc (F:=F++(ss.take j).map (GO ss.length p)) (by rw[WN,WA];lia) (i:=2) (ρ:=[x0,some (SU ss),some (TU (F++(ss.take j).map (GO ss.length p))),some (ar p.1),some (e_ p.2),some (ar ss[j])]) (k:=cT p.1 ss[j]) (f:=(p.2.1,p.2.2*(ss.length:Nat)))
    (gk:=kz 2 dg (ag (af 3) (ag (af 5) aq))) (gv:=c9 (ag (aZ kJ (af 4) (gC (.int 0))) (ag (aZ d_ (aZ kJ (af 4) (gC (.int 1))) (i0 jK (ag (af 1) aq))) aq)))
    (ρ':=[x0,some (SU ss),none,some (ar p.1),some (e_ p.2),some (ar ss[j])]) (ρ'':=[x0,some (SU ss),none,some (ar p.1),some (e_ p.2),some (ar ss[j])]) rfl
    (by simp only[Pzz,cF,Nat.reduceAdd,Nat.reduceSub,lo]) (by unfold e_ SU;simp only[Pzz,cF,Nat.reduceAdd,Nat.reduceSub,WA,c]) (by
     unfold r_;rw[WA];have:=List.length_filter_le (λx:List Int×Int×Int=>decide (x.1=cT p.1 ss[j])) (F++(ss.take j).map (GO ss.length p));rw[WN,WA] at this;lia)
   rw[Xi hj,WW,←W8];exact a)
  (ρ:=[x0,some (SU ss),some (TU F),some (ar p.1),some (e_ p.2),o5]) ⟨o5,by simp⟩
 refine⟨o5',?_⟩;rw[WA,X2] at e;unfold iw;show SR.of (dO (af 1) [x0,some (SU ss),none,some (ar p.1),some (e_ p.2),o5]) _=_;have g:dO (af 1) [x0,some (SU ss),none,some (ar p.1),some (e_ p.2),o5]=.ok (ss.map ar,[x0,some (SU ss),none,some (ar p.1),some (e_ p.2),o5]):=by unfold SU;simp only[aD,dh,NS,cF,Nat.reduceAdd,Nat.reduceSub]
 rw[g];exact e
theorem yf (m:Mx)(ss:List (List Int)):(dN m ss).length=m.length*ss.length:=by
 unfold dN
 induction m with
 |nil=>simp
 |cons p m ih=>rw[ZO,WN,ih,WA,WT,Nat.add_mul,Nat.one_mul,Nat.add_comm]
theorem Gu {D:Int}{m:Mx}(hm:ye n D m)(hs:Sf n ss) :
  ∃o3 o4 o5,iw 2 (dO (af 0)) (cD 2 (aE (bH 3) (aE (bH 4) cC))) (iw 2 (dO (af 1)) (bH 5) C8) [some (bE m),some (SU ss),some (.dct [] []),none,none,none]=.nx [some (bE m),some (SU ss),some (TU (dN m ss)),o3,o4,o5]:=by
 have Dd:=hs.l2;have Wv:=hm.ln;obtain⟨ρ,e,o3,o4,o5,rfl⟩:=yd (i:=2) (us:=m.map mx) (sg:=cD 2 (aE (bH 3) (aE (bH 4) cC))) (s:=iw 2 (dO (af 1)) (bH 5) C8) (λj ρ=>∃o3 o4 o5,ρ=[some (bE m),some (SU ss),some (TU (dN (m.take j) ss)),o3,o4,o5])
  (λj u ρ hu h00=>by
   obtain⟨o3,o4,o5,hr⟩:=h00;subst hr;have hj:j<m.length:=by have:=(WL.mp hu).1;rwa [WA] at this
   rw[W3,Wz hj] at hu;obtain rfl:mx m[j]=u:=by injection hu
   have tl:(m.take j).length<=100:=by rw[Xc];lia
   have fl:(dN (m.take j) ss).length<10000:=by
    rw[yf];have:(m.take j).length*ss.length<=100*24:=aau tl Dd;lia
   obtain⟨o5',q⟩:=Gs hm hs (Xp hj) fl (x0:=some (bE m)) (o5:=o5);refine⟨[some (bE m),some (SU ss),none,some (ar m[j].1),some (e_ m[j].2),o5],[some (bE m),some (SU ss),some (TU (dN (m.take (j+1)) ss)),some (ar m[j].1),some (e_ m[j].2),o5'],IY,?_,_,_,_,rfl⟩;have ef:dN (m.take (j+1)) ss=dN (m.take j) ss++ss.map (GO ss.length m[j]):=by
    unfold dN;rw[Xi hj,List.flatMap_append,ZO,List.flatMap_nil,Xt]
   rw[ef];exact q)
  (ρ:=[some (bE m),some (SU ss),some (.dct [] []),none,none,none]) ⟨_,_,_,rfl⟩
 refine⟨o3,o4,o5,?_⟩;rw[WA,X2] at e;unfold iw;show SR.of (dO (af 0) [some (bE m),some (SU ss),none,none,none,none]) _=_;have g:dO (af 0) [some (bE m),some (SU ss),none,none,none,none]=.ok (m.map mx,[some (bE m),some (SU ss),none,none,none,none]):=by unfold bE;simp only[aD,dh,NS,cF,Nat.reduceAdd,Nat.reduceSub]
 rw[g];exact e
theorem Na {ks:List (List Int)}(h:ks≠[])(ln:ks.length<100000)(hr:∀k∈ks,k≠[]):kO [.dct (ks.map ar) us]=.ok (.lst ((eo ks).map ar)):=by
 have w:zC (ks.map ar)=true:=by
  unfold zC;have:(ks.map ar).all Mw=true:=XR.mpr λu hu=>by
   obtain⟨k,_,rfl⟩:=WS.mp hu;rfl
  rw[this];cases ks with
  |nil=>exact absurd rfl h
  |cons=>rfl
 unfold kO;show rq [.dct (ks.map ar) us]=_;unfold rq;dsimp only;rw[hZ w];unfold iI;rw[mL hr];exact hZ (by lia)
noncomputable def Jd (D:Int)(F:Fl):Mx:=(eo (cx F)).map λk=>(k,ff (((r_ F k).map (wt D)).sum) D)
theorem Sm {k:List Int}(h:k∈cx F):o_ (TU F) (ar k)=.ok (.lst ((r_ F k).map e_)):=by
 have f:kA ((cx F).map ar) (ar k)=true:=by
  unfold kA;rw[rP,Bool.true_and];have:((cx F).map ar).all Ex=true:=XR.mpr λu hu=>by
   obtain⟨k,_,rfl⟩:=WS.mp hu;rfl
  rw[this,Bool.or_true]
 unfold TU o_;dsimp only;rw[hZ f,zY,hZ h]
theorem BI {D:Int}{m:Mx}(hm:ye n D m)(hs:Sf n ss):∀x∈dN m ss,x.1.length=n/\kH (D*(ss.length:Nat)) x.2:=by
 intro x hx;unfold dN at hx;obtain⟨p,hp,hx⟩:=Zq.mp hx;obtain⟨o,ho,rfl⟩:=WS.mp hx;obtain⟨e1,e2,e3,e4⟩:=hm.el p hp;refine⟨?_,e2,?_,?_⟩
 ·show (cT p.1 o).length=n;unfold cT;rw[WA];exact pX (hs.o o ho)
 ·exact aaH e3 (by have:=hs.l1;lia)
 ·exact Int.mul_dvd_mul e4 (Int.dvd_refl _)
theorem BJ {D:Int}{m:Mx}(hm:ye n D m)(hs:Sf n ss):cx (dN m ss)≠[]/\(cx (dN m ss)).length<=2400/\∀k∈cx (dN m ss),k.length=n/\k≠[]:=by
 refine⟨λe=>?_,?_,λk hk=>?_⟩
 ·obtain⟨p,m',em⟩:∃p m',m=p::m':=by
   cases hq:m with
   |nil=>exact absurd hq hm.ne
   |cons p m'=>exact⟨p,m',rfl⟩
  obtain⟨o,s',es⟩:∃o s',ss=o::s':=by
   cases hq:ss with
   |nil=>have:=hs.l1;rw[hq] at this;simp at this
   |cons p m'=>exact⟨p,m',rfl⟩
  have:(GO ss.length p o).1∈cx (dN m ss):=kq.mpr (Xh (Zq.mpr ⟨p,by rw[em];exact WG,Xh (by rw[es];exact WG)⟩));rw[e] at this;cases this
 ·have:=uk (dN m ss);rw[yf] at this;have h2:m.length*ss.length<=100*24:=aau hm.ln hs.l2;lia
 ·obtain⟨x,hx,rfl⟩:=WS.mp (kq.mp hk);have:=(BI hm hs x hx).1;refine⟨this,λe=>?_⟩;rw[e] at this;have:=hs.n1;simp at *;lia
theorem P6:lx=aR (bB 2 Me) (aR (uf 2 (iw 2 (dO (af 0)) (cD 2 (aE (bH 3) (aE (bH 4) cC))) (iw 2 (dO (af 1)) (bH 5) C8)))
 (xb 2 (cE (jG (dO (i0 kO (ag (af 2) aq))) [none,some 2] (bH 0) c8 (c9 (ag (af 0) (ag (kz 1 cS (ag (aZ o_ (af 1) (af 0)) aq)) aq))))))):=rfl
theorem Nb {D:Int}{m:Mx}(hm:ye n D m)(hs:Sf n ss):fq [bE m,SU ss]=.ok (bE (Jd (D*(ss.length:Nat)) (dN m ss))):=by
 obtain⟨o3,o4,o5,e⟩:=Gu hm hs;obtain⟨k1,k2,k3⟩:=BJ hm hs;have so:=Na (us:=(cx (dN m ss)).map λk=>.lst ((r_ (dN m ss) k).map e_)) k1 (by lia) (λk hk=>(k3 k hk).2);have D1:0<D*(ss.length:Nat):=aaH hm.d0 (by have:=hs.l1;lia);have D2:D*(ss.length:Nat)<=100000:=by
  have:D*(ss.length:Nat)<=1000*24:=aav hm.d1 (by have:=hs.l2;lia) (by lia) (by decide);lia
 have el:=eT (f:=vW [none,some 2] (bH 0) c8 (c9 (ag (af 0) (ag (kz 1 cS (ag (aZ o_ (af 1) (af 0)) aq)) aq))) [some (bE m),some (SU ss),some (TU (dN m ss)),o3,o4,o5]) (c:=ar) (g:=λk=>mx (k,ff (((r_ (dN m ss) k).map (wt (D*(ss.length:Nat)))).sum) (D*(ss.length:Nat)))) (xs:=eo (cx (dN m ss))) λk hk=>by
  have GW:=(a_ _).mem_iff.mp hk;have t:=Gp D1 D2 (l:=r_ (dN m ss) k) λg hg=>by
   unfold r_ at hg;obtain⟨x,hx,rfl⟩:=WS.mp hg;exact (BI hm hs x (List.mem_filter.mp hx).1).2
  simp only[Pzz,cF,Nat.reduceAdd,Nat.reduceSub,Sm GW,t];rfl
 have dp:uf 2 (iw 2 (dO (af 0)) (cD 2 (aE (bH 3) (aE (bH 4) cC))) (iw 2 (dO (af 1)) (bH 5) C8)) [some (bE m),some (SU ss),some (.dct [] []),none,none,none]=.nx [some (bE m),some (SU ss),some (TU (dN m ss)),o3,o4,o5]:=by
  unfold uf;show (match iw _ _ _ _ _ with|.nx ρ'=>_|.bk ρ'=>_|.ct ρ'=>_|_=>_)=_;rw[e]
 have VR:kO [TU (dN m ss)]=.ok (.lst ((eo (cx (dN m ss))).map ar)):=so;have sz:((eo (cx (dN m ss))).map λk=>mx (k,ff (((r_ (dN m ss) k).map (wt (D*(ss.length:Nat)))).sum) (D*(ss.length:Nat)))).length<=WJ:=by
  have:WJ=16777216:=rfl;rw[WA,(a_ _).length_eq];lia
 unfold fq;rw[P6];simp only[Pzz,cF,Nat.reduceAdd,Nat.reduceSub,KD,dp,VR,el,sz,Gf];unfold bE Jd;rw[Xb];rfl
noncomputable def bX (l:List (Int×Int)):Nat:=(l.map λg=>g.2.toNat).foldl Nat.lcm 1
theorem yg:∀(l:List Nat) (x D:Nat),(∀y∈l,y ∣ D)->x ∣ D->l.foldl Nat.lcm x ∣ D
 | [],x,D,_,h=>h
 |y::l,x,D,hl,h=>by
  rw[YX];exact yg l _ D (λz hz=>hl z (WI _ hz)) (Nat.lcm_dvd h (hl y WG))
theorem yi:∀(l:List Nat) (x:Nat),x ∣ l.foldl Nat.lcm x/\∀y∈l,y ∣ l.foldl Nat.lcm x
 | [],x=>⟨Nat.dvd_refl _,λy hy=>by cases hy⟩
 |z::l,x=>by
  rw[YX];obtain⟨h1,h2⟩:=yi l (Nat.lcm x z);refine⟨Nat.dvd_trans (Nat.dvd_lcm_left x z) h1,λy hy=>?_⟩;rcases WV.mp hy with rfl|hy
  ·exact Nat.dvd_trans (Nat.dvd_lcm_right x y) h1
  ·exact h2 y hy
theorem BK {D:Int}(hD:0<D){l:List (Int×Int)}(h:∀g∈l,kH D g):bX l ∣ D.toNat:=by
 refine yg _ 1 _ (λy hy=>?_) (Nat.one_dvd _);obtain⟨g,hg,rfl⟩:=WS.mp hy;obtain⟨_,g1,g2⟩:=h g hg;have:((g.2.toNat:Nat):Int) ∣ (D.toNat:Nat):=by
  rw[abY (by lia),abY (by lia)];exact g2
 exact aa2.mp this
theorem mN {D:Int}(hD:0<D){l:List (Int×Int)}(h:∀g∈l,kH D g):0<bX l:=Nat.pos_of_dvd_of_pos (BK hD h) (by lia)
theorem vK {D:Int}(hD:0<D){l:List (Int×Int)}(h:∀g∈l,kH D g):(bX l:Int)<=D:=by
 have:=Nat.le_of_dvd (by lia) (BK hD h);lia
theorem Gv {D:Int}{l:List (Int×Int)}(h:∀g∈l,kH D g):∀g∈l,g.2 ∣ (bX l:Int):=λg hg=>by
 have g1:=(h g hg).2.1;have:=(yi (l.map λg=>g.2.toNat) 1).2 g.2.toNat (Xh hg);have:=aa2.mpr this
 rwa [abY (by lia)] at this
theorem P7 {D:Int}(hD:0<D)(VQ:D<=1000){l:List (Int×Int)}(h:∀g∈l,kH D g):cq [.lst (l.map e_)]=.ok (.int (bX l)):=by
 obtain⟨ρ,e,o2,rfl⟩:=dB (us:=l.map e_) (sg:=bH 2) (s:=fj)
  (λi ρ=>∃o2,ρ=[some (.lst (l.map e_)),some (.int (bX (l.take i))),o2])
  (λi u ρ hu h00=>by
   obtain⟨o2,hr⟩:=h00;subst hr;have hi:i<l.length:=by have:=(WL.mp hu).1;rwa [WA] at this
   rw[W3,Wz hi] at hu;obtain rfl:e_ l[i]=u:=by injection hu
   have hg:=h _ (Xp hi);have ht:∀g∈l.take i,kH D g:=λg hg=>h g (Yi hg);have b0:=mN hD ht;have b1:=vK hD ht;have g1:=hg.2.1;have g2:l[i].2<=D:=aa3 hD hg.2.2;obtain⟨y,hy⟩:∃y:Nat,l[i].2=y:=⟨l[i].2.toNat,by lia⟩;have gd:=KC (a:=(bX (l.take i):Int)) (b:=(y:Int)) (by lia) (by lia) (by lia);simp only[Xm] at gd;have gp:0<Y7 (bX (l.take i)) y:=Nat.gcd_pos_of_pos_left _ b0;have gl:Y7 (bX (l.take i)) y<=bX (l.take i):=Nat.gcd_le_left _ b0;have c1:iE (bX (l.take i):Int) (y:Int)=true:=ja (by lia) (by lia);have st:bX (l.take (i+1))=Nat.lcm (bX (l.take i)) y:=by
    unfold bX;rw[Xi hi,WW,abm,WD,X0,YX,List.foldl_nil,hy,Xm]
   have lc:((bX (l.take i):Int)*(y:Int)) / ((Y7 (bX (l.take i)) y:Nat):Int)=((Nat.lcm (bX (l.take i)) y:Nat):Int):=by
    unfold Nat.lcm;rw[aaB,Int.natCast_mul]
   rw[st];refine⟨[some (.lst (l.map e_)),some (.int (bX (l.take i))),some (e_ l[i])],[some (.lst (l.map e_)),some (.int (Nat.lcm (bX (l.take i)) y:Nat)),some (e_ l[i])],rfl,.inl ?_,_,rfl⟩;unfold fj;unfold e_;rw[hy];simp only[Pzz,cF,Nat.reduceAdd,Nat.reduceSub,c1,gd,BG gp (by lia),lc])
  (ρ:=[some (.lst (l.map e_)),some (.int 1),none]) ⟨_,rfl⟩
 rw[WA,X2] at e;unfold cq fW;simp only[Pzz,cF,Nat.reduceAdd,Nat.reduceSub,e]
noncomputable def jk (B:Int)(m:Mx):Dc:=m.map λp=>(p.1,p.2.1*(B / p.2.2))
theorem Je {k:List Int}(v:Int)(h:k∉d.map (·.1)):jv d k v=d++[(k,v)]:=hV h
theorem P8 {v b:Int}(h:0<b)(h2:b<1000000000000):iQ (.int v) (.int b)=.ok (.int (v / b)):=by
 obtain⟨g,rfl⟩:∃g:Nat,b=g:=⟨b.toNat,by lia⟩;exact BG (by lia) (by lia)
theorem Nc {D:Int}{m:Mx}(hm:ye n D m){B:Nat}(hB:(B:Int)<=1000){x1 o4 o6:Option U} :
  ∃o4' o5',fY (cD 2 (aE (bH 4) (aE (bH 5) cC))) fK (m.map mx) [some (bE m),x1,some (.int B),some (.dct [] []),o4,o5,o6]=.nx [some (bE m),x1,some (.int B),some (DU (jk B m)),o4',o5',o6]:=by
 have ln:=hm.ln;have d1:=hm.d1;obtain⟨ρ,e,o4',o5',rfl⟩:=dB (us:=m.map mx) (sg:=cD 2 (aE (bH 4) (aE (bH 5) cC))) (s:=fK)
  (λi ρ=>∃o4 o5,ρ=[some (bE m),x1,some (.int B),some (DU (jk B (m.take i))),o4,o5,o6])
  (λi u ρ hu h00=>by
   obtain⟨o4,o5,hr⟩:=h00;subst hr;have hi:i<m.length:=by have:=(WL.mp hu).1;rwa [WA] at this
   rw[W3,Wz hi] at hu;obtain rfl:mx m[i]=u:=by injection hu
   obtain⟨_,e2,e3,e4⟩:=hm.el _ (Xp hi);have UB:m[i].2.2<=D:=aa3 hm.d0 e4;have ql:(jk B (m.take i)).length<1000000:=by unfold jk;rw[WA,Xc];lia
   have q0:0<=(B:Int) / m[i].2.2:=Int.ediv_nonneg (by lia) (by lia);have q1:(B:Int) / m[i].2.2<=B:=Int.ediv_le_self _ (by lia);have c:iE m[i].2.1 ((B:Int) / m[i].2.2)=true:=ja q0 (by lia);have nk:m[i].1∉(jk B (m.take i)).map (·.1):=λz=>by
    unfold jk at z;rw[Xb] at z;obtain⟨p,hp,e⟩:=WS.mp z;have nd:=hm.nd;rw[←Xu i m,WW,Ye] at nd;refine nd.2.2 p.1 (Xh hp) m[i].1 (Xh ?_) e;rw[XO hi];exact WG
   have sn:jk B (m.take (i+1))=jv (jk B (m.take i)) m[i].1 (m[i].2.1*((B:Int) / m[i].2.2)):=by
    rw[Je _ nk];unfold jk;rw[Xi hi,WW];rfl
   rw[sn];refine⟨[some (bE m),x1,some (.int B),some (DU (jk B (m.take i))),some (ar m[i].1),some (e_ m[i].2),o6],[some (bE m),x1,some (.int B),some (DU (jv (jk B (m.take i)) m[i].1 (m[i].2.1*((B:Int) / m[i].2.2)))),some (ar m[i].1),some (e_ m[i].2),o6],IY,.inl ?_,_,_,rfl⟩;unfold fK e_;simp only[Pzz,cF,Nat.reduceAdd,Nat.reduceSub,zW,vJ ql,P8 e3 (by lia),c])
  (ρ:=[some (bE m),x1,some (.int B),some (DU []),o4,o5,o6]) ⟨_,_,rfl⟩
 rw[WA,X2] at e;exact⟨o4',o5',e⟩
noncomputable def bo (W C:Dc):List (List Int×Int):=C.flatMap λo=>W.map λr=>(cT r.1 o.1,r.2*o.2)
theorem nH (W C:Dc):(bo W C).length=C.length*W.length:=by
 unfold bo
 induction C with
 |nil=>simp
 |cons o C ih=>rw[ZO,WN,ih,WA,WT,Nat.add_mul,Nat.one_mul,Nat.add_comm]
theorem P9 {W:Dc}(hW:W≠[])(wl:W.length<=100)(hr:∀r∈W,r.1.length=n){o:List Int×Int}(ho:rN n o.1)(n8:n<=8)(VS:0<=o.2)(Ww:o.2<1000){ws:List (List Int×Int)}(wb:ws.length<10000){x1 o6 o7:Option U} :
  ∃o5' o6' o7',km [some (DU W),x1,some (DU (aJ [] ws)),some (ar o.1),some (.int o.2),o5,o6,o7]=.nx [some (DU W),x1,some (DU (aJ [] (ws++W.map λr=>(cT r.1 o.1,r.2*o.2)))),some (ar o.1),some (.int o.2),o5',o6',o7']:=by
 obtain⟨ρ,e,o5',o6',o7',rfl⟩:=dB (us:=W.map NQ) (sg:=cD 2 (aE (bH 5) (aE (bH 6) cC))) (s:=nC)
  (λi ρ=>∃o5 o6 o7,ρ=[some (DU W),x1,some (DU (aJ [] (ws++(W.take i).map λr=>(cT r.1 o.1,r.2*o.2)))),some (ar o.1),some (.int o.2),o5,o6,o7])
  (λi u ρ hu h00=>by
   obtain⟨o5,o6,o7,hr'⟩:=h00;subst hr';have hi:i<W.length:=by have:=(WL.mp hu).1;rwa [WA] at this
   rw[W3,Wz hi] at hu;obtain rfl:NQ W[i]=u:=by injection hu
   have el:=hr _ (Xp hi);have lo:=Gg (a:=W[i].1) (b:=o.1) (λj hj=>by rw[el];exact BH ho j hj) (by rw[pX ho];lia);have ql:(aJ [] (ws++(W.take i).map λr=>(cT r.1 o.1,r.2*o.2))).length<1000000:=by
    have:=gR (ws++(W.take i).map λr=>(cT r.1 o.1,r.2*o.2));rw[WN,WA,Xc] at this;lia
   have c:iE W[i].2 o.2=true:=ja VS (by lia);have sn:aJ [] (ws++(W.take (i+1)).map λr=>(cT r.1 o.1,r.2*o.2))=kG (aJ [] (ws++(W.take i).map λr=>(cT r.1 o.1,r.2*o.2))) (cT W[i].1 o.1) (W[i].2*o.2):=by
    rw[Xi hi,WW,←W8,WD,X0,oO]
   rw[sn];refine⟨[some (DU W),x1,some (DU (aJ [] (ws++(W.take i).map λr=>(cT r.1 o.1,r.2*o.2)))),some (ar o.1),some (.int o.2),some (ar W[i].1),some (.int W[i].2),o7],_,IY,.inl ?_,some (ar W[i].1),some (.int W[i].2),some (ar (cT W[i].1 o.1)),rfl⟩;unfold nC;simp only[Pzz,cF,Nat.reduceAdd,Nat.reduceSub,lo,zW,By,Bz,BA,c,vJ ql];rfl)
  (ρ:=[some (DU W),x1,some (DU (aJ [] ws)),some (ar o.1),some (.int o.2),o5,o6,o7]) ⟨o5,o6,o7,by simp⟩
 rw[WA,X2] at e;refine⟨o5',o6',o7',?_⟩;unfold km;simp only[Pzz,cF,Nat.reduceAdd,Nat.reduceSub,P0,BE hW,e]
theorem vL {l:List (List Int)}{p:List Int×Int}(h:p∈bg l):p.1∈l:=by
 have key:∀(ws:List (List Int×Int)) (d:Dc) (p:List Int×Int),p∈aJ d ws->p.1∈d.map (·.1)\/p.1∈ws.map (·.1):=by
  intro ws
  induction ws with
  |nil=>exact λd p hp=>.inl (Xh hp)
  |cons w ws ih=>
   intro d p hp;rcases ih (kG d w.1 w.2) p hp with z|z
   ·unfold kG at z;rw[mI] at z;split at z
    ·exact .inl z
    ·rcases W0.mp z with z|z
     ·exact .inl z
     ·rw[WU] at z;exact .inr (by rw[z];exact WG)
   ·exact .inr (WI _ z)
 rcases key _ _ p h with z|z
 ·cases z
 ·rw[Xb] at z;obtain⟨x,hx,e⟩:=WS.mp z;rw[←e];exact hx
theorem vM (l:List (List Int)):(bg l).length<=l.length:=by
 have:=gR (l.map λx=>(x,1));rw[WA] at this;exact this
theorem Gw (l:List (List Int)):∀p∈bg l,p.2<=l.length:=λp hp=>by
 have:=MY (rJ l).2.1 p hp
 rwa [Bw] at this
theorem Gx {l:List (List Int)}(h:1<=l.length):bg l≠[]:=λe=>by
 have:=Bw l;rw[e] at this;unfold IT at this;simp at this;lia
theorem C9 {W:Dc}(hW:W≠[])(wl:W.length<=100)(hr:∀r∈W,r.1.length=n)(hs:Sf n ss):jV [DU W,SU ss]=.ok (DU (aJ [] (bo W (bg ss)))):=by
 have Dd:=hs.l2;have cl:=vM ss;obtain⟨cn,cp,_⟩:=rJ ss;have co:=zX (x:=SU ss) (ss:=ss) (IZ ss) (by lia);obtain⟨ρ,e,o3,o4,o5,o6,o7,rfl⟩:=dB (us:=(bg ss).map NQ) (sg:=cD 2 (aE (bH 3) (aE (bH 4) cC))) (s:=km)
  (λi ρ=>∃o3 o4 o5 o6 o7,ρ=[some (DU W),some (SU ss),some (DU (aJ [] (bo W ((bg ss).take i)))),o3,o4,o5,o6,o7])
  (λi u ρ hu h00=>by
   obtain⟨o3,o4,o5,o6,o7,hr'⟩:=h00;subst hr';have hi:i<(bg ss).length:=by have:=(WL.mp hu).1;rwa [WA] at this
   rw[W3,Wz hi] at hu;obtain rfl:NQ (bg ss)[i]=u:=by injection hu
   have hm:=Xp hi;have p1:=cp _ hm;have p2:=Gw ss _ hm;have pl:(bo W ((bg ss).take i)).length<10000:=by
    rw[nH,Xc];have:min i (bg ss).length*W.length<=24*100:=aau (by lia) wl;lia
   obtain⟨o5',o6',o7',q⟩:=P9 hW wl hr (o:=(bg ss)[i]) (hs.o _ (vL hm)) hs.n8 (by lia) (by lia) pl (x1:=some (SU ss)) (o5:=o5) (o6:=o6) (o7:=o7);have ef:bo W ((bg ss).take (i+1))=bo W ((bg ss).take i)++W.map λr=>(cT r.1 (bg ss)[i].1,r.2*(bg ss)[i].2):=by
    unfold bo;rw[Xi hi,List.flatMap_append,ZO,List.flatMap_nil,Xt]
   rw[ef];exact⟨_,_,IY,.inl q,_,_,_,_,_,rfl⟩)
  (ρ:=[some (DU W),some (SU ss),some (DU []),none,none,none,none,none]) ⟨_,_,_,_,_,rfl⟩
 rw[WA,X2] at e;have e0:DU []=.dct [] []:=rfl;rw[e0] at e;unfold jV rD;simp only[Pzz,cF,Nat.reduceAdd,Nat.reduceSub,co,P0,BE (Gx hs.l1),e]
noncomputable def bM (m:Mx):Dc:=jk (bX (m.map (·.2)):Nat) m
noncomputable def jZ (m:Mx)(ss:List (List Int)):Mx:=(eo ((aJ [] (bo (bM m) (bg ss))).map (·.1))).map λk=>(k,ff (iK (aJ [] (bo (bM m) (bg ss))) k) ((bX (m.map (·.2)):Nat)*(ss.length:Nat)))
theorem j0:∀(ws:List (List Int×Int)) (d:Dc),(aJ d ws).map (·.1)=(ws.map (·.1)).foldl ie (d.map (·.1))
 | [],d=>rfl
 |w::ws,d=>by
  show (aJ (kG d w.1 w.2) ws).map (·.1)=_;rw[j0 ws,WD,YX];congr 1;unfold kG;rw[mI];rfl
theorem jl {D:Int}{m:Mx}(hm:ye n D m)(hs:Sf n ss):bM m≠[]/\(bM m).length<=100/\(∀r∈bM m,r.1.length=n/\1<=r.2)/\(∀p∈bo (bM m) (bg ss),1<=p.2/\p.1.length=n):=by
 have fr:∀g∈m.map (·.2),kH D g:=λg hg=>by
  obtain⟨p,hp,rfl⟩:=WS.mp hg;exact (hm.el p hp).2
 have w:∀r∈bM m,r.1.length=n/\1<=r.2:=λr hr=>by
  unfold bM jk at hr;obtain⟨p,hp,rfl⟩:=WS.mp hr;refine⟨(hm.el p hp).1,?_⟩;have a1:=hm.ps p hp;have b0:=(hm.el p hp).2.2.1;have dv:=Gv fr p.2 (Xh hp);have bp:=mN hm.d0 fr;have:1<=(bX (m.map (·.2)):Int) / p.2.2:=by
   have:=aa3 (by lia) dv;exact Int.le_ediv_of_mul_le b0 (by lia)
  calc (1:Int)=1*1:=rfl
   _<=p.2.1*((bX (m.map (·.2)):Int) / p.2.2):=aav a1 this (by decide) (by lia)
 refine⟨λe=>hm.ne ?_,?_,w,λp hp=>?_⟩
 ·unfold bM jk at e;exact List.map_eq_nil_iff.mp e
 ·unfold bM jk;rw[WA];exact hm.ln
 ·unfold bo at hp;obtain⟨o,ho,hp⟩:=Zq.mp hp;obtain⟨r,hr,rfl⟩:=WS.mp hp;have o1:=(rJ ss).2.1 o ho;have r1:=(w r hr).2;refine⟨?_,?_⟩
  ·calc (1:Int)=1*1:=rfl
    _<=r.2*o.2:=aav r1 o1 (by decide) (by lia)
  ·show (cT r.1 o.1).length=n;unfold cT;rw[WA];exact pX (hs.o _ (vL ho))
theorem oP {D:Int}{m:Mx}(hm:ye n D m)(hs:Sf n ss):fm [bE m,SU ss]=.ok (bE (jZ m ss)):=by
 have fr:∀g∈m.map (·.2),kH D g:=λg hg=>by
  obtain⟨p,hp,rfl⟩:=WS.mp hg;exact (hm.el p hp).2
 have bp:=mN hm.d0 fr;have bl:=vK hm.d0 fr;have d1:=hm.d1;have cb:=P7 hm.d0 hm.d1 fr;obtain⟨w1,w2,w3,w4⟩:=jl hm hs;have sp:=C9 w1 w2 (λr hr=>(w3 r hr).1) hs;obtain⟨gn,gp,_⟩:=gw (bo (bM m) (bg ss)) (d:=[]) iL.1 iL.2 λp hp=>(w4 p hp).1;have gl:(aJ [] (bo (bM m) (bg ss))).length<=2400:=by
  have h1:=gR (bo (bM m) (bg ss));rw[nH] at h1;have h2:(bg ss).length*(bM m).length<=24*100:=aau (XC (vM ss) hs.l2) w2;lia
 have gk:∀k∈(aJ [] (bo (bM m) (bg ss))).map (·.1),k.length=n:=λk hk=>by
  rw[j0] at hk;rcases (eD _ _ _).mp hk with z|z
  ·cases z
  ·obtain⟨p,hp,rfl⟩:=WS.mp z;exact (w4 p hp).2
 have VT:aJ [] (bo (bM m) (bg ss))≠[]:=λe=>by
  have h0:((bo (bM m) (bg ss)).map (·.1)).foldl ie []=[]:=by rw[←X0 (f:=λp:List Int×Int=>p.1),←j0,e]
  obtain⟨r,W',ew⟩:∃r W',bM m=r::W':=by
   cases hq:bM m with
   |nil=>exact absurd hq w1
   |cons r W'=>exact⟨r,W',rfl⟩
  obtain⟨o,C',ec⟩:∃o C',bg ss=o::C':=by
   cases hq:bg ss with
   |nil=>exact absurd hq (Gx hs.l1)
   |cons r W'=>exact⟨r,W',rfl⟩
  have:cT r.1 o.1∈((bo (bM m) (bg ss)).map (·.1)).foldl ie []:=(eD _ _ _).mpr (.inr (by
   unfold bo;rw[ec,ew,ZO,WW,WD,WD];exact Xn _ WG))
  rw[h0] at this;cases this
 have so:=C7 VT (by lia) λp hp e=>by
  have:=gk p.1 (Xh hp);rw[e] at this;have:=hs.n1;simp at *;lia
 obtain⟨o4,o5,wo⟩:=Nc hm (B:=bX (m.map (·.2))) (by lia) (x1:=some (SU ss)) (o4:=none) (o5:=none) (o6:=none);have D1:0<((bX (m.map (·.2)):Nat):Int)*(ss.length:Nat):=aaH (by lia) (by have:=hs.l1;lia);have D2:((bX (m.map (·.2)):Nat):Int)*(ss.length:Nat)<=1000*24:=aav (by lia) (by have:=hs.l2;lia) (by lia) (by decide);have cm:iE ((bX (m.map (·.2)):Nat):Int) ((ss.length:Nat):Int)=true:=ja (by lia) (by have:=hs.l2;lia);have l1:=eT (f:=vW [none,none] (cD 2 (aE (bH 0) (aE (bH 1) cC))) c8 (af 1) [some (bE m),some (SU ss),none,none,none,none,none]) (c:=mx) (g:=λp=>e_ p.2) (xs:=m) λp hp=>by
  have:vW [none,none] (cD 2 (aE (bH 0) (aE (bH 1) cC))) c8 (af 1) [some (bE m),some (SU ss),none,none,none,none,none] (mx p)=.ok (some (e_ p.2)):=by
   unfold mx;simp only[Pzz,cF,Nat.reduceAdd,Nat.reduceSub,IY]
  exact this
 have el:=eT (f:=vW [none,some 6,some 2,some 1] (bH 0) c8 (c9 (ag (af 0) (ag (kz 2 kj (ag (aZ o_ (af 1) (af 0)) (ag (aZ d_ (af 2) (i0 jK (ag (af 3) aq))) aq))) aq))) [some (bE m),some (SU ss),some (.int (bX (m.map (·.2)):Nat)),some (DU (bM m)),o4,o5,some (DU (aJ [] (bo (bM m) (bg ss))))]) (c:=ar) (g:=λk=>mx (k,ff (iK (aJ [] (bo (bM m) (bg ss))) k) ((bX (m.map (·.2)):Nat)*(ss.length:Nat)))) (xs:=eo ((aJ [] (bo (bM m) (bg ss))).map (·.1))) λk hk=>by
  have GW:=(a_ _).mem_iff.mp hk;have ra:=Gi (t:=iK (aJ [] (bo (bM m) (bg ss))) k) (iA gp k) D1 (by lia);have lS:jK [SU ss]=.ok (.int (ss.length:Nat)):=by unfold SU;rw[zq,WA]
  simp only[Pzz,cF,Nat.reduceAdd,Nat.reduceSub,P2 GW,lS,cm,ra];rfl
 have sz:((eo ((aJ [] (bo (bM m) (bg ss))).map (·.1))).map λk=>mx (k,ff (iK (aJ [] (bo (bM m) (bg ss))) k) ((bX (m.map (·.2)):Nat)*(ss.length:Nat)))).length<=WJ:=by
  have:WJ=16777216:=rfl;rw[WA,(a_ _).length_eq,WA];lia
 have S4:(m.map λp=>e_ p.2).length<=WJ:=by
  have:WJ=16777216:=rfl;have:=hm.ln;rw[WA];lia
 have VU:cq [.lst (m.map λp=>e_ p.2)]=.ok (.int (bX (m.map (·.2)):Nat)):=by rw[Xb] at cb;exact cb
 have sb:uW (bE m) [some (bE m),some (SU ss),none,none,none,none,none]=.ok (m.map mx,[some (bE m),some (SU ss),none,none,none,none,none]):=qD;have VX:uW (bE m) [some (bE m),some (SU ss),some (.int (bX (m.map (·.2)):Nat)),some (.dct [] []),none,none,none]=.ok (m.map mx,[some (bE m),some (SU ss),some (.int (bX (m.map (·.2)):Nat)),some (.dct [] []),none,none,none]):=qD;unfold fm lr;have VY:fY (cD 2 (aE (bH 4) (aE (bH 5) cC))) fK (m.map mx) [some (bE m),some (SU ss),some (.int (bX (m.map (·.2)):Nat)),some (.dct [] []),none,none,none]=.nx [some (bE m),some (SU ss),some (.int (bX (m.map (·.2)):Nat)),some (DU (bM m)),o4,o5,none]:=wo;simp only[Pzz,cF,Nat.reduceAdd,Nat.reduceSub,sb,VX,l1,S4,VU,VY,KD,sp,so,el,sz,Gf];unfold bE jZ;rw[Xb];rfl
noncomputable def Dk (k x:List Int):Int:=if x=k then 1 else 0
theorem yj {α β:Type}(f:α->β->Int):∀(l:List α) (m:List β),(l.map λa=>(m.map λb=>f a b).sum).sum=(m.map λb=>(l.map λa=>f a b).sum).sum
 | [],m=>by
  induction m with
  |nil=>rfl
  |cons b m ih=>rw[WD,XH,←ih];rfl
 |a::l,m=>by
  rw[WD,XH,yj f l m]
  induction m with
  |nil=>rfl
  |cons b m ih=>
   rw[WD,WD,WD,XH,XH,XH,WD,XH];rw[←ih];lia
theorem rR {w:Int×Int->Int}(k:List Int):∀F:Fl,((r_ F k).map w).sum=(F.map λx=>w x.2*Dk k x.1).sum
 | []=>rfl
 |x::F=>by
  have ih:=rR (w:=w) k F;unfold r_ at ih ⊢;rw[WD,XH,←ih];unfold Dk;by_cases c:x.1=k
  ·rw[List.filter_cons_of_pos (by simpa using c),WD,WD,XH,hZ c];lia
  ·rw[List.filter_cons_of_neg (by simpa using c),hV c];lia
theorem Nf {B a b:Int}{c:Nat}(hc:0<c):wt (B*(c:Nat)) (a,b*(c:Nat))=a*(B / b):=by
 unfold wt;dsimp only;rw[Int.mul_ediv_mul_of_pos_left _ _ (by lia)]
theorem Ng {D:Int}{m:Mx}(hm:ye n D m)(hs:Sf n ss)(k:List Int):iK (aJ [] (bo (bM m) (bg ss))) k=((r_ (dN m ss) k).map (wt ((bX (m.map (·.2)):Nat)*(ss.length:Nat)))).sum:=by
 obtain⟨w1,w2,w3,w4⟩:=jl hm hs;obtain⟨gn,gp,gs⟩:=gw (bo (bM m) (bg ss)) (d:=[]) iL.1 iL.2 λp hp=>(w4 p hp).1;have l1:=hs.l1;rw[←F8 gn k,gs];show (0:Int)+_=_;rw[Int.zero_add];unfold bo;rw[rK];have e1:((bg ss).map λo=>(((bM m).map λr=>(cT r.1 o.1,r.2*o.2)).map λp=>p.2*(if p.1=k then 1 else 0)).sum)=(bg ss).map λo=>o.2*((bM m).map λr=>r.2*Dk k (cT r.1 o.1)).sum:=by
  apply Xl;intro o _;rw[Xb,←Bv,Xb];congr 1;apply Xl;intro r _;show r.2*o.2*(if cT r.1 o.1=k then 1 else 0)=o.2*(r.2*Dk k (cT r.1 o.1));unfold Dk;rw[aaM r.2 o.2,Yq]
 have e2:((bg ss).map λo=>o.2*((bM m).map λr=>r.2*Dk k (cT r.1 o.1)).sum).sum=(ss.map λo=>((bM m).map λr=>r.2*Dk k (cT r.1 o)).sum).sum:=(rJ ss).2.2 λ(o:List Int)=>((bM m).map λ(r:List Int×Int)=>r.2*Dk k (cT r.1 o)).sum;rw[e1,e2,rR,yj (λ(o:List Int) (r:List Int×Int)=>r.2*Dk k (cT r.1 o)) ss (bM m)];unfold dN;rw[rK];unfold bM jk;rw[Xb];congr 1;apply Xl;intro p _;show (ss.map λa=>p.2.1*((bX (m.map (·.2)):Int) / p.2.2)*Dk k (cT p.1 a)).sum=_;rw[Xb];congr 1;apply Xl;intro o _;show p.2.1*((bX (m.map (·.2)):Int) / p.2.2)*Dk k (cT p.1 o)=wt _ (p.2.1,p.2.2*(ss.length:Nat))*Dk k (cT p.1 o);rw[Nf (by lia)]
theorem um {D:Int}{m:Mx}(hm:ye n D m)(hs:Sf n ss):((aJ [] (bo (bM m) (bg ss))).map (·.1)).Perm (cx (dN m ss)):=by
 obtain⟨w1,w2,w3,w4⟩:=jl hm hs;obtain⟨gn,_,_⟩:=gw (bo (bM m) (bg ss)) (d:=[]) iL.1 iL.2 λp hp=>(w4 p hp).1;have ck:∀o,o∈ss->∃p∈bg ss,p.1=o:=λo ho=>by
  have:o∈(bg ss).map (·.1):=by
   unfold bg;rw[j0];refine (eD _ _ _).mpr (.inr ?_);rw[Xb];exact WS.mpr ⟨o,ho,rfl⟩
  obtain⟨p,hp,e⟩:=WS.mp this;exact⟨p,hp,e⟩
 refine (ab3 gn (yc _)).mpr λk=>?_;rw[j0,eD,kq];constructor
 ·rintro (z|z)
  ·cases z
  ·obtain⟨x,hx,rfl⟩:=WS.mp z;unfold bo at hx;obtain⟨o,ho,hx⟩:=Zq.mp hx;obtain⟨r,hr,rfl⟩:=WS.mp hx;unfold bM jk at hr;obtain⟨p,hp,rfl⟩:=WS.mp hr;exact WS.mpr ⟨GO ss.length p o.1,Zq.mpr ⟨p,hp,Xh (vL ho)⟩,rfl⟩
 ·intro z;obtain⟨x,hx,rfl⟩:=WS.mp z;unfold dN at hx;obtain⟨p,hp,hx⟩:=Zq.mp hx;obtain⟨o,ho,rfl⟩:=WS.mp hx;obtain⟨q,hq,rfl⟩:=ck o ho;refine .inr (WS.mpr ⟨(cT p.1 q.1,p.2.1*((bX (m.map (·.2)):Int) / p.2.2)*q.2),?_,rfl⟩);unfold bo;refine Zq.mpr ⟨q,hq,WS.mpr ⟨(p.1,p.2.1*((bX (m.map (·.2)):Int) / p.2.2)),?_,rfl⟩⟩;unfold bM jk;exact WS.mpr ⟨p,hp,rfl⟩
theorem Nh {D:Int}{m:Mx}(hm:ye n D m)(hs:Sf n ss):jZ m ss=Jd ((bX (m.map (·.2)):Nat)*(ss.length:Nat)) (dN m ss):=by
 unfold jZ Jd;rw[sN (um hm hs)];apply Xl;intro k _;rw[Ng hm hs]
theorem UW {D:Int}{m:Mx}(hm:ye n D m):ye n (bX (m.map (·.2)):Nat) m:=by
 have fr:∀g∈m.map (·.2),kH D g:=λg hg=>by
  obtain⟨p,hp,rfl⟩:=WS.mp hg;exact (hm.el p hp).2
 have bp:=mN hm.d0 fr;have bl:=vK hm.d0 fr;have d1:=hm.d1;exact⟨hm.ne,hm.nd,λp hp=>⟨(hm.el p hp).1,(hm.el p hp).2.1,(hm.el p hp).2.2.1,Gv fr p.2 (Xh hp)⟩,hm.ps,hm.ln,by lia,by lia⟩
theorem BL {D:Int}{m:Mx}(hm:ye n D m)(hs:Sf n ss):fq [bE m,SU ss]=.ok (bE (jZ m ss)):=by
 rw[Nh hm hs];exact Nb (UW hm) hs
theorem Ni {D:Int}{m:Mx}(hm:ye n D m)(hs:Sf n ss)(hl:m.length<=4)(hD:D<=36):ye n ((bX (m.map (·.2)):Nat)*(ss.length:Nat)) (jZ m ss):=by
 have fr:∀g∈m.map (·.2),kH D g:=λg hg=>by
  obtain⟨p,hp,rfl⟩:=WS.mp hg;exact (hm.el p hp).2
 have bp:=mN hm.d0 fr;have bl:=vK hm.d0 fr;have l1:=hs.l1;have l2:=hs.l2;obtain⟨w1,w2,w3,w4⟩:=jl hm hs;obtain⟨gn,gp,_⟩:=gw (bo (bM m) (bg ss)) (d:=[]) iL.1 iL.2 λp hp=>(w4 p hp).1;obtain⟨k1,_,k3⟩:=BJ hm hs;have pm:=um hm hs;have D1:0<((bX (m.map (·.2)):Nat):Int)*(ss.length:Nat):=aaH (by lia) (by lia);have D2:((bX (m.map (·.2)):Nat):Int)*(ss.length:Nat)<=36*24:=aav (by lia) (by lia) (by lia) (by decide);have ks:(jZ m ss).map (·.1)=eo ((aJ [] (bo (bM m) (bg ss))).map (·.1)):=by unfold jZ;rw[Xb];exact List.map_id' _
 refine⟨λe=>?_,?_,λp hp=>?_,λp hp=>?_,?_,D1,by lia⟩
 ·rw[e] at ks;have h1:=(a_ ((aJ [] (bo (bM m) (bg ss))).map (·.1))).trans pm;rw[←ks] at h1;exact k1 (List.nil_perm.mp h1)
 ·rw[ks];exact (a_ _).symm.nodup gn
 ·unfold jZ at hp;obtain⟨k,hk,rfl⟩:=WS.mp hp;have GW:=pm.mem_iff.mp ((a_ _).mem_iff.mp hk);obtain⟨r1,r2,r3,r4,r5⟩:=lC (iA gp k) D1;exact⟨(k3 k GW).1,r1,r2,r5⟩
 ·unfold jZ at hp;obtain⟨k,hk,rfl⟩:=WS.mp hp;have GW:=(a_ _).mem_iff.mp hk;have g1:=gp _ (ug GW);dsimp only at g1;obtain⟨r1,r2,r3,_,_⟩:=lC (iA gp k) D1;dsimp only;rcases Int.lt_or_le 0 (ff (iK (aJ [] (bo (bM m) (bg ss))) k) ((bX (m.map (·.2)):Nat)*(ss.length:Nat))).1 with z|z
  ·lia
  ·have z0:(ff (iK (aJ [] (bo (bM m) (bg ss))) k) ((bX (m.map (·.2)):Nat)*(ss.length:Nat))).1=0:=by lia
   rw[z0,Int.zero_mul] at r3;have:=aaH (show 0<iK (aJ [] (bo (bM m) (bg ss))) k by lia) r2;lia
 ·unfold jZ;rw[WA,(a_ _).length_eq,WA];have h1:=gR (bo (bM m) (bg ss));rw[nH] at h1;have h2:(bg ss).length*(bM m).length<=24*4:=aau (XC (vM ss) l2) (by unfold bM jk;rw[WA];exact hl);lia
noncomputable def Jf (us:List U)(ρ:Ev):R (List U×Ev):=match us with
 | [u,w]=>match CN u,CN w with
  |some us,some ws=>.ok (X1 (λa b=>.tup [a,b]) us ws,ρ)
  |_,_=>.stk
 |_=>.stk
theorem Gy {ga:Ev->R (List U×Ev)}:EO ga ρ=(ga ρ).bind λx=>Jf x.1 x.2:=nr rfl
theorem Jg {ws:List U}:Jf [.tup us,.tup ws] ρ=.ok (X1 (λa b=>.tup [a,b]) us ws,ρ):=nr rfl
noncomputable def Jh (T1 T2:String)(u:U)(ρ:Ev):R (U×Ev):=if Cr u="script" then .stk else .ok (.bl (d8 (Cr u) T1||d8 (Cr u) T2),ρ)
theorem vN {T1 T2:String}{g:Ev->R (U×Ev)}:zk T1 T2 g ρ=(g ρ).bind λx=>Jh T1 T2 x.1 x.2:=nr rfl
theorem Ji {i:Int}:Jh "tuple" "list" (.int i) ρ=.ok (.bl false,ρ):=(hV (show ¬("int"="script") by decide)).trans (congrArg (λz=>R.ok (U.bl z,ρ)) (show (d8 "int" "tuple"||d8 "int" "list")=false by decide))
theorem Jj:Jh "tuple" "list" (.tup us) ρ=.ok (.bl true,ρ):=(hV (show ¬("tuple"="script") by decide)).trans (congrArg (λz=>R.ok (U.bl z,ρ)) (show (d8 "tuple" "tuple"||d8 "tuple" "list")=true by decide))
theorem yk {i:Int}:bf (k+1) [.int i,.int i]=.ok (.bl true):=by
 simp only[Pzz,cF,Nat.reduceAdd,Nat.reduceSub,bf,bG,vN,Ji,beq_self_eq_true,id]
theorem BM (us:List U):X1 (λa b=>U.tup [a,b]) us us=us.map λa=>.tup [a,a]:=by
 induction us with
 |nil=>rfl
 |cons u us ih=>rw[XN,ih];rfl
theorem rS (h:∀u∈us,bf k [u,u]=.ok (.bl true)):bf (k+1) [.tup us,.tup us]=.ok (.bl true):=by
 have e:yt (vW [none,none] (cD 2 (aE (bH 0) (aE (bH 1) cC))) c8 (kz 2 (fc .S 2 (bG k)) (ag (af 0) (ag (af 1) aq))) [some (.tup us),some (.tup us)]) (us.map λa=>U.tup [a,a])=.ok ((us.map λa=>U.tup [a,a]).map λ_=>.bl true):=by
  refine uY λu hu=>?_;obtain⟨x,hx,rfl⟩:=WS.mp hu;have hs:fc .S 2 (bG k) [x,x]=.ok (.bl true):=h x hx;rw[A9,IY];simp only[aD,dh,NS,cF,Nat.reduceAdd,Nat.reduceSub];simp only[uX] at hs;simp only[aD,dh,NS,cF,Nat.reduceAdd,Nat.reduceSub] at hs;simp only[Pzz,cF,Nat.reduceAdd,Nat.reduceSub,hs]
 rw[Xb] at e;have ea:=qF us λ_=>true;have eb:(us.all λ_=>true)=true:=by rw[XR];intros;rfl
 rw[eb] at ea;simp only[Pzz,cF,Nat.reduceAdd,Nat.reduceSub,bf,bG,vN,Jj,beq_self_eq_true,Zt,Gy,Jg,BM,id];have e3:((λ_=>U.bl true)∘λa=>U.tup [a,a])=λ_:U=>U.bl true:=rfl;rw[e3] at e;simp only[Pzz,cF,Nat.reduceAdd,Nat.reduceSub,e,ea]
theorem BN {ws:List U}:Jf [.lst us,.lst ws] ρ=.ok (X1 (λa b=>.tup [a,b]) us ws,ρ):=nr rfl
theorem Jk:Jh "tuple" "list" (.lst us) ρ=.ok (.bl true,ρ):=(hV (show ¬("list"="script") by decide)).trans (congrArg (λz=>R.ok (U.bl z,ρ)) (show (d8 "list" "tuple"||d8 "list" "list")=true by decide))
theorem Gz (h:∀u∈us,bf k [u,u]=.ok (.bl true)):bf (k+1) [.lst us,.lst us]=.ok (.bl true):=by
 have e:yt (vW [none,none] (cD 2 (aE (bH 0) (aE (bH 1) cC))) c8 (kz 2 (fc .S 2 (bG k)) (ag (af 0) (ag (af 1) aq))) [some (.lst us),some (.lst us)]) (us.map λa=>U.tup [a,a])=.ok ((us.map λa=>U.tup [a,a]).map λ_=>.bl true):=by
  refine uY λu hu=>?_;obtain⟨x,hx,rfl⟩:=WS.mp hu;have hs:fc .S 2 (bG k) [x,x]=.ok (.bl true):=h x hx;rw[A9,IY];simp only[aD,dh,NS,cF,Nat.reduceAdd,Nat.reduceSub];simp only[uX] at hs;simp only[aD,dh,NS,cF,Nat.reduceAdd,Nat.reduceSub] at hs;simp only[Pzz,cF,Nat.reduceAdd,Nat.reduceSub,hs]
 rw[Xb] at e;have ea:=qF us λ_=>true;have eb:(us.all λ_=>true)=true:=by rw[XR];intros;rfl
 rw[eb] at ea;simp only[Pzz,cF,Nat.reduceAdd,Nat.reduceSub,bf,bG,vN,Jk,beq_self_eq_true,Zt,Gy,BN,BM,id];have e3:((λ_=>U.bl true)∘λa=>U.tup [a,a])=λ_:U=>U.bl true:=rfl;rw[e3] at e;simp only[Pzz,cF,Nat.reduceAdd,Nat.reduceSub,e,ea]
theorem ym (m:Mx):bf 6 [bE m,bE m]=.ok (.bl true):=Gz λu hu=>by
 obtain⟨p,_,rfl⟩:=WS.mp hu;refine rS λu hu=>?_;simp only[WV,abC,or_false] at hu;rcases hu with rfl|rfl
 ·refine rS λu hu=>?_;obtain⟨y,_,rfl⟩:=WS.mp hu;exact yk
 ·refine rS λu hu=>?_;simp only[WV,abC,or_false] at hu;rcases hu with rfl|rfl<;>exact yk
theorem uo {α:Type}{f:α->U}{g:α->D}(h:∀x,qy (f x)=some (g x)):∀l:List α,jH (l.map f)=some (l.map g)
 | []=>by unfold jH;rfl
 |x::l=>by rw[WD];unfold jH;rw[h x,uo h l];rfl
theorem rT {α:Type}{g:α->D}{c:Nat}(h:∀x,dX (g x)<=c):∀l:List α,ig (l.map g)<=c
 | []=>by rw[X0];unfold ig;exact X5 _
 |x::l=>by
  rw[WD];unfold ig;have:=h x;have:=rT h l;lia
noncomputable def P_ (p:List Int×Int×Int):D:=.tup [.tup (p.1.map .int),.tup [.int p.2.1,.int p.2.2]]
theorem Nj (m:Mx):El (bE m) (bE m)=.ok true:=by
 have h1:∀p,qy (mx p)=some (P_ p):=λp=>by
  unfold mx P_ e_ ar;simp only[qy,jH,CO,Option.map_some,Option.bind_some]
 have h2:qy (bE m)=some (.lst (m.map P_)):=by
  unfold bE qy;rw[uo h1];rfl
 have h3:∀p,dX (P_ p)<=2:=λp=>by
  unfold P_;have:=zv p.1;simp only[dX,ig,this];lia
 unfold El;rw[h2];dsimp only;rw[hZ (by unfold dX;have:=rT h3 m;lia),qb]
theorem Nk {s:U}(h:nG s)(h1:m<=1000):∃(row:List Int) (s':U),df [s,.int m]=.ok (.tup (row.map .int),s')/\row.length=m/\(∀c∈row,0<=c/\c<10)/\nG s':=by
 obtain⟨way,s1,e1,w0,w1,KU⟩:=fA (m:=4) h (by decide) (by decide);have key:∀(js:List (Option Nat)) (ge:Ev->R (U×Ev)) (s1:U),nG s1->(∀u s,nG s->∃ρi r ρi' s',bH 0 u (iP js [some s,some (.int m),some (.int way)])=.ok ρi/\ge ρi=.ok (.int r,ρi')/\wb fo js ρi' [some s,some (.int m),some (.int way)]=[some s',some (.int m),some (.int way)]/\0<=r/\r<10/\nG s')->
   ∃(row:List Int) (s':U),m_ fo js (bH 0) c8 ge (aF 0 m) [some s1,some (.int m),some (.int way)]=.ok (row.map .int,[some s',some (.int m),some (.int way)])/\row.length=m/\(∀c∈row,0<=c/\c<10)/\nG s':=by
  intro js ge s1 lL QE;obtain⟨ys,s',e,l,row,hr,hc,hs'⟩:=iR (G:=fo) (js:=js) (sg:=bH 0) (ge:=ge) (λs:U=>[some s,some (.int m),some (.int way)]) m (λys s=>∃row:List Int,ys=row.map .int/\(∀c∈row,0<=c/\c<10)/\nG s)
   (λdone u s _ h00=>by
    obtain⟨row,hr,hc,hs⟩:=h00;obtain⟨ρi,r,ρi',s',a1,a2,a3,a4,a5,a6⟩:=QE u s hs;refine⟨ρi,.int r,ρi',s',a1,a2,a3,row++[r],by rw[hr,WW];rfl,λc Q8=>?_,a6⟩;rcases W0.mp Q8 with z|z
    ·exact hc c z
    ·rw[WU.mp z];exact⟨a4,a5⟩) (aF 0 m) [] s1 (by rw[aU];simp) ⟨[],rfl,(λc hc=>by cases hc),lL⟩
  rw[aU] at l;refine⟨row,s',by rw[e,←hr];rfl,?_,hc,hs'⟩;have:=congrArg List.length hr;simp at this;lia
 by_cases c:way<2
 ·obtain⟨row,s',a1,a2,a3,a4⟩:=key [none,some 0] (oZ 2 1 aw (ag (gC (.int 2)) aq)) s1 KU λu s hs=>by
   obtain⟨r,s',b1,b2,b3,b4⟩:=fA (m:=2) hs (by decide) (by decide);refine⟨[some u,some s],r,[some u,some s'],s',rfl,?_,rfl,b2,by lia,b4⟩;simp only[Pzz,cF,Nat.reduceAdd,Nat.reduceSub,b1]
  refine⟨row,s',?_,a2,a3,a4⟩;simp only[Pzz,cF,Nat.reduceAdd,Nat.reduceSub,df,jh,e1,hG c,i_ m (by lia),a1]
 ·have VZ:∃z:Int,lU [U.int 3,U.int 10] (way-2)=some (.int z)/\0<z/\z<=10:=by
   by_cases e:way=2
   ·subst e;exact⟨3,rfl,by decide,by decide⟩
   ·have e:way=3:=by lia
    subst e;exact⟨10,rfl,by decide,by decide⟩
  obtain⟨z,hz,z0,z1⟩:=VZ;obtain⟨row,s',a1,a2,a3,a4⟩:=key [none,some 0,some 2] (oZ 2 1 aw (ag (aZ kJ (l5 (ag (gC (.int 3)) (ag (gC (.int 10)) aq))) (aZ Cm (af 2) (gC (.int 2)))) aq)) s1 KU λu s hs=>by
   obtain⟨r,s',b1,b2,b3,b4⟩:=fA (m:=z) hs z0 (by lia);refine⟨[some u,some s,some (.int way)],r,[some u,some s',some (.int way)],s',rfl,?_,rfl,b2,by lia,b4⟩;simp only[Pzz,cF,Nat.reduceAdd,Nat.reduceSub,hz,b1]
  refine⟨row,s',?_,a2,a3,a4⟩;simp only[Pzz,cF,Nat.reduceAdd,Nat.reduceSub,df,jh,e1,hJ c,i_ m (by lia),a1]
theorem Qa {l:List (List Int)}(h:l.Nodup):(eo l).Nodup:=(a_ l).symm.nodup h
theorem Nl {s:U}(h:nG s)(n1:1<=n)(n8:n<=8):∃(m:Mx) (D:Int) (s':U),ji [s,.int n]=.ok (bE m,s')/\ye n D m/\m.length<=4/\D<=36/\nG s':=by
 obtain⟨t,s1,e1,t0,t1,h1⟩:=fA (m:=4) h (by decide) (by decide);obtain⟨c,hc⟩:∃c:Nat,1+t=c:=⟨(1+t).toNat,by lia⟩;obtain⟨ys,s2,e2,ly,base,hy,hb,bT⟩:=iR (G:=gO) (js:=[none,some 0,some 1]) (sg:=bH 0) (ge:=oZ 2 1 df (ag (af 2) aq))
  (λx:U=>[some x,some (.int n),none,none]) c (λys x=>∃base:List (List Int),ys=base.map ar/\(∀b∈base,b.length=n)/\nG x)
  (λdone u x hd h00=>by
   obtain⟨base,hr,hb,hx⟩:=h00;obtain⟨row,x',f1,f2,_,oQ⟩:=Nk (m:=n) hx (by lia);refine⟨[some u,some x,some (.int n)],ar row,[some u,some x',some (.int n)],x',rfl,?_,rfl,base++[row],by rw[hr,WW];rfl,?_,oQ⟩
   ·have V0:df [x,.int n]=.ok (ar row,x'):=f1;simp only[Pzz,cF,Nat.reduceAdd,Nat.reduceSub,V0]
   ·intro b Tc;rcases W0.mp Tc with y|y
    ·exact hb b y
    ·rw[WU.mp y];exact f2) (aF 0 c) [] s1 (by rw[aU];simp) ⟨[],rfl,(λb h=>by cases h),h1⟩
 rw[YJ] at hy;subst hy;rw[aU,WA] at ly;have bn:∀b∈base,b≠[]:=λb pZ e=>by
  have:=hb b pZ;rw[e] at this;simp at this;lia
 have ol:(eP base).length<=base.length:=by
  have:=rQ base [];unfold eP;simpa using this
 obtain⟨rows,hrows⟩:∃rows,rows=eo (eP base):=⟨_,rfl⟩;have ss:iS [.lst (base.map ar)]=.ok (.lst (rows.map ar)):=by
  unfold iS;dsimp only;rw[mL bn];dsimp only;rw[hZ (by lia),hrows]
 have rp:rows.Perm (eP base):=by rw[hrows];exact a_ _
 have V1:rows.Nodup:=rp.symm.nodup (lD _ _ Y9);have rm:∀r∈rows,r.length=n:=λr hr=>by
  have:=rp.mem_iff.mp hr;rcases (eD base [] r).mp this with z|z
  ·cases z
  ·exact hb r z
 have rl:rows.length<=4:=by rw[rp.length_eq];lia
 have UC:rows≠[]:=λe=>by
  obtain⟨b,bs,eb⟩:∃b bs,base=b::bs:=by
   cases hq:base with
   |nil=>rw[hq] at ly;simp at ly;lia
   |cons b bs=>exact⟨b,bs,rfl⟩
  have:b∈rows:=rp.mem_iff.mpr ((eD base [] b).mpr (.inr (by rw[eb];exact WG)));rw[e] at this;cases this
 obtain⟨zs,s3,e3,lz,ws,hw,hwb,QB⟩:=iR (G:=gO) (js:=[none,some 0]) (sg:=bH 0) (ge:=aZ cy (gC (.int 1)) (oZ 2 1 aw (ag (gC (.int 9)) aq)))
  (λx:U=>[some x,some (.int n),some (.lst (rows.map ar)),none]) rows.length (λzs x=>∃ws:List Int,zs=ws.map .int/\(∀w∈ws,1<=w/\w<=9)/\nG x)
  (λdone u x hd h00=>by
   obtain⟨ws,hr,hb,hx⟩:=h00;obtain⟨r,x',f1,r0,r1,oQ⟩:=fA (m:=9) hx (by decide) (by decide);refine⟨[some u,some x],.int (1+r),[some u,some x'],x',rfl,?_,rfl,ws++[1+r],by rw[hr,WW];rfl,?_,oQ⟩
   ·simp only[Pzz,cF,Nat.reduceAdd,Nat.reduceSub,f1]
   ·intro b Tc;rcases W0.mp Tc with y|y
    ·exact hb b y
    ·rw[WU.mp y];lia) (rows.map ar) [] s2 (by rw[WA];simp) ⟨[],rfl,(λb h=>by cases h),bT⟩
 rw[YJ] at hw;subst hw;rw[WA,WA] at lz;have Td:∀l:List Int,(∀w∈l,1<=w/\w<=9)->(l.length:Int)<=l.sum/\l.sum<=9*l.length:=by
  intro l
  induction l with
  |nil=>intro _;simp
  |cons w l ih=>
   intro hl;have a:=hl w WG;have b:=ih λx hx=>hl x (WI _ hx);rw[XH,WT];lia
 obtain⟨S0,S1⟩:=Td ws hwb;have Wx:0<rows.length:=List.length_pos_iff.mpr UC;have Sp:0<ws.sum:=by lia
 have V2:ws.sum<=36:=by lia
 have sm:uc [.lst (ws.map .int)]=.ok (.int ws.sum):=by
  have e:rA ws=true:=by
   unfold rA;rw[W6];refine⟨hG (by lia),XR.mpr λw hw=>?_⟩;have:=hwb w hw;exact hG (by lia)
  unfold uc;dsimp only;rw[Eo];exact hZ e
 obtain⟨prs,hprs⟩:∃prs,prs=rows.zip ws:=⟨_,rfl⟩;have pin:∀p∈prs,p.1∈rows/\p.2∈ws:=λp hp=>by
  rw[hprs] at hp;exact⟨(aaP hp).1,(aaP hp).2⟩
 have zw:X1 (λa b=>U.tup [a,b]) (rows.map ar) (ws.map .int)=prs.map λp=>U.tup [ar p.1,.int p.2]:=by
  rw[List.zipWith_map,hprs];unfold List.zip;rw[List.map_zipWith]
 have zz:Jf [.lst (rows.map ar),.lst (ws.map .int)] [some s3,some (.int n),some (.lst (rows.map ar)),some (.lst (ws.map .int))]=.ok (prs.map λp=>U.tup [ar p.1,.int p.2],[some s3,some (.int n),some (.lst (rows.map ar)),some (.lst (ws.map .int))]):=by rw[BN,zw]
 have el:=eT (f:=vW [none,none,some 3] (cD 2 (aE (bH 0) (aE (bH 1) cC))) c8 (c9 (ag (af 0) (ag (kz 2 cw (ag (af 1) (ag (i0 uc (ag (af 2) aq)) aq))) aq))) [some s3,some (.int n),some (.lst (rows.map ar)),some (.lst (ws.map .int))]) (c:=λp:List Int×Int=>U.tup [ar p.1,.int p.2]) (g:=λp=>mx (p.1,ff p.2 ws.sum)) (xs:=prs) λp hp=>by
  have w:=hwb _ (pin p hp).2;have q:=uj (t:=p.2) (b:=ws.sum) (by lia) Sp (by lia);simp only[Pzz,cF,Nat.reduceAdd,Nat.reduceSub,IY,sm,q];rfl
 have ml:(prs.map λp=>(p.1,ff p.2 ws.sum)).length<=4:=by rw[WA,hprs,List.length_zip];lia
 have NI:prs.map (·.1)=rows:=by rw[hprs];exact List.map_fst_zip (by lia)
 refine⟨prs.map λp=>(p.1,ff p.2 ws.sum),ws.sum,s3,?_,⟨λe=>?_,?_,λq hq=>?_,λq hq=>?_,by lia,Sp,by lia⟩,ml,V2,QB⟩
 ·have sz:(prs.map λp=>mx (p.1,ff p.2 ws.sum)).length<=WJ:=by
   have:WJ=16777216:=rfl;rw[WA] at ml ⊢;lia
  have sb:uW (.lst (rows.map ar)) [some s2,some (.int n),some (.lst (rows.map ar)),none]=.ok (rows.map ar,[some s2,some (.int n),some (.lst (rows.map ar)),none]):=qD;have V3:(base.map ar).length<=WJ:=by
   have:WJ=16777216:=rfl;rw[WA];lia
  have V4:(ws.map U.int).length<=WJ:=by
   have:WJ=16777216:=rfl;rw[WA];lia
  unfold ji lu;simp only[Pzz,cF,Nat.reduceAdd,Nat.reduceSub,e1,hc,i_ c (by lia),e2,V3,ss,sb,e3,V4,Gy,zz,el,sz];unfold bE;rw[Xb];rfl
 ·have h0:=List.map_eq_nil_iff.mp e;rw[h0] at NI;exact UC NI.symm
 ·rw[Xb];have:(prs.map ((λx:List Int×Int×Int=>x.1)∘λp:List Int×Int=>(p.1,ff p.2 ws.sum)))=prs.map (·.1):=rfl;rw[this,NI];exact V1
 ·obtain⟨p,hp,rfl⟩:=WS.mp hq;obtain⟨p1,p2⟩:=pin p hp;have w:=hwb _ p2;obtain⟨r1,r2,r3,r4,r5⟩:=lC (t:=p.2) (b:=ws.sum) (by lia) Sp;exact⟨rm _ p1,r1,r2,r5⟩
 ·obtain⟨p,hp,rfl⟩:=WS.mp hq;have w:=hwb _ (pin p hp).2;obtain⟨r1,r2,r3,r4,r5⟩:=lC (t:=p.2) (b:=ws.sum) (by lia) Sp;dsimp only;rcases Int.lt_or_le 0 (ff p.2 ws.sum).1 with z|z
  ·lia
  ·have z0:(ff p.2 ws.sum).1=0:=by lia
   rw[z0,Int.zero_mul] at r3;have:=aaH (show 0<p.2 by lia) r2;lia
theorem Jl:qz (.lst us) []=.ok (.non,.lst []):=nr rfl
theorem KJ (n1:1<=n)(n8:n<=8){s:U}(h:nG s):∃(ss:List (List Int)) (s':U),aI [s,.int n]=.ok (SU ss,s')/\Sf n ss/\nG s':=by
 obtain⟨oss,s',e,ho,l1,l2,hs⟩:=zU h n1 n8;exact⟨oss,s',e,⟨n1,n8,ho,l1,l2⟩,hs⟩
theorem Qb {x2 x3 x4 x5 x6 x7 x8 x9:Option U}:∃a2 a3 a4 a5 a6 a7 a8 a9:Option U,vA [some (.scr (ns.map .int)),some (.int i),x2,x3,x4,x5,x6,x7,x8,x9]=.nx [some (.scr (ns.map .int)),some (.int i),a2,a3,a4,a5,a6,a7,a8,a9]:=by
 obtain⟨s0,e0,h0⟩:=F9 (us:=[]) (u:=.scr (ns.map .int)) (ns:=ns) (k:=i) (.inl rfl) (by lia);obtain⟨t,s1,e1,t0,t1,h1⟩:=fA (m:=8) h0 (by decide) (by decide);obtain⟨n,hn⟩:∃n:Nat,1+t=n:=⟨(1+t).toNat,by lia⟩;obtain⟨m,D,s2,e2,hm,hl,hD,h2⟩:=Nl (n:=n) h1 (by lia) (by lia);obtain⟨ss,s3,e3,hs,h3⟩:=KJ (n:=n) (by lia) (by lia) h2;obtain⟨ts,s4,e4,ht,h4⟩:=KJ (n:=n) (by lia) (by lia) h3;have hr:=Ni hm hs hl hD;have d1:=BL hm hs;have f1:=oP hm hs;have d2:=BL hr ht;have f2:=oP hr ht;have V5:=ym (jZ m ss);have V6:=ym (jZ (jZ m ss) ts);have V7:=Nj m;have pl:tm [bE m]=.ok (bE m):=zu;have sl:yU (bE (jZ m ss)) "list"=true:=rfl;have pc:qz (bE (jZ m ss)) []=.ok (.non,.lst []):=Jl;refine⟨some s4,some (.int n),some (bE m),some (SU ss),some (bE m),some (bE (jZ m ss)),some (.lst []),some (SU ts),?_⟩;unfold vA;simp only[Pzz,cF,Nat.reduceAdd,Nat.reduceSub,e0,e1,hn,e2,e3,pl,d1,f1,V5,V7,e4,f2,d2,V6,sl,pc]
theorem pure_law (ns:List Int)(hl:ns.length<=63):xH [.scr (ns.map .int)]=.ok (.bl true):=by
 obtain⟨z,hz⟩:∃z:Nat,(if (if (3:Int)<(((ns.map U.int).length:Nat):Int) then 3 else (((ns.map U.int).length:Nat):Int))>1 then (if (3:Int)<(((ns.map U.int).length:Nat):Int) then 3 else (((ns.map U.int).length:Nat):Int)) else 1)=z:=⟨(if (if (3:Int)<(((ns.map U.int).length:Nat):Int) then 3 else (((ns.map U.int).length:Nat):Int))>1 then (if (3:Int)<(((ns.map U.int).length:Nat):Int) then 3 else (((ns.map U.int).length:Nat):Int)) else 1).toNat,by split<;>(try split)<;>lia⟩;have zb:z<=1000:=by split at hz<;>(try split at hz)<;>lia
 obtain⟨ρ',e,a1,a2,a3,a4,a5,a6,a7,a8,a9,rfl⟩:=dB (us:=aF 0 z) (sg:=bH 1) (s:=vA) (λ_ ρ=>∃a1 a2 a3 a4 a5 a6 a7 a8 a9:Option U,ρ=[some (.scr (ns.map .int)),a1,a2,a3,a4,a5,a6,a7,a8,a9])
  (λi u ρ hu h00=>by
   obtain⟨a1,a2,a3,a4,a5,a6,a7,a8,a9,hr⟩:=h00;subst hr;have hi:i<z:=by
    rcases Zv i z with y|y
    ·exact y
    ·rw[XY.mpr (by rw[aU];exact y)] at hu;cases hu
   obtain rfl:u=.int i:=by
    rw[gG] at hu;unfold aV at hu;rw[Xb,W3,ZT hi] at hu;cases hu;rfl
   obtain⟨b2,b3,b4,b5,b6,b7,b8,b9,q⟩:=Qb (ns:=ns) (i:=i) (x2:=a2) (x3:=a3) (x4:=a4) (x5:=a5) (x6:=a6) (x7:=a7) (x8:=a8) (x9:=a9);exact⟨_,_,rfl,.inl q,_,_,_,_,_,_,_,_,_,rfl⟩)
  (ρ:=[some (.scr (ns.map .int)),none,none,none,none,none,none,none,none,none]) ⟨_,_,_,_,_,_,_,_,_,rfl⟩
 unfold xH F3;simp only[Pzz,cF,Nat.reduceAdd,Nat.reduceSub,hz,i_ z (by lia),e]
theorem walk {q:ZI}{d:DefRec}{K:Params->WH}(Qg:d.params.defaults=[])(hY:∀(w:Z1) (h:ZG),YP w h->(K w.params).In h)(F:∀(w:Z1) (mg:Str->Option WM) (fa:W7) (h:ZG),(K w.params).In h->h.Ns XI mg->mg d.name=some (.ref fa)->
   ∃fd:abI,(∀(s:WY) (u:WM),BindsTo s fd ⟨[u],[]⟩ [("script",u)])/\∀base:ZG,(K w.params).In base->base.Ns XI mg->ku PySem.Challenge.rw_hushcards_k12_mixes_shuffled.prog w (K w.params) mg base v_ 8 fa fd ["script"] (wD (K w.params))) :
  PySem.W.WalkO q loose XP YP PySem.Challenge.rw_hushcards_k12_mixes_shuffled.row.toRowW d [] (λf vs=>PySem.call f vs):=
 L2.walk_of (l:=PySem.Challenge.rw_hushcards_k12_mixes_shuffled) (n:=63) (k:=8) (x:="script") (CX:=λ_=>v_) (sp:=λw=>wD (K w.params)) rfl (by decide) Qg ⟨rfl,by decide,by decide⟩ hY F (λ_ _ a ns hl hO hS=>⟨a,ns,rfl,L8 hO hS,hl,λ_=>rfl⟩) λ_ _ _ _ _ z=>z
end Hc
open PySem PySem.W PyProof.Rows
set_option maxRecDepth 100000 in
set_option maxHeartbeats 0 in
theorem PySem.Challenge.cw_hushcards_k12_mixes_shuffled_holds : PySem.Challenge.rw_hushcards_k12_mixes_shuffled.Holds := by
 w_on
 refine PySem.W.holds_law (by decide+kernel) λTe=>?_;refine' PySem.W.holds_open Hc.left (PySem.W.Hook.of _) (PySem.W.Hook.keeps _) (XP:=PySem.W.XL Hc.vw [])
  (λs e=>PySem.W.xl_of s (Bool.and_eq_true_iff.mp e).1) PySem.W.XL.keeps ?d ?t ?k
  (λs e=>PySem.W.recFacts_of (Bool.and_eq_true_iff.mp e).2) ?w Te ?g ⟨rfl,rfl,rfl,rfl,rfl,by decide+kernel⟩ ?hw ?hc
 case d=>rfl
 case t=>rfl
 case k=>rfl
 case w=>rfl
 case g=>decide+kernel
 case hw=>w_witness2
 show PySem.W.WalkO Hc.vw [] (PySem.W.XL Hc.vw []) (PySem.W.InK Hc.Kf) _ _ _ _
 k_fill
 refine Hc.walk rfl (λw h Y=>Y) ?F
 case F=>
  intro w mg fa h KX G Qh;refine' Hc.all_mk KX G Qh ?_ ?_ ?_ ?_ ?_ ?_ ?_ ?_ ?_ ?_ ?_ ?_ ?_ ?_ ?_ ?_ ?_ ?_ ?_ ?_ ?_ ?_ ?_ ?_ ?_ ?_ ?_ ?_ ?_ ?_ ?_ ?_ ?_ ?_ ?_ Hc.pure_law
  all_goals first|k_is|exact .mk (by k_is) (by k_is) (by k_is) (by k_is)|skip