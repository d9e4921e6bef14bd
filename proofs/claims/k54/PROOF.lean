import PyProof.Rows.All
import Wide.All
import OpenK.AllK
import Wide.FinOn
import Lean
import PyProof.EqAt
import PyProof.EqKinds
import PyProof.TupleCall
import PyProof.NeKinds
import PyProof.TupleKey
import PyProof.DictRoadsH
import PySem.SetTable
import PyProof.SetRoads
import PyProof.DictKeyH
import PyProof.IsRules
import PyProof.Rows.SetFrom
import PyProof.WalksMore
import PyProof.ListMulRoad
import PyProof.FactsAll.subtypes_4
import PyProof.Rows.ListMulArg
import PyProof.ZipIter
import PyProof.DictItems
import PyProof.DictValues
import PyProof.DictWalks
import PyProof.FactsAll.dict_itemiterator
import PyProof.Rows.SortRuns
import PyProof.Rows.SortKey
import PyProof.Rows.SortShell
import PyProof.Rows.SortWalk
import KE.KSortTup
import KE.KDictList
import PyProof.AutoListH
import PyProof.SumWalk
import PyProof.WalkInts
import PySem.Challenge.RW_hushcards_k54_told_twice
abbrev hG:=@decide_eq_true
abbrev hJ:=@decide_eq_false
abbrev hU.{u}:=@if_neg.{u}
abbrev hV.{u}:=@if_pos.{u}
set_option Elab.async false
set_option linter.all false
set_option maxRecDepth 100000
set_option maxHeartbeats 4000000
open PySem renaming wpAny_bind->ZL,wpAny_pure->ZN,Value->ZO,sizeLine->ZY,Addr->Z5,Shared->Z8,mainGlobals->aab,wpAny->aac,starEach->aaf,model->aar,Around->aaD,wpAny_newObj_type->aaG,wpAny_call_entry->aaH,wpAny_callSpecial?_slot->aaK,bootBuiltins->aaY,bindArgs->aaZ,mem_of_lookup->aa0,wpAny_mono->aa6,wpAny_setState_of->aa9,wpAny_holding->abi,foldedSetIterable->abj,compareOp->abu,wpAny_field->abw,Expr->abE,sizeLine_eq->abG,cLine->abH,wpAny_askSetting->abR,wpAny_typeNameOfWhole_keyiter->abS,wpAny_seqItems->abY,sysModules->abZ,wpAny_rule->ab0,wpAny_setField_rec->ach,Heap->acj,Program->ack,backTo->acq,wpAny_truthy_bool->acu,assignEach->acv,wpAny_passesOwn->acw,wpAny_typeNameOf_keyiter->acC,wpAny_attempt->acH,World->acJ,wpAny_setField->acL,wpAny_specialOf->acS,codeAny_builtin->acX,behindInMarks->ac2,wpAny_collect_seq->ac6,IsPair->ac_,eval->ade,firstArgMember->adg,SetTable->adi,binaryOp->adj,wpAny_isInstance->adl,start->adD,attributeBase->adG,HeapKind->adK,sliceBounds->adV,unsupported->adZ,wpAny_of_eq->ad0,wpAny_dictEntries->ad2,Stmt->ad9,swapsWith->ad_,Keyword->aeb,wpAny_forIn_list->aec,pyNext->aef,wpAny_updateSeq_pair->aeg,FuncData->aeh,swapsWithSole->aei,swappedStores->aej,wpAny_execs_nil->aeq,letOwnedTupleGo->aer,getItem->aes,keywordEach->aet,wpAny_setEntries_of->aey,Paired->aeF,rawInt->aeH,wpAny_pyIter_tuple->aeI,codeAny_mono->aeL,wpAny_Call_Name_kw->aeM,wpAny_typeOf->aeP,intKind->aeW,wpAny_fieldsOf->aeZ,Scope->ae2,wpAny_pyIter_list->ae4,seqIndex?->ae6,atKey->ae7,wpAny_pyIter_slot->afb,NameKind->afc,PassesOwn->afe,pickOrder->aff
open List renaming getElem?_eq_getElem->ZM,mem_cons_self->ZS,length_cons->ZT,size_toArray->ZU,length_map->ZW,mem_cons_of_mem->ZX,length_append->ZZ,getElem?_eq_some_iff->Z0,mem_cons->Z4,mem_append_right->Z6,map_cons->Z_,mem_singleton->aag,mem_append->aai,append_assoc->aao,mem_append_left->aat,getElem?_set_ne->aav,mem_range->aax,getElem?_map->aay,range->aaA,append_nil->aaF,all_eq_true->aaI,getElem_mem->aaJ,length_take->aaM,pairwise_cons->aaN,mem_map->aaP,getElem?_append_right->aaQ,flatten_cons->aaS,pairwise_singleton->aaU,mem_of_getElem?->aaV,getElem?_cons_succ->aa1,nodup_cons->aa4,length_set->aa5,getElem?_append_left->aa7,drop_eq_getElem_cons->aa8,take_append_drop->abd,length_drop->abf,length_range->abk,find?_cons->abm,getElem?_eq_none_iff->abo,map_append->abp,mem_of_mem_take->abA,lookup_cons->abB,map_map->abC,take_succ_eq_append_getElem->abD,pairwise_map->abJ,nodup_append->abK,map_nil->abO,nil_append->abP,set_cons_zero->abQ,eq_nil_of_length_eq_zero->abT,mem_iff_getElem->abU,mem_of_mem_drop->abV,length_nil->ab4,flatten_append->ab5,mem_map_of_mem->ab6,getElem?_set_self->ab7,take_of_length_le->ab8,zipWith_cons_cons->ab9,cons_append->aca,not_mem_nil->acb,pairwise_iff_getElem->aco,extract_eq_take_drop->acp,ext_getElem?->acA,map_congr_left->acI,drop_eq_nil_of_le->acM,set_cons_succ->acN,length_replicate->acQ,length_singleton->acR,perm_append_comm->ac0,getElem?_eq_none->ac1,getD_eq_getElem?_getD->ada,drop_length->adm,nodup_range->adn,mem_nil_iff->ado,take_length->ads,getElem?_range->adt,reverse_append->adu,replicate_succ->adw,replicate_zero->adx,zipWith->adz,zip_cons_cons->adE,forIn_cons->adI,all_cons->adJ,getD->adL,getElem?_drop->adN,find?_eq_none->adO,getElem?_take->adQ,getElem_take->ad3,replicate->ad5,nodup_nil->ad7,drop_zero->ad8,filterMap_cons->aep,length_zipWith->aex,mem_filterMap->aeJ,getElem?_take_of_lt->ae5,filterMap_cons_some->ae_
open PySem.Heap renaming get?_push_of_some->ZP,get?_push_size->Z3,lt_size->Z9,size_push->abg,get?_update_self->abv,SameBut->abM
open PySem.W renaming Frag->ZQ,fnOf->Z1,keepIn->aah,nsIn->aak,codeIn->aan,mg_of->aas,mg_none_of->aaX,findIn->ad4,methodObj->ae3
open Array renaming length_toList->ZR,getElem?_toList->aaa,getElem?_eq_getElem->aap,toList_append->aaO,getElem?_eq_some_iff->aaR,toList_push->ab3,toList_extract->acr,toList_reverse->adb,getElem?_eq_none->adT,getD->adX,toList_setIfInBounds->aeD,perm_iff_toList_perm->aeE,forIn_toList->aeS
open Bool renaming false_ne_true->ZV,and_eq_true->aae,false_eq_true->aau,or_eq_false_iff->aa_,eq_iff_iff->acT,eq_false_iff->ac5,not_true->ac7,or_eq_true->adM,and_false->ad6,not_false->aeY
open Nat renaming le_refl->Z2,ne_of_lt->aaq,lt_of_lt_of_le->aaB,le_trans->aaT,zero_le->aba,le_add_right->abr,mul_assoc->abx,add_sub_cancel_left->abz,lt_irrefl->abL,lt_succ_of_lt->ab1,le_of_lt_succ->ab2,zero_add->acd,pow_succ->ace,mul_comm->acf,add_assoc->acG,ne_of_gt->acO,succ_pos->acU,lt_or_ge->acV,min_eq_left->acZ,mod_lt->ac8,lt_of_le_of_lt->adH,mul_left_comm->adW,lt_trichotomy->adY,lt_succ_self->aed,sub_self->aeT,add_zero->aeU
open PyProof.Rows renaming wpS_bind->Z7,wpS_pure->aad,SortSt->aal,Keyed->aam,pendingOf->aaz,arrOf->aaC,kindOf->abb,wpS_forRange->abe,slot_tuple_getitem->abI,IntsAre->abW,wpS_mono->aci,callWith_type1->acP,SortKind->adp,failedOf->adq,wpS_modify->adA,reverseSlice'->aen,assignInOrder_cons->aeG,envOfC->aeN,seqObj->aeR,gallopOf->aeV,elem'->ae0,wpS_get->ae1,KeyOrd->afd
open Option.some renaming inj->aaj
open PyProof.Rows.KeyOrd renaming kle_trans->aaw,kle_of_klt->aaL,kle_refl->abq
open PySem.Builtin.SmallTypes renaming nextOf->aaE,ownedTupleIsFree->abt,ownedTupleHandOut->adh
open PySem.PassesOwn renaming never->aaW
open PySem.Heap.SameBut renaming update->aa2
open PySem.F renaming plainAttrs_list->aa3,slot_dict_keyiterator_next->abX,slot_tuple_iterator_next->ab_,slot_list_extend->acD,type_list_extend->acE,args_tuple_add_2->ady,slot_list_append->adB,type_list_append->adC,entry_tuple_add->adF,slot_tuple_add->adS,args_dict_keyiterator_next_1->aea,entry_dict_keyiterator_next->aee,args_tuple_iterator_next_1->ael,slot_dict_setdefault->aeo,entry_tuple_iterator_next->aev,slot_zip_next->aew
open List.Perm renaming append_left->abc,refl->abh,append_right->abF
open Int renaming toNat_natCast->abl,emod_lt_of_pos->acg,emod_nonneg->acW
open PySem.Builtin.Tuple renaming tupleHashOf->abn,tupleExact->acy,tupleItemsOf->ac9,tupleIsExact->aeC
open PySem.Obj renaming data_mapFields->aby,isFreed_of_fields->acY,mapSeq->ac4,cls_mapFields->ad1,putSet->afa
open PySem.Str renaming ofString->abN
open PySem.Builtin.Slice renaming slicePlaces->acm,sliceAdjust->adf,sliceApplied->aeB
open Classical renaming byContradiction->acn
open PySem.Around renaming under_plainId->acs
open PySem.SeqAt renaming EqAt->acx
open PySem.Builtin.List renaming listTooLong->acz,listLengthHint->aez
open List.Pairwise renaming imp_of_mem->acB
open List.Nodup renaming length_le_of_subset->acF
open Option renaming getD_some->acK,getD_none->adk,map_eq_none_iff->adU
open False renaming elim->ac3
open PyProof.Rows.F renaming plain_set_update_loop->adP
open Nat.Coprime renaming dvd_of_dvd_mul_right->adR
open PySem.Builtin.Frozenset renaming updateFrom->aek
open PySem.Builtin.Dict_items renaming ownsTuple->aem
open PySem.SeqAt.EqAt renaming same->aeu,int_int->aeO,of_refs->aeQ
open PySem.Calls renaming Name_function_global->aeA,spliced_cons->aeK,call_function_entry->aeX
open PySem.SeqAt.RcAt renaming tuples->ae8,lists_lengths->ae9
open PySem PySem.Spec PyProof.Rows
variable {a b it f p z i1 i2 a1 a2:Z5}{o l T ra rb S:List aam}{P prog:ack}{w:acJ}{h h':acj}{t' i j k n g base m mask ep bc:Nat}{ch fp L L':List Z5}{x qual:Str}{N ps loose:List Str}{M:Model}{A:Z5->Prop}{E Q:ZO->Z8->Prop}{t:adi}{s:Z8}{pins:List (Z5×Obj)}{pos:Pos}{op:CmpOp}{c tg iter elt:abE}{K:ZQ}{st:ad9}{body:List ad9}{hi:Option Int}{C:Nat->Option (Int×ZO)}{its:List ZO}{mg:Str->Option ZO}{fd:aeh}{scope:ae2}{items ys:Array ZO}{ns d:List Int}{q:ZO}{XP:(Str->Option ZO)->acj->Prop}{YP:acJ->acj->Prop}{env:Env}{js:List (Option Nat)}{oX:List abE}{l1 l2:Bool}{ds:Array DictEntry}{arr:Array aam}{cZ:List (List Int)}{d0 d1 d2 d3 d4 d5 e0 e1 e2 e3 e4 e5 d6 e6:Int}
namespace L2
noncomputable abbrev jI:=Sum Int Str
noncomputable def tG:jI->ZO->Bool
 | .inl k,v=>Value.isInt k v
 | .inr x,v=>Value.isStrOf x v
noncomputable def P5 (w:acJ):jI->Int
 | .inl k=>hashInt k
 | .inr x=>hashStr w x
theorem cO:∀{k:jI} {v:ZO},tG k v=true->(∃i t,k=Sum.inl i/\v=Value.int i t)\/(∃x t,k=Sum.inr x/\v=Value.str x t)
 | .inl i,v,h=>by
  obtain⟨t,e⟩:=Value.isInt_shape (k:=i) (v:=v) h;exact .inl ⟨i,t,rfl,e⟩
 | .inr x,v,h=>by
  obtain⟨t,e⟩:=Value.isStrOf_shape (x:=x) (v:=v) h;exact .inr ⟨x,t,rfl,e⟩
theorem Bt (i:Int)(t:Tok):tG (.inl i) (.int i t)=true:=by simp[tG,Value.isInt]
theorem Bu (x:Str)(t:Tok):tG (.inr x) (.str x t)=true:=by simp[tG,Value.isStrOf]
theorem JS (a b:Int):decide ((Sum.inl a:jI)=Sum.inl b)=(a==b):=by
 by_cases e:a=b
 ·subst e;simp
 ·have h:¬(Sum.inl a:jI)=Sum.inl b:=λq=>e (Sum.inl.inj q);rw[hJ h];exact (beq_eq_false_iff_ne.mpr e).symm
theorem JT (a b:Str):decide ((Sum.inr a:jI)=Sum.inr b)=decide (a=b):=by
 by_cases e:a=b
 ·subst e;simp
 ·have h:¬(Sum.inr a:jI)=Sum.inr b:=λq=>e (Sum.inr.inj q);rw[hJ h,hJ e]
theorem JU (a:Int)(b:Str):decide ((Sum.inl a:jI)=Sum.inr b)=false:=hJ (λq=>nomatch q)
theorem JV (a:Str)(b:Int):decide ((Sum.inr a:jI)=Sum.inl b)=false:=hJ (λq=>nomatch q)
noncomputable def fz (prog:ack)(w:acJ):PySem.KeyKind prog w jI where
 is:=tG
 hash:=P5 w
 inj:=λv a b ha hb=>by
  rcases cO ha with⟨i,t,rfl,rfl⟩|⟨x,t,rfl,rfl⟩
  ·rcases cO hb with⟨j,u,rfl,e⟩|⟨y,u,rfl,e⟩
   ·injection e with e1 _;rw[e1]
   ·exact nomatch e
  ·rcases cO hb with⟨j,u,rfl,e⟩|⟨y,u,rfl,e⟩
   ·exact nomatch e
   ·injection e with e1 _;rw[e1]
 byValue:=λk v h=>by
  rcases cO h with⟨i,t,rfl,rfl⟩|⟨x,t,rfl,rfl⟩<;>rfl
 pyHash:=λhv h=>by
  rcases cO hv with⟨i,t,rfl,rfl⟩|⟨x,t,rfl,rfl⟩
  ·exact wpAny_pyHash_int h
  ·exact wpAny_pyHash_str h
 eqBool:=λhu hv h=>by
  rcases cO hu with⟨i,t,rfl,rfl⟩|⟨x,t,rfl,rfl⟩
  ·rcases cO hv with⟨j,u,rfl,rfl⟩|⟨y,u,rfl,rfl⟩
   ·rw[JS] at h;exact wpAny_eqBool_int h
   ·rw[JU] at h;exact SeqAt.EqAt.int_str i t y u _ _ _ _ h
  ·rcases cO hv with⟨j,u,rfl,rfl⟩|⟨y,u,rfl,rfl⟩
   ·rw[JV] at h;exact SeqAt.EqAt.str_int x t j u _ _ _ _ h
   ·rw[JT] at h;exact wpAny_eqBool_str h
 «strs»:=λk x t v h=>by
  rcases cO h with⟨i,u,rfl,e⟩|⟨y,u,rfl,e⟩
  ·exact nomatch e
  ·injection e with e1 _
   subst e1;cases v<;>rfl
theorem wu (prog:ack)(w:acJ)(i:Int)(t:Tok):(fz prog w).is (.inl i) (.int i t)=true:=Bt i t
theorem wx (prog:ack)(w:acJ)(x:Str)(t:Tok):(fz prog w).is (.inr x) (.str x t)=true:=Bu x t
end L2
namespace L2
inductive V where
 |non|bl (b:Bool)|int (i:Int)|str (x:Str)|byt (b:Array UInt8)|flt (b:UInt64)|ref (a:Z5)|ty (n:String)
 deriving DecidableEq
def bx:V->ZO->Prop
 | .non,u=>u=Value.none
 | .bl b,u=>u=Value.bool b
 | .int i,u=>∃t,u=Value.int i t
 | .str x,u=>∃t,u=Value.str x t
 | .byt b,u=>∃t,u=Value.bytes b t
 | .flt b,u=>∃t,u=Value.float b t
 | .ref a,u=>u=Value.ref a
 | .ty n,u=>u=Value.type n
abbrev bh:List V->List ZO->Prop:=aeF bx
theorem bh.length {xs:List V}{us:List ZO}(r:bh xs us):xs.length=us.length:=Paired.length r
theorem bh.get:∀{xs:List V} {us:List ZO} {i:Nat} {x:V},bh xs us->xs[i]? = some x->∃u,us[i]? = some u/\bx x u
 |_,_,_,_,.nil,e=>by simp at e
 |_,_,0,_,.cons r _,e=>by simp at e;subst e;exact⟨_,rfl,r⟩
 |_,_,i+1,x,.cons _ t,e=>by
  obtain⟨u,h1,h2⟩:=bh.get (i:=i) (x:=x) t (by simpa using e);exact⟨u,by simpa using h1,h2⟩
theorem bh.set {x:V}{u:ZO}(r:bx x u):∀{xs:List V} {us:List ZO} (i:Nat),bh xs us->bh (xs.set i x) (us.set i u)
 |_,_,_,.nil=>.nil
 |_,_,0,.cons _ t=>.cons r t
 |_,_,i+1,.cons q t=>.cons q (bh.set r i t)
theorem bh.append:∀{xs ys:List V} {us ws:List ZO},bh xs us->bh ys ws->bh (xs++ys) (us++ws)
 |_,_,_,_,.nil,s=>s
 |_,_,_,_,.cons r t,s=>.cons r (bh.append t s)
theorem bh.take:∀{xs:List V} {us:List ZO} (n:Nat),bh xs us->bh (xs.take n) (us.take n)
 |_,_,0,_=>.nil
 |_,_,_+1,.nil=>.nil
 |_,_,n+1,.cons r t=>.cons r (bh.take n t)
theorem bh.drop:∀{xs:List V} {us:List ZO} (n:Nat),bh xs us->bh (xs.drop n) (us.drop n)
 |_,_,0,r=>r
 |_,_,_+1,.nil=>.nil
 |_,_,n+1,.cons _ t=>bh.drop n t
def oY:Option V->Option ZO->Prop
 |some v,some u=>bx v u
 |none,none=>True
 |_,_=>False
def KV {κ:Type}:List (κ×V)->List (κ×ZO)->Prop:=aeF λ(p:κ×V) (q:κ×ZO)=>p.1=q.1/\bx p.2 q.2
noncomputable def kV:jI->V
 | .inl i=>.int i
 | .inr x=>.str x
inductive HO where
 |lst (xs:List V)
 |tup (xs:List V)
 |dK (cF:List (jI×V))|dT (cF:List (List jI×V))
 |set (S:Int->Bool) (n:Nat)
 |ins (C dx:Z5) (fs:List (Str×V))
 |own (x:Z5)
 |xd (fs:List (Str×V))
 |met (f x:Z5)
 |rng (lo hi:Int)
 |frz (o:Obj) (u:HO)
 |tbl (ps:Array ZO)
 |ext (φ:acj->Prop)
noncomputable abbrev Hp:=Z5->Option HO
noncomputable def c_ (H:Hp)(a:Z5)(o:HO):Hp:=λb=>if b=a then some o else H b
theorem bS {H:Hp}{o:HO}:c_ H a o a=some o:=by unfold c_;rw[hV rfl]
theorem bp {H:Hp}{o:HO}(h:b≠a):c_ H a o b=H b:=by unfold c_;rw[hU h]
theorem bY {H:Hp}{o:HO}(h:H a=some o)(h':H b=none):a≠b:=by
 intro e;subst e;rw[h] at h';cases h'
section
variable (P:ack)(w:acJ)
def dX (H:Hp)(h:acj)(a:Z5):HO->Prop
 | .lst xs=>xs.length<=ZY/\∃(its:List ZO) (n:Nat),bh xs its/\h.get? a=some {cls:=.type "list",data:=.seq its.toArray n}
 | .tup xs=>xs.length<=ZY/\∃its:List ZO,bh xs its/\IsTup h a its.toArray/\∃n,h.get? a=some {cls:=.type "tuple",data:=.seq its.toArray n}
 | .dK cF=>cF.length<=ZY/\(a==abZ)=false/\∃vs,KV cF vs/\h.DictOf (fz P w) a vs
 | .dT cF=>cF.length<=ZY/\(a==abZ)=false/\∃xs:List (List jI×Z5×ZO),
   aeF (λ(p:List jI×V) (q:List jI×Z5×ZO)=>p.1=q.1/\H q.2.1=some (.tup (p.1.map kV))/\bx p.2 q.2.2) cF xs/\
   ∃o es ep,h.get? a=some o/\o.ExactDict/\o.data=.dict es ep/\es.toList=xs.map (entryOfKey (tupleKind (fz P w)))/\(xs.map (·.1)).Nodup
 | .set S n=>h.SetOf (aeW P w) a S n
 | .ins C dx fs=>H dx=some (.own a)/\fs.length<=1000/\dx≠a/\h.get? a=some (PySem.W.instObj C dx)/\
   ∃mA,h.Ns1 dx mA/\(∀f,oY (fs.lookup f) (mA f))/\PySem.Within mA (fs.map (·.1))
 | .own _=>∃o,h.get? a=some o
 | .xd fs=>∃mA,h.Ns1 a mA/\∀f,oY (fs.lookup f) (mA f)
 | .rng lo hi=>∃t u v,h.get? a=some {cls:=.type "range",data:=.fields #[.int lo t,.int hi u,.int 1 v]}
 | .frz o u=>h.get? a=some o/\dX H h a u
 | .tbl ps=>h.get? a=some {cls:=.none,data:=.fields ps}
 | .met f x=>h.get? a=some (ae3 (.ref f) (.ref x))
 | .ext φ=>φ h/\(∃o,h.get? a=some o)/\∀h1 h2:acj,φ h1->(∀o,h1.get? a=some o->h2.get? a=some o)->φ h2
def kT (H:Hp)(h:acj):Prop:=∀a o,H a=some o->dX P w H h a o
end
section
variable {H H':Hp}{o:HO}
theorem dX.lt (x:dX P w H h a o):a<h.objs.size:=by
 cases o with
 |lst xs=>obtain⟨_,_,_,_,e⟩:=x;exact Z9 e
 |tup xs=>obtain⟨_,_,_,p,_⟩:=x;exact p.lt
 |dK cF=>obtain⟨_,_,_,_,o,_,_,e,_⟩:=x;exact Z9 e
 |dT cF=>obtain⟨_,_,_,_,o,_,_,e,_⟩:=x;exact Z9 e
 |set S n=>obtain⟨o,_,_,_,e,_⟩:=x;exact Z9 e
 |ins C dx fs=>obtain⟨_,_,_,e,_⟩:=x;exact Z9 e
 |own y=>obtain⟨_,e⟩:=x;exact Z9 e
 |xd fs=>obtain⟨_,⟨_,_,_,e,_⟩,_⟩:=x;exact Z9 e
 |rng lo hi=>obtain⟨_,_,_,e⟩:=x;exact Z9 e
 |frz ob u=>obtain⟨e,_⟩:=x;exact Z9 e
 |tbl ps=>exact Z9 (show h.get? a=some _ from x)
 |met f y=>exact Z9 (show h.get? a=some _ from x)
 |ext φ=>obtain⟨_,⟨_,e⟩,_⟩:=x;exact Z9 e
theorem Paired.mapP {α β:Type}{F G:α->β->Prop}:∀{l₁:List α} {l₂:List β},aeF F l₁ l₂->(∀a b,F a b->G a b)->aeF G l₁ l₂
 |_,_,.nil,_=>.nil
 |_,_,.cons r t,f=>.cons (f _ _ r) (Paired.mapP t f)
theorem dX.stay (x:dX P w H h a o)(k:∀b u,(b=a\/H b=some (.own a))->h.get? b=some u->h'.get? b=some u)
  (ho:∀b,H b=some (.own a)->H' b=some (.own a)) (ht:∀b xs,H b=some (.tup xs)->H' b=some (.tup xs)):dX P w H' h' a o:=by
 induction o with
 |lst xs=>obtain⟨z,its,n,r,e⟩:=x;exact⟨z,its,n,r,k _ _ (.inl rfl) e⟩
 |tup xs=>obtain⟨z,its,r,⟨ob,e,c⟩,n2,e2⟩:=x;exact⟨z,its,r,⟨ob,k _ _ (.inl rfl) e,c⟩,n2,k _ _ (.inl rfl) e2⟩
 |dK cF=>obtain⟨z,y,vs,r,ob,es,ep,e,c⟩:=x;exact⟨z,y,vs,r,ob,es,ep,k _ _ (.inl rfl) e,c⟩
 |dT cF=>
  obtain⟨z,y,xs,r,ob,es,ep,e,c⟩:=x;exact⟨z,y,xs,Paired.mapP r λp q z=>⟨z.1,ht _ _ z.2.1,z.2.2⟩,ob,es,ep,k _ _ (.inl rfl) e,c⟩
 |set S n=>obtain⟨ob,es,ep,t,e,c⟩:=x;exact⟨ob,es,ep,t,k _ _ (.inl rfl) e,c⟩
 |ins C dx fs=>
  obtain⟨d,z,ne,e,mA,⟨od,es,ep,e2,c⟩,r⟩:=x;exact⟨ho _ d,z,ne,k _ _ (.inl rfl) e,mA,⟨od,es,ep,k _ _ (.inr d) e2,c⟩,r⟩
 |own y=>obtain⟨ob,e⟩:=x;exact⟨ob,k _ _ (.inl rfl) e⟩
 |xd fs=>obtain⟨mA,⟨od,es,ep,e,c⟩,r⟩:=x;exact⟨mA,⟨od,es,ep,k _ _ (.inl rfl) e,c⟩,r⟩
 |rng lo hi=>obtain⟨t,u,v,e⟩:=x;exact⟨t,u,v,k _ _ (.inl rfl) e⟩
 |frz ob u ih=>obtain⟨e,q⟩:=x;exact⟨k _ _ (.inl rfl) e,ih q⟩
 |tbl ps=>
  have e:h.get? a=some {cls:=.none,data:=.fields ps}:=x;show h'.get? a=some {cls:=.none,data:=.fields ps};exact k a _ (.inl rfl) e
 |met f y=>
  have e:h.get? a=some (ae3 (.ref f) (.ref y)):=x;show h'.get? a=some (ae3 (.ref f) (.ref y));exact k a _ (.inl rfl) e
 |ext φ=>obtain⟨p,⟨o,e⟩,st⟩:=x;exact⟨st _ _ p λo q=>k _ _ (.inl rfl) q,⟨o,k _ _ (.inl rfl) e⟩,st⟩
theorem kT.lt (x:kT P w H h)(e:H a=some o):a<h.objs.size:=(x a o e).lt
theorem kT.fresh (x:kT P w H h)(e:h.objs.size<=a):H a=none:=by
 cases q:H a with
 |none=>rfl
 |some u=>exact absurd (aaB (x.lt q) e) (abL _)
theorem kT.kept (x:kT P w H h)(k:∀b u,h.get? b=some u->h'.get? b=some u):kT P w H h':=λa o e=>
 (x a o e).stay (λb u _ q=>k b u q) (λ_ q=>q) λ_ _ q=>q
theorem kT.laid (x:kT P w H h)(k:∀b u,h.get? b=some u->h'.get? b=some u)(hp:h.objs.size<=a)(new:dX P w (c_ H a o) h' a o):kT P w (c_ H a o) h':=λb u e=>by
 have hn:=x.fresh hp;by_cases hb:b=a
 ·subst hb;rw[bS] at e;cases e;exact new
 ·rw[bp hb] at e;exact (x b u e).stay (λc v _ q=>k c v q) (λc q=>by rw[bp (bY q hn)];exact q) λc xs q=>by rw[bp (bY q hn)];exact q
end
def Rd (H:Hp)(a:Z5)(u:HO):Prop:=H a=some u\/∃o,H a=some (.frz o u)
theorem Rd.ok {H:Hp}{u:HO}(r:Rd H a u)(x:kT P w H h):dX P w H h a u:=by
 rcases r with r|⟨o,r⟩
 ·exact x a u r
 ·obtain⟨_,q⟩:=x a _ r;exact q
def L9:Option HO->Prop
 |some (.lst _)=>True
 |some (.dK _)=>True
 |some (.dT _)=>True
 |some (.set _ _)=>True
 |some (.ins _ _ _)=>True
 |some (.ext _)=>True
 |_=>False
section
variable {H:Hp}{x e:Z5}{o':HO}
theorem kT.write (ok:kT P w H h)(mu:L9 (H x))(he:e=x\/H e=some (.own x))(k:∀b u,b≠e->h.get? b=some u->h'.get? b=some u)(Mj:∃u,h'.get? e=some u)
  (new:dX P w (c_ H x o') h' x o'):kT P w (c_ H x o') h':=λb u q=>by
 have Om:∀c y,H c=some (.own y)->c≠x:=λc y r z=>by subst z;rw[r] at mu;exact mu
 have Rj:∀c xs,H c=some (.tup xs)->c≠x:=λc xs r z=>by subst z;rw[r] at mu;exact mu
 by_cases hb:b=x
 ·subst hb;rw[bS] at q;cases q;exact new
 ·rw[bp hb] at q;by_cases hbe:b=e
  ·have q':H b=some (.own x):=by
    rcases he with z|z
    ·exact absurd (hbe.trans z) hb
    ·rw[hbe];exact z
   rw[q] at q';cases q';obtain⟨v,hv⟩:=Mj;exact⟨v,by rw[hbe];exact hv⟩
  ·refine (ok b u q).stay (λc v hc r=>k c v ?_ r) (λc r=>by rw[bp (Om c b r)];exact r) λc xs r=>by rw[bp (Rj c xs r)];exact r
   rcases hc with rfl|hc
   ·exact hbe
   ·rintro rfl;rcases he with z|z
    ·exact Om c b hc z
    ·rw[hc] at z;cases z;exact hb rfl
end
structure Un (fs ex:List Z5)(H H':Hp)(h h':acj):Prop where
 keep:∀b o,h.get? b=some o->H b=none->b∉fs->b∉ex->h'.get? b=some o
 slot:∀b o,h.get? b=some o->H b=none->b∈fs->b∉ex->∃sl,h'.get? b=some {o with slots:=sl}
 free:∀b o,h.get? b=some o->H b=none->b∉ex->H' b=none
 there:∀b o,h.get? b=some o->b∉ex->∃o',h'.get? b=some o'
 tups:∀b xs,H b=some (.tup xs)->H' b=some (.tup xs)
 frzs:∀b o u,H b=some (.frz o u)->H' b=some (.frz o u)
 tbls:∀b ps,H b=some (.tbl ps)->∃more,H' b=some (.tbl (ps++more))
section
variable {fs fs' ex ex':List Z5}{H H1 H2:Hp}{h1 h2:acj}{x e:Z5}{o:HO}
theorem Un.any (u:Un fs ex H H1 h h1){ob:Obj}(q:h.get? b=some ob)(n:H b=none)(hx:b∉ex):∃sl,h1.get? b=some {ob with slots:=sl}:=by
 by_cases hb:b∈fs
 ·exact u.slot b ob q n hb hx
 ·exact⟨ob.slots,u.keep b ob q n hb hx⟩
theorem Un.kept (k:∀b u,h.get? b=some u->h'.get? b=some u):Un fs ex H H h h' :=
 ⟨λb ob q _ _ _=>k b ob q,λb ob q _ _ _=>⟨ob.slots,k b ob q⟩,λ_ _ _ n _=>n,λb ob q _=>⟨ob,k b ob q⟩,λ_ _ q=>q,λ_ _ _ q=>q,λ_ ps q=>⟨#[],by rw[q];simp⟩⟩
theorem Un.refl:Un fs ex H H h h:=Un.kept λ_ _ q=>q
theorem Un.laid (k:∀b u,h.get? b=some u->h'.get? b=some u)(hp:h.objs.size<=a)(hn:H a=none):Un fs ex H (c_ H a o) h h' where
 keep:=λb u q _ _ _=>k b u q
 slot:=λb u q _ _ _=>⟨u.slots,k b u q⟩
 free:=λb u q n _=>by rw[bp (aaq (aaB (Z9 q) hp))];exact n
 there:=λb u q _=>⟨u,k b u q⟩
 tups:=λb xs q=>by rw[bp (bY q hn)];exact q
 frzs:=λb u xs q=>by rw[bp (bY q hn)];exact q
 tbls:=λb ps q=>⟨#[],by rw[bp (bY q hn),q];simp⟩
theorem Un.write (mu:L9 (H x))(he:e=x\/H e=some (.own x))(k:∀b u,b≠e->h.get? b=some u->h'.get? b=some u)(Mj:∃u,h'.get? e=some u):Un fs ex H (c_ H x o) h h':=by
 have hx:∀b,H b=none->b≠x:=λb n z=>by subst z;rw[n] at mu;exact mu
 have hb:∀b,H b=none->b≠e:=λb n z=>by
  subst z;rcases he with r|r
  ·exact hx b n r
  ·rw[n] at r;cases r
 have hm:∀b u,H b=some u->¬L9 (some u)->b≠x:=λb u q nm z=>by subst z;rw[q] at mu;exact nm mu
 refine⟨λb u q n _ _=>k b u (hb b n) q,λb u q n _ _=>⟨u.slots,k b u (hb b n) q⟩,λb u q n _=>by rw[bp (hx b n)];exact n,λb u q _=>?_,
  λb xs q=>by rw[bp (hm b _ q λz=>z)];exact q,λb u xs q=>by rw[bp (hm b _ q λz=>z)];exact q,λb ps q=>⟨#[],by rw[bp (hm b _ q λz=>z),q];simp⟩⟩
 by_cases hbe:b=e
 ·subst hbe;exact Mj
 ·exact⟨u,k b u hbe q⟩
end
noncomputable def Pe (h:acj)(H:Hp):List Z5:=(aaA h.objs.size).filter λa=>(H a).isSome
noncomputable def uP (h:acj)(H:Hp):acj:=PySem.W.hideAll h (Pe h H)
theorem Bv (h:acj)(H:Hp):(uP h H).objs.size=h.objs.size:=PySem.W.hideAll_size _ _
theorem CL {H:Hp}{o:Obj}(e:h.get? b=some o)(n:H b=none):(uP h H).get? b=some o:=
 PySem.W.hideAll_get _ e λhm=>by
  have q:(H b).isSome=true:=(List.mem_filter.mp hm).2;rw[n] at q;simp at q
theorem F8 {H:Hp}{o:Obj}(e:(uP h H).get? b=some o):h.get? b=some o/\H b=none:=by
 have e':h.get? b=some o:=PySem.W.of_hideAll (Pe h H) e;refine⟨e',?_⟩;cases q:H b with
 |none=>rfl
 |some x=>
  have hm:b∈Pe h H:=List.mem_filter.mpr ⟨aax.mpr (Z9 e'),by simp[q]⟩;have z:(uP h H).get? b=none:=PySem.W.hideAll_none (Pe h H) hm;rw[z] at e;cases e
end L2
variable {xs vs:List L2.V}{H H' H1 H2:L2.Hp}{v y v':L2.V}
namespace L2
structure Mod (K:ZQ)(mg:Str->Option ZO)(base:acj):Prop where
 kin:K.In base
 glob:base.Ns aab mg
 blt:∃mb,base.Ns builtinsNs mb/\∀x:Str,x≠"__name__"->mb x=aaY x
 nolimit:base.NoLimit
structure Cx where
 prog:ack
 w:acJ
 K:ZQ
 mg:Str->Option ZO
 base:acj
 A:aaD
 N:List Str
 s₀:Z8
 H₀:Hp
 env:Env
 outer:List Env
 stack:List Env
 ex:List Z5
 fn:Str->Bool
 calm:Bool
 pn:List (Z5×Obj)
 xe:ZO->Z8->Prop
noncomputable def zW (l:List Env):List Z5:=l.filterMap (·.frame)
noncomputable abbrev Cx.fs (X:Cx):List Z5:=zW X.outer
def F9 (sc:ae2)(x:Str):Prop:=sc.names.lookup x=some .local\/sc.names.lookup x=some .cell\/sc.names.lookup x=some .free
def FZ (sc:ae2)(x:Str):Prop:=sc.names.lookup x=some .local\/sc.names.lookup x=some .cell
def P6 (env:Env)(h:acj)(m:Str->Option ZO)(x:Str)(u:ZO):Prop:=
 (env.kindOf x=some .local/\m x=some u)\/((env.kindOf x=some .cell\/env.kindOf x=some .free)/\∃c,env.cells.lookup x=some c/\h.IsCell c (some u))
structure Cx.Ok (X:Cx):Prop where
 mod:Mod X.K X.mg X.base
 kind:X.env.scope.kind=.function
 glob:X.env.globals=aab
 blt:X.env.builtins=builtinsNs
 above:X.s₀.heap.objs.size<=X.env.locals
 inj:∀x y c,X.env.cells.lookup x=some c->X.env.cells.lookup y=some c->x=y
 has:∀x,(X.env.kindOf x=some .cell\/X.env.kindOf x=some .free)->∃c,X.env.cells.lookup x=some c
 cab:∀x c,X.fn x=true->X.env.cells.lookup x=some c->X.s₀.heap.objs.size<=c
 hd:X.calm=true->X.A.handled=none
 frames:X.A.frames=some X.stack
 stk:X.stack=X.outer\/(X.stack=X.env::X.outer/\X.env.frame=some X.env.locals)
 exf:∀b∈X.ex,b≠X.env.locals/\∀x c,X.env.cells.lookup x=some c->c≠b
 bs:∀b o,X.base.get? b=some o->X.s₀.heap.get? b=some o/\X.H₀ b=none
 bsz:X.base.objs.size<=X.s₀.heap.objs.size
 noex:∀b o,X.base.get? b=some o->b∉X.ex
 exfs:∀b∈X.ex,b∉X.fs
 funs:X.s₀.heap.FunFrames X.base X.outer
 frf:∀b∈X.fs,X.H₀ b=none
structure aJ (X:Cx)(pins:List (Z5×Obj))(σ:List (Option V))(H:Hp)(s:Z8):Prop where
 ok:X.Ok
 os:s.os=X.s₀.os
 bare:AllBare s.gens
 base:Un X.fs X.ex X.H₀ H X.s₀.heap s.heap
 loc:∃m,s.heap.Ns X.env.locals m/\∀(i:Nat) (x:Str) (v:V),X.N[i]? = some x->σ[i]? = some (some v)->F9 X.env.scope x->∃u,bx v u/\P6 X.env s.heap m x u
 cell:∀x c,X.env.cells.lookup x=some c->∃v,s.heap.IsCell c v
 free:H X.env.locals=none
 freeC:∀x c,X.env.cells.lookup x=some c->H c=none
 pin:∀p∈X.pn++pins,s.heap.get? p.1=some p.2/\H p.1=none/\p.1≠X.env.locals/\p.1∉X.fs/\∀v,p.2.data≠.cell v
 hok:kT X.prog X.w H s.heap
 len:σ.length=X.N.length
section
variable {X:Cx}{σ:List (Option V)}
theorem Cx.Ok.nofr (ok:X.Ok){o:Obj}(e:X.base.get? b=some o):b∉X.fs:=λhb=>by
 have:=(ok.funs.mem hb).1;rw[e] at this;cases this
theorem aJ.bs (I:aJ X pins σ H s):∀b o,X.base.get? b=some o->s.heap.get? b=some o/\H b=none:=λb o e=>
 ⟨I.base.keep b o (I.ok.bs b o e).1 (I.ok.bs b o e).2 (I.ok.nofr e) (I.ok.noex b o e),I.base.free b o (I.ok.bs b o e).1 (I.ok.bs b o e).2 (I.ok.noex b o e)⟩
theorem aJ.bk (I:aJ X pins σ H s):∀b o,X.base.get? b=some o->s.heap.get? b=some o:=λb o e=>(I.bs b o e).1
theorem aJ.mod (I:aJ X pins σ H s):Mod X.K X.mg X.base:=I.ok.mod
theorem aJ.kIn (I:aJ X pins σ H s):X.K.In s.heap:=I.ok.mod.kin.keeps I.bk
theorem aJ.lt (I:aJ X pins σ H s):X.env.locals<s.heap.objs.size:=let ⟨_,hn,_⟩:=I.loc;hn.lt
theorem aJ.sz (I:aJ X pins σ H s):X.s₀.heap.objs.size<=s.heap.objs.size:=aaT I.ok.above (Nat.le_of_lt I.lt)
theorem aJ.nofs (I:aJ X pins σ H s)(h:s.heap.objs.size<=a):a∉X.fs:=λhb=>by
 obtain⟨_,o,ho,_⟩:=I.ok.funs.mem hb;exact absurd (aaB (Z9 ho) (aaT I.sz h)) (abL _)
theorem aJ.cne (I:aJ X pins σ H s):∀x c,X.env.cells.lookup x=some c->c≠X.env.locals:=λx c e z=>by
 obtain⟨v,o,ho,hd⟩:=I.cell x c e;obtain⟨m,⟨o',es,ep,FJ,hd',_⟩,_⟩:=I.loc;rw[z,FJ] at ho;cases ho;rw[hd'] at hd;cases hd
theorem aJ.funs (I:aJ X pins σ H s):s.heap.FunFrames X.base X.outer:=by
 have all:∀(l:List Env),(∀b∈zW l,b∈X.fs)->X.s₀.heap.FunFrames X.base l->s.heap.FunFrames X.base l:=by
  intro l
  induction l with
  |nil=>intro _ _;trivial
  |cons env r ih=>
   intro hs hl;obtain⟨hk,⟨L,o,hf,hn,ho,hd⟩,hr⟩:=hl;have hL:L∈X.fs:=hs L (by unfold zW;rw[aep,hf];exact ZS);obtain⟨sl,e⟩:=I.base.slot L o ho (I.ok.frf L hL) hL λz=>I.ok.exfs L z hL;exact⟨hk,⟨L,_,hf,hn,e,hd⟩,ih (λb hb=>hs b (by unfold zW;rw[aep,hf];exact ZX _ hb)) hr⟩
 exact all X.outer (λ_ hb=>hb) I.ok.funs
theorem aJ.stack (I:aJ X pins σ H s):s.heap.FunFrames X.base X.stack:=by
 rcases I.ok.stk with e|⟨e,hf⟩
 ·rw[e];exact I.funs
 ·rw[e];obtain⟨m,hn,_⟩:=I.loc;refine .cons (by rw[I.ok.kind];decide) hf hn ?_ I.funs;exact Heap.get?_none_of_le (aaT I.ok.bsz I.ok.above)
theorem aJ.stkSub (I:aJ X pins σ H s):∀b∈zW X.stack,b∈X.env.locals::X.fs:=λb hb=>by
 rcases I.ok.stk with e|⟨e,hf⟩
 ·rw[e] at hb;exact ZX _ hb
 ·rw[e] at hb;unfold zW at hb;rw[aep,hf] at hb;exact hb
theorem aJ.stkFree (I:aJ X pins σ H s):∀b∈zW X.stack,H b=none:=λb hb=>by
 rcases Z4.mp (I.stkSub b hb) with e|hb
 ·rw[e];exact I.free
 ·obtain⟨_,o,ho,_⟩:=I.ok.funs.mem hb;exact I.base.free b o ho (I.ok.frf b hb) λz=>I.ok.exfs b z hb
theorem aJ.step {t':Nat}{g':Array GenState}{d':Drawn}(I:aJ X pins σ H s)(F2:∀b∈ch,(b∈X.ex\/X.s₀.heap.objs.size<=b)/\b≠X.env.locals/\(∀x c,X.env.cells.lookup x=some c->c≠b)/\∀p∈X.pn++pins,p.1≠b)(keep:∀b o,b≠X.env.locals->b∉X.fs->b∉ch->s.heap.get? b=some o->H b=none->h'.get? b=some o)(slot:∀b o,b≠X.env.locals->b∈X.fs->b∉ch->s.heap.get? b=some o->H b=none->∃sl,h'.get? b=some {o with slots:=sl})(free:∀b o,b∉ch->s.heap.get? b=some o->H b=none->H' b=none)(there:∀b o,b∉ch->s.heap.get? b=some o->∃o',h'.get? b=some o')(tups:∀b xs,H b=some (.tup xs)->H' b=some (.tup xs))(frzs:∀b o u,H b=some (.frz o u)->H' b=some (.frz o u))(tbls:∀b ps,H b=some (.tbl ps)->∃more,H' b=some (.tbl (ps++more)))(ns:∀m,s.heap.Ns X.env.locals m->h'.Ns X.env.locals m)(hok:kT X.prog X.w H' h')(hg:AllBare g') :
  aJ X pins σ H' {s with heap:=h',gens:=g',drawn:=d',toks:=t'}:=by
 have WC:∀b o,X.s₀.heap.get? b=some o->b≠X.env.locals:=λb o e=>aaq (aaB (Z9 e) I.ok.above);have PJ:∀b o,X.s₀.heap.get? b=some o->b∉X.ex->b∉ch:=λb o e hx hb=>by
  rcases (F2 b hb).1 with z|z
  ·exact hx z
  ·exact absurd (aaB (Z9 e) z) (abL _)
 have JA:∀x c,X.env.cells.lookup x=some c->∀v,s.heap.IsCell c v->h'.IsCell c v:=λx c e v h00=>by
  obtain⟨o,ho,hd⟩:=h00;have Oo:c∉ch:=λz=>(F2 c z).2.2.1 x c e rfl;by_cases hc:c∈X.fs
  ·obtain⟨sl,q⟩:=slot c o (I.cne x c e) hc Oo ho (I.freeC x c e);exact⟨_,q,hd⟩
  ·exact⟨o,keep c o (I.cne x c e) hc Oo ho (I.freeC x c e),hd⟩
 refine⟨I.ok,I.os,hg,⟨λb o e n hb hx=>?_,λb o e n hb hx=>?_,λb o e n hx=>?_,λb o e hx=>?_,λb xs e=>tups b xs (I.base.tups b xs e),λb o xs e=>frzs b o xs (I.base.frzs b o xs e),λb ps e=>?_⟩,?_,λx c e=>?_,?_,λx c e=>?_,λp hp=>?_,hok,I.len⟩
 ·exact keep b o (WC b o e) hb (PJ b o e hx) (I.base.keep b o e n hb hx) (I.base.free b o e n hx)
 ·obtain⟨sl,e1⟩:=I.base.slot b o e n hb hx;obtain⟨sl',e2⟩:=slot b _ (WC b o e) hb (PJ b o e hx) e1 (I.base.free b o e n hx);exact⟨sl',e2⟩
 ·obtain⟨o',e1⟩:=I.base.there b o e hx;exact free b o' (PJ b o e hx) e1 (I.base.free b o e n hx)
 ·obtain⟨o',e1⟩:=I.base.there b o e hx;exact there b o' (PJ b o e hx) e1
 ·obtain⟨m1,e1⟩:=I.base.tbls b ps e;obtain⟨m2,e2⟩:=tbls b _ e1;exact⟨m1++m2,by rw[e2,Array.append_assoc]⟩
 ·obtain⟨m,hn,hl⟩:=I.loc;refine⟨m,ns m hn,λi x v e1 e2 e3=>?_⟩;obtain⟨u,r,l⟩:=hl i x v e1 e2 e3;refine⟨u,r,?_⟩;rcases l with l|⟨k,c,e,z⟩
  ·exact .inl l
  ·exact .inr ⟨k,c,e,JA x c e _ z⟩
 ·obtain⟨v,z⟩:=I.cell x c e;exact⟨v,JA x c e v z⟩
 ·obtain⟨m,⟨o,_,_,ho,_⟩,_⟩:=I.loc;exact free _ o (λz=>(F2 _ z).2.1 rfl) ho I.free
 ·obtain⟨v,o,ho,hd⟩:=I.cell x c e;exact free c o (λz=>(F2 c z).2.2.1 x c e rfl) ho (I.freeC x c e)
 ·obtain⟨e,n,ne,nf,d⟩:=I.pin p hp;have Oo:p.1∉ch:=λz=>(F2 p.1 z).2.2.2 p hp rfl;exact⟨keep p.1 p.2 ne nf Oo e n,free p.1 p.2 Oo e n,ne,nf,d⟩
theorem aJ.un {t':Nat}(I:aJ X pins σ H s)(u:Un X.fs [] H H' s.heap h')(hok:kT X.prog X.w H' h'):aJ X pins σ H' {s with heap:=h',toks:=t'}:=by
 obtain⟨m,⟨o,es,ep,ho,r⟩,_⟩:=id I.loc;obtain⟨sl,hL⟩:=u.any ho I.free (by simp);exact I.step (g':=s.gens) (d':=s.drawn) (ch:=[]) (λ_ z=>nomatch z) (λb o _ hb _ e n=>u.keep b o e n hb (by simp)) (λb o _ hb _ e n=>u.slot b o e n hb (by simp)) (λb o _ e n=>u.free b o e n (by simp)) (λb o _ e=>u.there b o e (by simp)) u.tups u.frzs u.tbls (λm' hm=>by
  obtain⟨o',FV,ep',FJ,r'⟩:=hm;rw[ho] at FJ;cases FJ;exact⟨_,FV,ep',hL,r'⟩) hok I.bare
theorem aJ.call {t':Nat}{g':Array GenState}{d':Drawn}(I:aJ X pins σ H s)(u:Un (zW X.stack) ch H H' s.heap h')(hok:kT X.prog X.w H' h')(hg:AllBare g')(F2:∀b∈ch,(b∈X.ex\/X.s₀.heap.objs.size<=b)/\b≠X.env.locals/\(∀x c,X.env.cells.lookup x=some c->c≠b)/\∀p∈X.pn++pins,p.1≠b) :
  aJ X pins σ H' {s with heap:=h',gens:=g',drawn:=d',toks:=t'}:=by
 obtain⟨m,⟨o,es,ep,ho,r⟩,_⟩:=id I.loc;obtain⟨sl,hL⟩:=u.any ho I.free λz=>(F2 _ z).2.1 rfl;exact I.step (ch:=ch) F2 (λb o hL hb hc e n=>u.keep b o e n (λz=>(Z4.mp (I.stkSub b z)).elim hL hb) hc) (λb o _ _ hc e n=>u.any e n hc) (λb o hc e n=>u.free b o e n hc) (λb o hc e=>u.there b o e hc) u.tups u.frzs u.tbls (λm' hm=>by
  obtain⟨o',FV,ep',FJ,r'⟩:=hm;rw[ho] at FJ;cases FJ;exact⟨_,FV,ep',hL,r'⟩) hok hg
theorem aJ.turned {t':Nat}(I:aJ X pins σ H s)(k:∀b o,b≠it->s.heap.get? b=some o->h'.get? b=some o)(hn:H it=none)(hL:it≠X.env.locals)(h1:it∈X.ex\/X.s₀.heap.objs.size<=it)(h2:∀x c,X.env.cells.lookup x=some c->c≠it)(h3:∀p∈X.pn++pins,p.1≠it):aJ X pins σ H {s with heap:=h',toks:=t'}:=by
 have WD:∀b u,H b=some u->b≠it:=λb u e z=>by rw[z,hn] at e;cases e
 refine I.step (g':=s.gens) (d':=s.drawn) (ch:=[it]) (λb hb=>?_) (λb o _ _ hc e _=>k b o (λz=>hc (by simp[z])) e) (λb o _ _ hc e _=>⟨o.slots,k b o (λz=>hc (by simp[z])) e⟩) (λ_ _ _ _ n=>n)
  (λb o hc e=>⟨o,k b o (λz=>hc (by simp[z])) e⟩) (λ_ _ e=>e) (λ_ _ _ e=>e) (λb ps e=>⟨#[],by rw[e];simp⟩) (λm hm=>?_) (λb u e=>?_) I.bare
 ·have e:b=it:=by simpa using hb
  subst e;exact⟨h1,hL,h2,h3⟩
 ·obtain⟨o,es,ep,ho,r⟩:=hm;exact⟨o,es,ep,k _ o (Ne.symm hL) ho,r⟩
 ·refine (I.hok b u e).stay (λc v hc q=>k c v ?_ q) (λ_ q=>q) λ_ _ q=>q;rcases hc with z|z
  ·rw[z];exact WD b u e
  ·exact WD c _ z
theorem aJ.tok (I:aJ X pins σ H s)(t:Nat):aJ X pins σ H {s with toks:=t}:=I.un (h':=s.heap) (t':=t) Un.refl I.hok
theorem aJ.kept {t':Nat}(I:aJ X pins σ H s)(k:∀b u,s.heap.get? b=some u->h'.get? b=some u):aJ X pins σ H {s with heap:=h',toks:=t'}:=I.un (Un.kept k) (I.hok.kept k)
theorem aJ.laid {t':Nat}{o:HO}(I:aJ X pins σ H s)(k:∀b u,s.heap.get? b=some u->h'.get? b=some u)(hp:s.heap.objs.size<=a)(new:dX X.prog X.w (c_ H a o) h' a o) :
  aJ X pins σ (c_ H a o) {s with heap:=h',toks:=t'}:=I.un (Un.laid k hp (I.hok.fresh hp)) (I.hok.laid k hp new)
theorem aJ.write {t':Nat}{x e:Z5}{o:HO}(I:aJ X pins σ H s)(mu:L9 (H x))(he:e=x\/H e=some (.own x))(k:∀b u,b≠e->s.heap.get? b=some u->h'.get? b=some u)(Mj:∃u,h'.get? e=some u)(new:dX X.prog X.w (c_ H x o) h' x o):aJ X pins σ (c_ H x o) {s with heap:=h',toks:=t'}:=I.un (Un.write mu he k Mj) (I.hok.write mu he k Mj new)
theorem aJ.pins_of {JB:List (Z5×Obj)}(I:aJ X pins σ H s)(h:∀p∈JB,s.heap.get? p.1=some p.2/\H p.1=none/\p.1≠X.env.locals/\p.1∉X.fs/\∀v,p.2.data≠.cell v):aJ X JB σ H s:=
 ⟨I.ok,I.os,I.bare,I.base,I.loc,I.cell,I.free,I.freeC,λp hp=>(aai.mp hp).elim (λz=>I.pin p (aat _ z)) (h p),I.hok,I.len⟩
theorem wy (hN:N.Nodup)(a:N[i]? = some x)(b:N[j]? = some x):i=j:=by
 obtain⟨h1,e1⟩:=Z0.mp a;obtain⟨h2,e2⟩:=Z0.mp b;exact (List.getElem_inj hN).mp (e1.trans e2.symm)
theorem tH {A:aaD}{u:ZO}{Q:Unit->Z8->Prop}(I:aJ X pins σ H s)(hN:X.N.Nodup)(hi:X.N[i]? = some x)(hx:FZ X.env.scope x)(r:bx v u)(h:∀s',aJ X pins (σ.set i (some v)) H s'->(∃a,abM a s.heap s'.heap/\(a=X.env.locals\/X.env.cells.lookup x=some a))->Q () s')(hf:X.fn x=true\/X.env.scope.names.lookup x=some .local:=by first|exact .inl rfl|exact .inr rfl|assumption):aac M A (storeName X.env x u) Q E s:=by
 obtain⟨m,hn,hl⟩:=id I.loc;have Rk:(X.env.scope.kind==.class||(X.env.scope.kind==.module&&X.env.locals != X.env.globals))=false:=by rw[I.ok.kind];rfl
 have WE:i<σ.length:=by rw[I.len];exact (Z0.mp hi).1
 have cne:=I.cne;have Bm:∀{a:Z5} {h':acj},(∃o,s.heap.get? a=some o/\H a=none)->abM a s.heap h'->kT X.prog X.w H h':=λ{a h'} ha hs b ob e=>by
  obtain⟨_,_,sE⟩:=ha;refine (I.hok b ob e).stay (λc w' hc q=>(hs.2 c ?_).trans q) (λ_ q=>q) λ_ _ q=>q;rintro rfl;rcases hc with rfl|hc
  ·rw[sE] at e;cases e
  ·rw[sE] at hc;cases hc
 rcases hx with hk|hk
 ·refine wpAny_storeName_local hk hn (λh' Ml hs=>?_) Rk;obtain⟨oL,_,_,LP,_⟩:=id hn;refine h _ ⟨I.ok,I.os,I.bare,⟨λb o e n hb hx=>?_,λb o e n hb hx=>?_,I.base.free,λb o e hx=>?_,I.base.tups,I.base.frzs,I.base.tbls⟩,⟨_,Ml,λj y v' e1 e2 e3=>?_⟩,λy c e=>?_,I.free,I.freeC,λp hp=>?_,Bm ⟨oL,LP,I.free⟩ hs,by simpa using I.len⟩ ⟨_,hs,.inl rfl⟩
  ·exact (hs.2 b (aaq (aaB (Z9 e) I.ok.above))).trans (I.base.keep b o e n hb hx)
  ·obtain⟨sl,e1⟩:=I.base.slot b o e n hb hx;exact⟨sl,(hs.2 b (aaq (aaB (Z9 e) I.ok.above))).trans e1⟩
  ·obtain⟨o',e1⟩:=I.base.there b o e hx;exact⟨o',(hs.2 b (aaq (aaB (Z9 e) I.ok.above))).trans e1⟩
  ·by_cases hj:j=i
   ·subst hj;rw[hi] at e1;cases e1;rw[ab7 WE] at e2;cases e2;exact⟨u,r,.inl ⟨hk,by simp⟩⟩
   ·rw[aav (Ne.symm hj)] at e2;obtain⟨u',r',q⟩:=hl j y v' e1 e2 e3;refine⟨u',r',?_⟩;rcases q with⟨k,e⟩|⟨k,c,e,z⟩
    ·refine .inl ⟨k,?_⟩;have:y≠x:=λe=>hj (wy hN e1 (e▸hi));simp[this,e]
    ·exact .inr ⟨k,c,e,z.sameBut hs (cne y c e)⟩
  ·obtain⟨w',z⟩:=I.cell y c e;exact⟨w',z.sameBut hs (cne y c e)⟩
  ·obtain⟨e,n,ne,nf,d⟩:=I.pin p hp;exact⟨(hs.2 p.1 ne).trans e,n,ne,nf,d⟩
 ·have Rl:X.fn x=true:=by
   rcases hf with z|z
   ·exact z
   ·rw[z] at hk;cases hk
  obtain⟨c,hc⟩:=I.ok.has x (.inl hk);obtain⟨w',z⟩:=I.cell x c hc;refine wpAny_storeName_cell I.ok.kind hk hc z (λh' WG hs=>?_);obtain⟨oc,hoc,hocd⟩:=id z;refine h {s with heap:=h'} ⟨I.ok,I.os,I.bare,⟨λb o e n hb hx=>?_,λb o e n hb hx=>?_,I.base.free,λb o e hx=>?_,I.base.tups,I.base.frzs,I.base.tbls⟩,⟨m,hn.sameBut hs (Ne.symm (cne x c hc)),λj y v' e1 e2 e3=>?_⟩,λy c' e=>?_,I.free,I.freeC,λp hp=>?_,Bm ⟨oc,hoc,I.freeC x c hc⟩ hs,by simpa using I.len⟩ ⟨c,hs,.inr hc⟩
  ·exact (hs.2 b (aaq (aaB (Z9 e) (I.ok.cab x c Rl hc)))).trans (I.base.keep b o e n hb hx)
  ·obtain⟨sl,e1⟩:=I.base.slot b o e n hb hx;exact⟨sl,(hs.2 b (aaq (aaB (Z9 e) (I.ok.cab x c Rl hc)))).trans e1⟩
  ·obtain⟨o',e1⟩:=I.base.there b o e hx;exact⟨o',(hs.2 b (aaq (aaB (Z9 e) (I.ok.cab x c Rl hc)))).trans e1⟩
  ·by_cases hj:j=i
   ·subst hj;rw[hi] at e1;cases e1;rw[ab7 WE] at e2;cases e2;exact⟨u,r,.inr ⟨.inl hk,c,hc,WG⟩⟩
   ·rw[aav (Ne.symm hj)] at e2;obtain⟨u',r',q⟩:=hl j y v' e1 e2 e3;refine⟨u',r',?_⟩;rcases q with q|⟨k,c',e,z'⟩
    ·exact .inl q
    ·refine .inr ⟨k,c',e,z'.sameBut hs ?_⟩;rintro rfl;exact hj (wy hN e1 (I.ok.inj _ _ _ e hc▸hi))
  ·by_cases hcc:c'=c
   ·subst hcc;exact⟨_,WG⟩
   ·obtain⟨w2,z2⟩:=I.cell y c' e;exact⟨w2,z2.sameBut hs hcc⟩
  ·obtain⟨e,n,ne,nf,d⟩:=I.pin p hp;refine⟨(hs.2 p.1 ?_).trans e,n,ne,nf,d⟩;intro q;rw[q,hoc] at e;have q':oc=p.2:=aaj e;exact d w' (by rw[←q'];exact hocd)
theorem ma {A:aaD}{u:ZO}{Q:Unit->Z8->Prop}(I:aJ X pins σ H s)(hN:X.N.Nodup)(hi:X.N[i]? = some x)(hx:FZ X.env.scope x)(r:bx v u)(h:∀s',aJ X pins (σ.set i (some v)) H s'->Q () s')(hf:X.fn x=true\/X.env.scope.names.lookup x=some .local:=by first|exact .inl rfl|exact .inr rfl|assumption):aac M A (storeName X.env x u) Q E s:=
 tH I hN hi hx r (λs' I' _=>h s' I') hf
theorem aJ.call' {s':Z8}(I:aJ X pins σ H s)(ho:s'.os=s.os)(u:Un (zW X.stack) ch H H' s.heap s'.heap)(hok:kT X.prog X.w H' s'.heap)(hg:AllBare s'.gens)(F2:∀b∈ch,(b∈X.ex\/X.s₀.heap.objs.size<=b)/\b≠X.env.locals/\(∀x c,X.env.cells.lookup x=some c->c≠b)/\∀p∈X.pn++pins,p.1≠b):aJ X pins σ H' s':=by
 obtain⟨h',g',d',t',o'⟩:=s';have e:o'=s.os:=ho;subst e;exact I.call (g':=g') (t':=t') (d':=d') u hok hg F2
end
abbrev XK:=ZO->Option Z5->Hp->Prop
noncomputable abbrev St:=List (Option V)
abbrev VK:=V->Hp->Prop
abbrev TE:=St->Hp->VK->Prop
abbrev TT:=St->Hp->(Bool->Hp->Prop)->Prop
abbrev TA:=St->Hp->(List V->Hp->Prop)->Prop
structure lF where
 nx:St->Hp->Prop
 rt:VK
 bk:St->Hp->Prop:=λ_ _=>False
 ct:St->Hp->Prop:=λ_ _=>False
abbrev TS:=lF->St->Hp->Prop
def EP (X:Cx)(pins:List (Z5×Obj))(σ:St)(Q:VK)(u:ZO)(s':Z8):Prop:=∃v H',aJ X pins σ H' s'/\bx v u/\Q v H'
def TP (X:Cx)(pins:List (Z5×Obj))(σ:St)(Q:Bool->Hp->Prop)(b:Bool)(s':Z8):Prop:=∃H',aJ X pins σ H' s'/\Q b H'
def AP (X:Cx)(pins:List (Z5×Obj))(σ:St)(Q:List V->Hp->Prop)(us:List ZO)(s':Z8):Prop:=∃vs H',aJ X pins σ H' s'/\bh vs us/\Q vs H'
def SP (X:Cx)(pins:List (Z5×Obj))(D:lF)(f:Flow)(s':Z8):Prop:=
 match f with
 | .next=>∃σ' H',aJ X pins σ' H' s'/\D.nx σ' H'
 | .brk=>∃σ' H',aJ X pins σ' H' s'/\D.bk σ' H'
 | .cont=>∃σ' H',aJ X pins σ' H' s'/\D.ct σ' H'
 | .ret u=>∃v σ' H',aJ X pins σ' H' s'/\bx v u/\D.rt v H'
def PE (X:Cx)(e:abE)(t:TE):Prop:=
 ∀(pins:List (Z5×Obj)) (s:Z8) (σ:St) (H:Hp) (Q:VK),aJ X pins σ H s->t σ H Q->aac (aar X.prog X.w) X.A (ade e X.env) (EP X pins σ Q) X.xe s
def PT (X:Cx)(e:abE)(t:TT):Prop:=
 ∀(pins:List (Z5×Obj)) (s:Z8) (σ:St) (H:Hp) (Q:Bool->Hp->Prop),aJ X pins σ H s->t σ H Q->aac (aar X.prog X.w) X.A (isTrue e X.env (ade e X.env)) (TP X pins σ Q) X.xe s
def PW (X:Cx)(e:abE)(t:TT):Prop:=
 ∀(whole:Sem ZO) (pins:List (Z5×Obj)) (s:Z8) (σ:St) (H:Hp) (Q:Bool->Hp->Prop),aJ X pins σ H s->t σ H Q->aac (aar X.prog X.w) X.A (isTrue e X.env whole) (TP X pins σ Q) X.xe s
theorem PW.pt {X:Cx}{e:abE}{t:TT}(h:PW X e t):PT X e t:=h _
def PA (X:Cx)(es:List abE)(t:TA):Prop:=
 ∀(pos:Pos) (pins:List (Z5×Obj)) (s:Z8) (σ:St) (H:Hp) (Q:List V->Hp->Prop),aJ X pins σ H s->t σ H Q->aac (aar X.prog X.w) X.A (spliced (acq pos (aaf es X.env))) (AP X pins σ Q) X.xe s
def PS (X:Cx)(st:ad9)(t:TS):Prop:=
 ∀(pins:List (Z5×Obj)) (s:Z8) (σ:St) (H:Hp) (D:lF),aJ X pins σ H s->t D σ H->aac (aar X.prog X.w) X.A (exec st X.env) (SP X pins D) X.xe s
def sJ (X:Cx)(st:List ad9)(t:TS):Prop:=
 ∀(pins:List (Z5×Obj)) (s:Z8) (σ:St) (H:Hp) (D:lF),aJ X pins σ H s->t D σ H->aac (aar X.prog X.w) X.A (execs st X.env) (SP X pins D) X.xe s
theorem eG {α:Type}{t:Sem α}{Q Q':α->Z8->Prop}{A:aaD}(h:aac M A t Q E s)(hQ:∀a s,Q a s->Q' a s):aac M A t Q' E s:=aa6 h hQ λ_ _ x=>x
end L2
variable {X:L2.Cx}{σ:L2.St}{te:L2.TE}
namespace L2
section
theorem Zv {a b:abE}{ta tb:TE}(ha:PE X a ta)(hb:PE X b tb){R:V->V->Hp->Prop}(I:aJ X pins σ H s)(h:ta σ H λx H1=>tb σ H1 λy H2=>R x y H2){α:Type}{Q:α->Z8->Prop}{f:ZO->ZO->Sem α}(hf:∀v u s2 x y H2,aJ X pins σ H2 s2->bx x v->bx y u->R x y H2->aac (aar X.prog X.w) X.A (f v u) Q X.xe s2) :
  aac (aar X.prog X.w) X.A (ade a X.env) (λv s₁=>aac (aar X.prog X.w) X.A (ade b X.env) (λu s₂=>aac (aar X.prog X.w) X.A (f v u) Q X.xe s₂) X.xe s₁) X.xe s:=by
 refine eG (ha pins s σ H _ I h) λv s1 ⟨x,H1,I1,r1,q1⟩=>?_;refine eG (hb pins s1 σ H1 _ I1 q1) λu s2 ⟨y,H2,I2,r2,q2⟩=>?_;exact hf v u s2 x y H2 I2 r1 r2 q2
def JW (i:Nat):TE:=λσ H Q=>∃v,σ[i]? = some (some v)/\Q v H
def tC (v:V):TE:=λ_ H Q=>Q v H
theorem lG (hN:X.N[i]? = some x)(hv:F9 X.env.scope x)(hd:(x==("__debug__":Str))=false:=by decide)(sv:(x==("__classdict__":Str))=false:=by decide):PE X (.Name x pos) (JW i):=by
 intro pins s σ H Q I h;obtain⟨v,e,h⟩:=h;obtain⟨m,hn,hl⟩:=I.loc;obtain⟨u,r,l⟩:=hl i x v hN e hv;have fin:EP X pins σ Q u s:=⟨v,H,I,r,h⟩;rcases l with⟨hk,hm⟩|⟨hk,c,hc,uL⟩
 ·exact wpAny_Name (wpAny_loadName_local I.ok.kind hk hn hm fin) hd
 ·rcases hk with hk|hk
  ·exact wpAny_Name (wpAny_loadName_cell I.ok.kind hk hc uL fin) hd
  ·exact wpAny_Name (wpAny_loadName_free I.ok.kind hk hc uL fin sv) hd
theorem JX {i j pos}:PE X (.Constant (.int i) j pos) (tC (.int i)):=λ_ _ _ H _ I h=>wpAny_Constant_int ⟨.int i,H,I.tok _,⟨_,rfl⟩,h⟩
theorem Mp {b j pos}:PE X (.Constant (.bool b) j pos) (tC (.bl b)):=λ_ _ _ H _ I h=>Constant_bool ⟨.bl b,H,I,rfl,h⟩
theorem JY {j pos}:PE X (.Constant .none j pos) (tC .non):=λ_ _ _ H _ I h=>Constant_none ⟨.non,H,I,rfl,h⟩
theorem JZ {x j pos}:PE X (.Constant (.str x) j pos) (tC (.str x)):=λ_ _ _ H _ I h=>Calls.Constant_str ⟨.str x,H,I.tok _,⟨_,rfl⟩,h⟩
def Gl (X:Cx)(x:Str):Prop:=X.env.kindOf x=some .globalImplicit
theorem zX {u:ZO}(I:aJ X pins σ H s)(hg:Gl X x)(hm:X.mg x=some u)(h:Q u s)(hd:(x==("__debug__":Str))=false:=by decide):aac (aar X.prog X.w) X.A (ade (.Name x pos) X.env) Q E s:=
 aeA I.ok.kind hg (Calls.loadGlobal_global (by rw[I.ok.glob];exact I.mod.glob.keeps I.bk) hm h) hd
theorem uQ {u:ZO}(I:aJ X pins σ H s)(hg:Gl X x)(hm:X.mg x=none)(hv:aaY x=some u)(h:Q u s)(hn:x≠"__name__":=by decide)(hd:(x==("__debug__":Str))=false:=by decide):aac (aar X.prog X.w) X.A (ade (.Name x pos) X.env) Q E s:=by
 obtain⟨mb,h1,h2⟩:=I.mod.blt;exact aeA I.ok.kind hg (Calls.loadGlobal_builtin (by rw[I.ok.glob];exact I.mod.glob.keeps I.bk) hm (by rw[I.ok.blt];exact h1.keeps I.bk) ((h2 x hn).trans hv) h) hd
theorem F_ {u:ZO}(hg:Gl X x)(hm:X.mg x=some u)(r:bx v u)(hd:(x==("__debug__":Str))=false:=by decide):PE X (.Name x pos) (tC v):=
 λ_ _ _ H _ I h=>zX I hg hm ⟨v,H,I,r,h⟩ hd
variable {a b:abE}{ta tb:TE}
def PC (X:Cx)(op:CmpOp)(a b:abE)(t:TE):Prop:=
 ∀(pins:List (Z5×Obj)) (s:Z8) (σ:St) (H:Hp) (Q:VK),aJ X pins σ H s->t σ H Q->
  aac (aar X.prog X.w) X.A (ade a X.env) (λv s₁=>aac (aar X.prog X.w) X.A (ade b X.env) (λu s₂=>aac (aar X.prog X.w) X.A (abu op v u) (EP X pins σ Q) X.xe s₂) X.xe s₁) X.xe s
def tB (t:TE):TT:=λσ H Q=>t σ H λx H1=>∃c,x=.bl c/\Q c H1
theorem P7 {t:TE}(h:PC X op a b t)(h1:ac2 op b=false:=by first|exact nobehind _ (by decide) (by decide)|rfl):PT X (.Compare a [op] [b] pos) (tB t):=by
 intro pins s σ H Q I hw;refine wpAny_isTrue_Compare1 (eG (h pins s σ H _ I hw) λv s1 h1=>eG h1 λu s2 h2=>eG h2 λc s3 ⟨x,H1,I1,r1,q1⟩=>?_) h1;obtain⟨d,rfl,q⟩:=q1;cases r1;exact acu ⟨H1,I1,q⟩
theorem J0 {e:abE}{t:TE}(h:PE X e t)(he:∀whole,isTrue e X.env whole=(do let v ←whole;standAt e.pos;holding [v] (truthy v)):=by intro _;rfl):PT X e (tB t):=by
 intro pins s σ H Q I hw;refine isTrue_plain (eG (h pins s σ H _ I hw) λv s1 ⟨x,H1,I1,r1,q1⟩=>?_) (he _);obtain⟨d,rfl,q⟩:=q1;cases r1;exact acu ⟨H1,I1,q⟩
variable {tA tB':TT}{rest:List abE}
def Mq (t u:TT):TT:=λσ H Q=>t σ H λc H1=>if c=true then u σ H1 Q else Q false H1
def Wb (t u:TT):TT:=λσ H Q=>t σ H λc H1=>if c=true then Q true H1 else u σ H1 Q
def P8 (t:TT):TT:=λσ H Q=>t σ H λc H1=>Q (!c) H1
theorem Ga (ha:PT X a tA):PW X (.BoolOp .And [a] pos) tA:=by
 intro wh pins s σ H Q I h;refine isTrue_and (eG (ha pins s σ H Q I h) λc s1 e=>?_);cases c with
 |true=>exact isTrue_and_nil e
 |false=>exact e
theorem J1 (ha:PT X a tA):PW X (.BoolOp .Or [a] pos) tA:=by
 intro wh pins s σ H Q I h;refine isTrue_or (eG (ha pins s σ H Q I h) λc s1 e=>?_);cases c with
 |false=>exact isTrue_or_nil e
 |true=>exact e
theorem J2 (ha:PT X a tA)(hb:PW X (.BoolOp .And (b::rest) pos) tB'):PW X (.BoolOp .And (a::b::rest) pos) (Mq tA tB'):=by
 intro wh pins s σ H Q I h;refine isTrue_and (eG (ha pins s σ H _ I h) λc s1 ⟨H1,I1,q1⟩=>?_);cases c with
 |true=>exact hb wh pins s1 σ H1 Q I1 q1
 |false=>exact⟨H1,I1,q1⟩
theorem Mr (ha:PT X a tA)(hb:PW X (.BoolOp .Or (b::rest) pos) tB'):PW X (.BoolOp .Or (a::b::rest) pos) (Wb tA tB'):=by
 intro wh pins s σ H Q I h;refine isTrue_or (eG (ha pins s σ H _ I h) λc s1 ⟨H1,I1,q1⟩=>?_);cases c with
 |true=>exact⟨H1,I1,q1⟩
 |false=>exact hb wh pins s1 σ H1 Q I1 q1
theorem J3 (ha:PT X a tA):PT X (.UnaryOp .Not a pos) (P8 tA):=by
 intro pins s σ H Q I h;exact isTrue_not (ha pins s σ H (λc H1=>Q (!c) H1) I h)
def Xh (t:TT)(ta tb:TE):TE:=λσ H Q=>t σ H λc H1=>if c=true then ta σ H1 Q else tb σ H1 Q
theorem CM (hc:PT X c tA)(ha:PE X a ta)(hb:PE X b tb):PE X (.IfExp c a b pos) (Xh tA ta tb):=by
 intro pins s σ H Q I h;refine wpAny_IfExp (eG (hc pins s σ H _ I h) λd s1 ⟨H1,I1,q1⟩=>?_);cases d with
 |true=>exact ha pins s1 σ H1 Q I1 q1
 |false=>exact hb pins s1 σ H1 Q I1 q1
end
end L2
namespace L2
def fS (K:ZQ)(H:Hp)(a:Z5)(xs:List V):Prop:=
 Rd H a (.lst xs) \/
  ∃(o:Obj) (its:Array ZO) (n:Nat),K.lookup a=some o/\o.cls=.type "list"/\o.dict=none/\o.data=.seq its n/\its.size<=ZY/\bh xs its.toList
def gz (K:ZQ)(H:Hp)(a:Z5)(xs:List V):Prop:=
 Rd H a (.tup xs) \/
  ∃(o:Obj) (its:Array ZO) (n:Nat),K.lookup a=some o/\o.cls=.type "tuple"/\o.data=.seq its n/\its.size<=ZY/\bh xs its.toList
noncomputable def P9:ZO->Option V
 | .none=>some .non
 | .bool b=>some (.bl b)
 | .int i _=>some (.int i)
 | .str x _=>some (.str x)
 | .bytes b _=>some (.byt b)
 | .float b _=>some (.flt b)
 | .ref a=>some (.ref a)
 | .type n=>some (.ty n)
 |_=>none
theorem bx.abs {x:V}{u:ZO}(r:bx x u):P9 u=some x:=by
 cases x with
 |non=>cases r;rfl
 |bl _=>cases r;rfl
 |int _=>obtain⟨t,rfl⟩:=r;rfl
 |str _=>obtain⟨t,rfl⟩:=r;rfl
 |byt _=>obtain⟨t,rfl⟩:=r;rfl
 |flt _=>obtain⟨t,rfl⟩:=r;rfl
 |ref _=>cases r;rfl
 |ty _=>cases r;rfl
theorem bx.inj {x:V}{u:ZO}(r:bx x u)(q:bx y u):x=y:=aaj (r.abs.symm.trans q.abs)
theorem bh.inj:∀{xs ys:List V} {us:List ZO},bh xs us->bh ys us->xs=ys
 |_,_,_,.nil,.nil=>rfl
 |_,_,_,.cons r t,.cons r' t'=>by rw[r.inj r',bh.inj t t']
section
variable {ys:List V}
theorem fS.of (h:H a=some (.lst xs)):fS K H a xs:=.inl (.inl h)
theorem gz.of (h:H a=some (.tup xs)):gz K H a xs:=.inl (.inl h)
theorem aJ.list (I:aJ X pins σ H s)(h:fS X.K H a xs):∃its:List ZO,bh xs its/\PlainL s.heap a its.toArray/\xs.length<=ZY:=by
 rcases h with h|⟨o,its,n,hk,hc,hd,hs,hz,r⟩
 ·obtain⟨z,its,n,r,e⟩:=h.ok I.hok;exact⟨its,r,⟨_,n,e,rfl,rfl,rfl⟩,z⟩
 ·refine⟨its.toList,r,⟨o,n,I.kIn a o hk,hc,hd,by simpa using hs⟩,?_⟩;have e:=r.length;simp only[ZR] at e;lia
theorem aJ.tuple (I:aJ X pins σ H s)(h:gz X.K H a xs):∃its:List ZO,bh xs its/\IsTup s.heap a its.toArray/\xs.length<=ZY:=by
 rcases h with h|⟨o,its,n,hk,hc,hs,hz,r⟩
 ·obtain⟨z,its,r,p,_⟩:=h.ok I.hok;exact⟨its,r,p,z⟩
 ·refine⟨its.toList,r,⟨o,I.kIn a o hk,hc,n,by simpa using hs⟩,?_⟩;have e:=r.length;simp only[ZR] at e;lia
theorem aJ.list_inj (I:aJ X pins σ H s)(h:fS X.K H a xs)(h':fS X.K H a ys):xs=ys:=by
 obtain⟨its,r,⟨o,n,e,_,_,d⟩,_⟩:=I.list h;obtain⟨its',r',⟨o',n',e',_,_,d'⟩,_⟩:=I.list h';rw[e] at e';cases e';rw[d] at d';injection d' with d1 _
 have:its=its':=by simpa using congrArg Array.toList d1
 subst this;exact r.inj r'
theorem aJ.tuple_inj (I:aJ X pins σ H s)(h:gz X.K H a xs)(h':gz X.K H a ys):xs=ys:=by
 obtain⟨its,r,⟨o,e,_,n,d⟩,_⟩:=I.tuple h;obtain⟨its',r',⟨o',e',_,n',d'⟩,_⟩:=I.tuple h';rw[e] at e';cases e';rw[d] at d';injection d' with d1 _
 have:its=its':=by simpa using congrArg Array.toList d1
 subst this;exact r.inj r'
end
noncomputable abbrev Cx.wish (X:Cx)(E:ZO->Z8->Prop):Cx:={X with xe:=E}
noncomputable abbrev Cx.nox (X:Cx):Cx:=X.wish λ_ _=>False
theorem Cx.Ok.wish (ok:X.Ok)(E:ZO->Z8->Prop):(X.wish E).Ok:=
 ⟨ok.mod,ok.kind,ok.glob,ok.blt,ok.above,ok.inj,ok.has,ok.cab,ok.hd,ok.frames,ok.stk,ok.exf,ok.bs,ok.bsz,ok.noex,ok.exfs,ok.funs,ok.frf⟩
theorem Cx.Ok.unwish (ok:(X.wish E).Ok):X.Ok:=
 ⟨ok.mod,ok.kind,ok.glob,ok.blt,ok.above,ok.inj,ok.has,ok.cab,ok.hd,ok.frames,ok.stk,ok.exf,ok.bs,ok.bsz,ok.noex,ok.exfs,ok.funs,ok.frf⟩
theorem aJ.wish (I:aJ X pins σ H s)(E:ZO->Z8->Prop):aJ (X.wish E) pins σ H s:=⟨I.ok.wish E,I.os,I.bare,I.base,I.loc,I.cell,I.free,I.freeC,I.pin,I.hok,I.len⟩
theorem aJ.unwish (I:aJ (X.wish E) pins σ H s):aJ X pins σ H s:=⟨I.ok.unwish,I.os,I.bare,I.base,I.loc,I.cell,I.free,I.freeC,I.pin,I.hok,I.len⟩
theorem SP.unwish {D:lF}{f:Flow}{s':Z8}(h:SP (X.wish E) pins D f s'):SP X pins D f s':=by
 cases f with
 |next=>obtain⟨σ',H',I,q⟩:=h;exact⟨σ',H',I.unwish,q⟩
 |brk=>obtain⟨σ',H',I,q⟩:=h;exact⟨σ',H',I.unwish,q⟩
 |cont=>obtain⟨σ',H',I,q⟩:=h;exact⟨σ',H',I.unwish,q⟩
 |ret u=>obtain⟨v,σ',H',I,r,q⟩:=h;exact⟨v,σ',H',I.unwish,r,q⟩
theorem sJ.nox {st:List ad9}{t:TS}(h:sJ X.nox st t):sJ X st t:=λpins s σ H D I hw=>
 aa6 (h pins s σ H D (I.wish _) hw) (λ_ _ q=>q.unwish) λ_ _ z=>ac3 z
section
variable {rest:List ad9}{t u:TS}{e:abE}
def Ms:TS:=λD σ H=>D.nx σ H
def P_ (t u:TS):TS:=λD σ H=>t {D with nx:=u D} σ H
theorem zY:sJ X [] Ms:=λ_ _ σ H _ I h=>aeq ⟨σ,H,I,h⟩
theorem CN (h1:PS X st t)(h2:sJ X rest u):sJ X (st::rest) (P_ t u):=by
 intro pins s σ H D I h;refine wpAny_execs_cons (eG (h1 pins s σ H {D with nx:=u D} I h) λf s1 q=>?_);cases f with
 |next=>
  obtain⟨σ',H',I',q⟩:=q;exact h2 pins s1 σ' H' D I' q
 |ret v=>exact q
 |brk=>exact q
 |cont=>exact q
theorem zZ (h1:PS X st t):sJ X [st] t:=by
 intro pins s σ H D I h;refine wpAny_execs_cons (eG (h1 pins s σ H D I h) λf s1 q=>?_);cases f with
 |next=>exact aeq q
 |ret v=>exact q
 |brk=>exact q
 |cont=>exact q
theorem aJ.quiet (I:aJ X pins σ H s):interactive X.env=false:=by simp[interactive,I.ok.kind]
def Mt (te:TE):TS:=λD σ H=>te σ H λ_ H1=>D.nx σ H1
theorem z9 (he:PE X e te)(hs:ad_ e none pos.line X.env=pure false:=by rfl):PS X (.Expr e pos) (Mt te):=by
 intro pins s σ H D I h;exact wpAny_Expr_any (eG (he pins s σ H _ I h) λv s1 ⟨x,H1,I1,r1,q1⟩=>⟨σ,H1,I1,q1⟩) I.quiet hs
def Qa (te:TE):TS:=λD σ H=>te σ H D.rt
theorem yq (he:PE X e te):PS X (.Return (some e) pos) (Qa te):=by
 intro pins s σ H D I h;exact wpAny_Return_some (eG (he pins s σ H _ I h) λv s1 ⟨x,H1,I1,r1,q1⟩=>⟨x,σ,H1,I1,r1,q1⟩)
def Qb (c:TT)(t u:TS):TS:=λD σ H=>c σ H λb H1=>if b=true then t D σ H1 else u D σ H1
theorem HX {a b:List ad9}{tc:TT}(hc:PT X c tc)(ha:sJ X a t)(hb:sJ X b u):PS X (.If c a b pos) (Qb tc t u):=by
 intro pins s σ H D I h;refine wpAny_If (eG (hc pins s σ H _ I h) λd s1 ⟨H1,I1,q1⟩=>?_);cases d with
 |true=>exact ha pins s1 σ H1 D I1 q1
 |false=>exact hb pins s1 σ H1 D I1 q1
end
abbrev TG:=V->St->Hp->(St->Hp->Prop)->Prop
abbrev Gb:=List V->St->Hp->(St->Hp->Prop)->Prop
def PG (X:Cx)(nX:abE)(t:TG):Prop:=
 ∀(pins:List (Z5×Obj)) (s:Z8) (σ:St) (H:Hp) (v:V) (u:ZO) (Q:St->Hp->Prop),aJ X pins σ H s->bx v u->t v σ H Q->
  aac (aar X.prog X.w) X.A (assign nX X.env u) (λ_ s'=>∃σ' H',aJ X pins σ' H' s'/\Q σ' H') X.xe s
def HY (X:Cx)(ts:List abE)(t:Gb):Prop:=
 ∀(pins:List (Z5×Obj)) (s:Z8) (σ:St) (H:Hp) (vs:List V) (us:List ZO) (Q:St->Hp->Prop),aJ X pins σ H s->bh vs us->t vs σ H Q->
  aac (aar X.prog X.w) X.A (assignInOrder ((acv ts X.env).map (·.2)) us) (λ_ s'=>∃σ' H',aJ X pins σ' H' s'/\Q σ' H') X.xe s
abbrev J5:=V->V->V->Hp->(Hp->Prop)->Prop
def Mv (X:Cx)(t:J5):Prop:=
 ∀(pins:List (Z5×Obj)) (s:Z8) (σ:St) (H:Hp) (o i v:V) (ov iv u:ZO) (Q:Hp->Prop),aJ X pins σ H s->bx o ov->bx i iv->bx v u->t o i v H Q->
  aac (aar X.prog X.w) X.A (setItem ov iv u) (λ_ s'=>∃H',aJ X pins σ H' s'/\Q H') X.xe s
def wz (i:Nat):TG:=λv σ H Q=>Q (σ.set i (some v)) H
theorem Gd (hN:X.N.Nodup)(hi:X.N[i]? = some x)(hx:FZ X.env.scope x)(hf:X.fn x=true\/X.env.scope.names.lookup x=some .local:=by first|exact .inl rfl|exact .inr rfl|assumption):PG X (.Name x pos) (wz i):=by
 intro pins s σ H v u Q I r h;exact wpAny_assign_Name (ma I hN hi hx r (λs' I'=>⟨_,H,I',h⟩) hf)
def Qc:Gb:=λvs σ H Q=>vs=[]/\Q σ H
def Mw (t:TG)(u:Gb):Gb:=λvs σ H Q=>∃v r,vs=v::r/\t v σ H λσ' H'=>u r σ' H' Q
theorem Ge:HY X [] Qc:=by
 intro pins s σ H vs us Q I r h;obtain⟨e,h⟩:=h;subst e;cases r;exact assignInOrder_nil ⟨σ,H,I,h⟩
theorem CO {e:abE}{es:List abE}{t:TG}{u:Gb}(h1:PG X e t)(h2:HY X es u)
  (hs:(acv (e::es) X.env).map (·.2)=assign e X.env::(acv es X.env).map (·.2):=by rfl):HY X (e::es) (Mw t u):=by
 intro pins s σ H vs us Q I r h;obtain⟨v,vr,e1,h⟩:=h;subst e1;cases r with
 |cons r rr=>
  rw[hs];refine aeG (eG (h1 pins s σ H _ _ _ I r h) λ_ s1 ⟨σ1,H1,I1,q1⟩=>?_);exact h2 pins s1 σ1 H1 _ _ Q I1 rr q1
def Qd (K:ZQ)(n:Nat)(t:Gb):TG:=λv σ H Q=>∃a xs,v=.ref a/\gz K H a xs/\xs.length=n/\t xs σ H Q
theorem J6 {es:List abE}{t:Gb}(hc:X.calm=true)(h:HY X es t)(hn:(acv es X.env).length=n:=by rfl)(i4:(acv es X.env).findIdx? (·.1)=none:=by rfl):PG X (.Tuple es k pos) (Qd X.K n t):=by
 intro pins s σ H v u Q I r hw;obtain⟨a,xs,e1,hq,hl,hw⟩:=hw;subst e1;cases r;obtain⟨its,rv,ht,hz⟩:=I.tuple hq;refine assign_Tuple_tuple (I.ok.hd hc) ht (by simp[hn,←hl,rv.length]) i4 λh' hx=>?_;have I1:aJ X pins σ H {s with heap:=h'}:=I.kept (t':=s.toks) λb o e=>hx b o (aaq (Z9 e)) e;exact h pins _ σ H xs _ Q I1 (by simpa using rv) hw
def Qe (to ti:TE)(t:J5):TG:=λv σ H Q=>to σ H λo H1=>ti σ H1 λi H2=>t o i v H2 λH3=>Q σ H3
theorem J7 {o i:abE}{to ti:TE}{t:J5}(ho:PE X o to)(hi:PE X i ti)(hs:Mv X t)
  (ha:∀v,assign (.Subscript o i pos) X.env v=(do
   let ov ←holding [v] (ade o X.env)
   let iv ←holding [v,ov] (ade i X.env)
   standAt pos
   holding [v,ov,iv] (setItem ov iv v)
   release [v,ov,iv] []):=by intro _;rfl):PG X (.Subscript o i pos) (Qe to ti t):=by
 intro pins s σ H v u Q I r h;rw[ha];refine ZL (abi (eG (ho pins s σ H _ I h) λov s1 ⟨x,H1,I1,r1,q1⟩=>?_));refine ZL (abi (eG (hi pins s1 σ H1 _ I1 q1) λiv s2 ⟨y,H2,I2,r2,q2⟩=>?_));refine ZL (wpAny_standAt (ZL (abi (eG (hs pins s2 σ H2 x y v ov iv u _ I2 r1 r2 r q2) λ_ s3 ⟨H3,I3,q3⟩=>?_))));exact wpAny_release ⟨σ,H3,I3,q3⟩
def CP (te:TE)(g:TG):TS:=λD σ H=>te σ H λx H1=>g x σ H1 D.nx
theorem CQ {e:abE}{g:TG}(he:PE X e te)(hg:PG X tg g)(hs:aei [tg] e pos.line X.env=pure false:=by rfl)(hw:aej [tg] e X.env=pure none:=by rfl)(h1:(acv [tg] X.env).map (·.2)=[assign tg X.env]:=by rfl):PS X (.Assign [tg] e pos) (CP te g):=by
 intro pins s σ H D I h;refine wpAny_Assign_stores (eG (he pins s σ H _ I h) λv s1 ⟨x,H1,I1,r1,q1⟩=>?_) hs hw;rw[h1];exact eG (hg pins s1 σ H1 x v _ I1 r1 q1) λ_ s2 q=>q
theorem CS {e:abE}{lh:Pos}(hN:X.N.Nodup)(hi:X.N[i]? = some x)(hx:FZ X.env.scope x)(he:PE X e te)(hs:ad_ e (some (.Name x lh)) pos.line X.env=pure false:=by rfl)(hf:X.fn x=true\/X.env.scope.names.lookup x=some .local:=by first|exact .inl rfl|exact .inr rfl|assumption) :
  PS X (.Assign [.Name x lh] e pos) (CP te (wz i)):=by
 intro pins s σ H D I h;refine wpAny_Assign_Name (eG (he pins s σ H _ I h) λv s1 ⟨y,H1,I1,r1,q1⟩=>?_) hs;exact ma I1 hN hi hx r1 (λs2 I2=>⟨_,H1,I2,q1⟩) hf
def Qf (i j:Nat)(ta:TA):TS:=λD σ H=>ta σ H λvs H1=>∃v w,vs=[v,w]/\D.nx ((σ.set i (some v)).set j (some w)) H1
theorem J8 {y:Str}{a b:abE}{ta:TA}{px py pt:Pos}{kt k2 pt2}(hc:X.calm=true)(hN:X.N.Nodup)(hi:X.N[i]? = some x)(hj:X.N[j]? = some y)(tE:i≠j)(hx:X.env.scope.names.lookup x=some .local)(hy:X.env.scope.names.lookup y=some .local)(ha:PA X [a,b] ta)(hw:aej [.Tuple [.Name x px,.Name y py] kt pt] (.Tuple [a,b] k2 pt2) X.env=pure (some [x,y]))(hs:aei [.Tuple [.Name x px,.Name y py] kt pt] (.Tuple [a,b] k2 pt2) pos.line X.env=pure false:=by rfl) :
  PS X (.Assign [.Tuple [.Name x px,.Name y py] kt pt] (.Tuple [a,b] k2 pt2) pos) (Qf i j ta):=by
 intro pins s σ H D I h;rw[exec_Assign_arm];refine ZL (wpAny_standAt ?_);rw[hs];refine ZL (ZN ?_);rw[hU (by decide)];refine ZL (Tuple_ (eG (ha _ pins s σ H _ I h) λus s1 ⟨vs,H1,I1,r1,q1⟩=>?_));obtain⟨v,w,e1,q1⟩:=q1;subst e1;obtain⟨u1,u2,rfl,rv,zS⟩:∃u1 u2,us=[u1,u2]/\bx v u1/\bx w u2:=by
  cases r1 with
  |cons p q=>
   cases q with
   |cons p' q'=>
    cases q';exact⟨_,_,rfl,p,p'⟩
 refine aaG ?_ (by show 2<=ZY;decide);have I2:aJ X pins σ H1 {s1 with heap:=s1.heap.push {cls:=.type "tuple",data:=.seq [u1,u2].toArray}}:=I1.kept (t':=s1.toks) λb o e=>ZP _ e;rw[hw];refine ZL (ZN ?_);show aac (aar X.prog X.w) X.A (do rule "assign.swapped-stores";let items ←unpackItems (.ref s1.heap.objs.size) 2 none;assignInOrder [λv=>bindName X.env y v,λv=>bindName X.env x v] items.reverse;pure Flow.next) _ _ _;refine ZL (ab0 (ZL (unpackItems_tuple (items:=#[u1,u2]) (I.ok.hd hc) (IsTup.new s1.heap _) λh' sG=>?_)));have I3:=I2.kept (h':=h') (t':=s1.toks) λb o e=>sG b o (aaq (Z9 e)) e;show aac _ _ (assignInOrder [λv=>bindName X.env y v,λv=>bindName X.env x v] [u2,u1] >>= λ_=>pure Flow.next) _ _ _;refine ZL (aeG (wpAny_bindName (ma I3 hN hj (.inl hy) zS (λs2 I4=>?_) (.inr hy))));refine aeG (wpAny_bindName (ma I4 hN hi (.inl hx) rv (λs3 I5=>assignInOrder_nil (ZN ?_)) (.inr hx)));rw[List.set_comm _ _ (Ne.symm tE)] at I5;exact⟨_,H1,I5,q1⟩
def J9 (c:TT)(tb:TS):TS:=λD σ H=>∃W:Nat->St->Hp->Prop,(∃m,W m σ H)/\∀m σ H,W m σ H->
 c σ H λb H1=>if b=true then ∃N:St->Hp->Prop,(∀σ' H',N σ' H'->∃m',m'<m/\W m' σ' H')/\tb {D with nx:=N,ct:=N,bk:=D.nx} σ H1 else D.nx σ H1
theorem CT {tc:TT}{tb:TS}(hp:afe (aar X.prog X.w) X.A X.env X.xe)(hc:PT X c tc)(hb:sJ X body tb):PS X (.While c body [] pos) (J9 tc tb):=by
 intro pins s σ H D I h;obtain⟨W,⟨m0,w0⟩,turn⟩:=h;refine wpAny_While (codeAny_whileLoop (λn s'=>∃σ' H',aJ X pins σ' H' s'/\W n σ' H') ?_ m0 ⟨σ,H,I,w0⟩);rintro n s1 ⟨σ1,H1,I1,w1⟩;refine acw hp (eG (hc pins s1 σ1 H1 _ I1 (turn n σ1 H1 w1)) λb s2 ⟨H2,I2,q2⟩=>?_);cases b with
 |true=>
  obtain⟨N,hN,q2⟩:=q2;rw[hV rfl];refine acw hp (eG (hb pins s2 σ1 H2 _ I2 q2) λf s3 q3=>?_);cases f with
  |next=>
   obtain⟨σ3,H3,I3,n3⟩:=q3;obtain⟨m',hm,w3⟩:=hN σ3 H3 n3;exact⟨m',hm,σ3,H3,I3,w3⟩
  |cont=>
   obtain⟨σ3,H3,I3,n3⟩:=q3;obtain⟨m',hm,w3⟩:=hN σ3 H3 n3;exact⟨m',hm,σ3,H3,I3,w3⟩
  |brk=>exact q3
  |ret v=>exact q3
 |false=>
  rw[hU ZV];exact aeq ⟨σ1,H2,I2,q2⟩
structure It where
 go:Nat->Hp->Prop
 yld:Nat->Hp->V->Hp->Prop
 stop:Nat->Hp->Prop
def oZ (X:Cx)(pins:List (Z5×Obj))(H:Hp)(b:Z5):Prop:=
 H b=none/\b≠X.env.locals/\b∉X.fs/\(b∈X.ex\/X.s₀.heap.objs.size<=b)/\(∀x c,X.env.cells.lookup x=some c->c≠b)/\∀p∈X.pn++pins,p.1≠b
theorem aJ.fpOk (I:aJ X pins σ H s)(hb:s.heap.objs.size<=b)(hn:H' b=none):oZ X pins H' b:=by
 refine⟨hn,acO (aaB I.lt hb),I.nofs hb,.inr (aaT I.sz hb),λx c e z=>?_,λp hp z=>?_⟩
 ·obtain⟨v,q⟩:=I.cell x c e;exact absurd (aaB q.lt (by rw[z];exact hb)) (abL _)
 ·exact absurd (aaB (Z9 (I.pin p hp).1) (by rw[z];exact hb)) (abL _)
structure Bw (P:ack)(w:acJ)(K:ZQ)(tg:abE)(J:It)(fp:List Z5)(it:Z5)(tn:Nat->acj->Prop):Prop where
 mem:it∈fp
 obj:∀i h,tn i h->∀b∈fp,∃o,h.get? b=some o/\∀v,o.data≠.cell v
 keep:∀i h h',tn i h->(∀b∈fp,∀o,h.get? b=some o->h'.get? b=some o)->tn i h'
 item:∀(X:Cx),X.prog=P->X.w=w->X.K=K->X.calm=true->∀(i:Nat) (pins:List (Z5×Obj)) (s:Z8) (σ:St) (H:Hp) (E:ZO->Z8->Prop),aJ X pins σ H s->(∀b∈fp,oZ X pins H b)->tn i s.heap->J.go i H->
  aac (aar P w) X.A (aef (.ref it)) (λr s1=>∃u,r=some u/\
   aac (aar P w) X.A (aer tg (.ref it) u) (λ_ s2=>∃x H',aJ X pins σ H' s2/\bx x u/\J.yld i H x H'/\tn (i+1) s2.heap/\∀b∈fp,H' b=none) E s1) E s
 done:∀(X:Cx),X.prog=P->X.w=w->X.K=K->X.calm=true->∀(i:Nat) (pins:List (Z5×Obj)) (s:Z8) (σ:St) (H:Hp) (E:ZO->Z8->Prop),aJ X pins σ H s->(∀b∈fp,oZ X pins H b)->tn i s.heap->J.stop i H->
  aac (aar P w) X.A (aef (.ref it)) (λr s1=>r=none/\aJ X pins σ H s1) E s
 self:∀(A:aaD) (i:Nat) (s:Z8) (Q:ZO->Z8->Prop) (E:ZO->Z8->Prop),tn i s.heap->Q (.ref it) s->aac (aar P w) A (pyIter (.ref it)) Q E s
abbrev TI:=St->Hp->(It->Hp->Prop)->Prop
def Wc (X:Cx)(pins:List (Z5×Obj))(σ:St)(tg:abE)(R:It->Hp->Prop)(PM:ZO)(s2:Z8):Prop:=
 ∃(it:Z5) (fp:List Z5) (tn:Nat->acj->Prop) (J:It) (H':Hp),PM=.ref it/\aJ X pins σ H' s2/\Bw X.prog X.w X.K tg J fp it tn/\tn 0 s2.heap/\(∀b∈fp,oZ X pins H' b)/\R J H'
def PI (X:Cx)(tg iter:abE)(wi:TI):Prop:=
 ∀(pins:List (Z5×Obj)) (s:Z8) (σ:St) (H:Hp) (R:It->Hp->Prop),aJ X pins σ H s->wi σ H R->
  aac (aar X.prog X.w) X.A (ade iter X.env) (λv s1=>aac (aar X.prog X.w) X.A (pyIter v) (Wc X pins σ tg R) X.xe s1) X.xe s
theorem CU {A:aaD}{u:ZO}{o:Obj}{n:String}{vs:Array ZO}{Q:Unit->Z8->Prop}(ho:s.heap.get? it=some o)(hc:o.cls=.type n)(hd:o.data=.fields vs)(hn:["enumerate","zip","dict_itemiterator","dict_reverseitemiterator","odict_iterator","itertools.zip_longest","itertools.pairwise"].contains n=false)(hQ:Q () s):aac M A (aer tg (.ref it) u) Q E s:=by
  unfold aer;cases tg<;>first
    |exact ZN hQ
    | (cases u<;>first
        |exact ZN hQ
        | (refine ZL (wpAny_load ho ?_)
           rw[hc,hd];show aac M A (if (["enumerate","zip","dict_itemiterator","dict_reverseitemiterator","odict_iterator","itertools.zip_longest","itertools.pairwise"].contains n&&vs[0]? == some (aeH _))=true then _ else _) Q E s;rw[hU (by intro h;rw[hn,Bool.false_and] at h;cases h)];exact ZN hQ))
noncomputable def Pf (K:ZQ)(a:Z5):It:=
 ⟨λi H=>∃xs x,fS K H a xs/\xs[i]? = some x,λi H x H'=>H'=H/\∀xs,fS K H a xs->xs[i]? = some x,λi H=>∃xs,fS K H a xs/\xs.length<=i⟩
noncomputable def Qg (K:ZQ)(a:Z5):It:=
 ⟨λi H=>∃xs x,gz K H a xs/\xs[i]? = some x,λi H x H'=>H'=H/\∀xs,gz K H a xs->xs[i]? = some x,λi H=>∃xs,gz K H a xs/\xs.length<=i⟩
noncomputable def Pg (lo:Int)(n:Nat):It:=⟨λi _=>i<n,λi H x H'=>H'=H/\x=.int (lo+i),λi _=>n<=i⟩
theorem Bx (a it:Z5):Bw P w K tg (Pf K a) [it] it (λi h=>h.IsListIter it a i) where
 mem:=by simp
 obj:=λi h st b hb=>by
  have e:b=it:=by simpa using hb
  subst e;obtain⟨o,e,c,d⟩:=st;exact⟨o,e,λv z=>by rw[d] at z;cases z⟩
 keep:=λi h h' st k=>st.at λo e=>k it (by simp) o e
 item:=by
  intro X hP hw hK hc i pins s σ H E I hf st hg;subst hP hw hK;obtain⟨xs,x,hq,hx⟩:=hg;obtain⟨its,rv,p,hz⟩:=I.list hq;obtain⟨u,hu,ru⟩:=rv.get hx;obtain⟨f0,f1,f2,f3,f4,f5⟩:=hf it (by simp);refine wpAny_pyNext_list_item st p.isList (x:=u) (by simpa using hu) λh' aN sb=>?_;have I1:aJ X pins σ H {s with heap:=h'}:=I.turned (t':=s.toks) (λb o hb e=>(sb.2 b hb).trans e) f0 f1 f3 f4 f5;obtain⟨o,e,c,d⟩:=id aN;exact⟨u,rfl,CU (s:={s with heap:=h'}) e c d (by decide) ⟨x,H,I1,ru,⟨rfl,λys hy=>by rw[I.list_inj hy hq];exact hx⟩,aN,λb hb=>(hf b hb).1⟩⟩
 done:=by
  intro X hP hw hK hc i pins s σ H E I hf st hg;subst hP hw hK;obtain⟨xs,hq,hx⟩:=hg;obtain⟨its,rv,p,hz⟩:=I.list hq;obtain⟨f0,f1,f2,f3,f4,f5⟩:=hf it (by simp);have hl:=rv.length;exact wpAny_pyNext_list_end (I.ok.hd hc) st p.isList (by simp;lia) λh' eb=>⟨rfl,I.turned (t':=s.toks) (λb o hb e=>eb b o hb e) f0 f1 f3 f4 f5⟩
 self:=λ_ _ _ _ _ st h=>wpAny_pyIter_listiter st h
theorem yr (a it:Z5):Bw P w K tg (Qg K a) [it] it (λi h=>h.IsTupleIter it a i) where
 mem:=by simp
 obj:=λi h st b hb=>by
  have e:b=it:=by simpa using hb
  subst e;obtain⟨o,e,c,d⟩:=st;exact⟨o,e,λv z=>by rw[d] at z;cases z⟩
 keep:=λi h h' st k=>st.at λo e=>k it (by simp) o e
 item:=by
  intro X hP hw hK hc i pins s σ H E I hf st hg;subst hP hw hK;obtain⟨xs,x,hq,hx⟩:=hg;obtain⟨its,rv,p,hz⟩:=I.tuple hq;obtain⟨u,hu,ru⟩:=rv.get hx;obtain⟨f0,f1,f2,f3,f4,f5⟩:=hf it (by simp);refine wpAny_pyNext_tuple_item st (show s.heap.IsTuple a its.toArray from p) (x:=u) (by simpa using hu) λh' aN sb=>?_;have I1:aJ X pins σ H {s with heap:=h'}:=I.turned (t':=s.toks) (λb o hb e=>(sb.2 b hb).trans e) f0 f1 f3 f4 f5;obtain⟨o,e,c,d⟩:=id aN;exact⟨u,rfl,CU (s:={s with heap:=h'}) e c d (by decide) ⟨x,H,I1,ru,⟨rfl,λys hy=>by rw[I.tuple_inj hy hq];exact hx⟩,aN,λb hb=>(hf b hb).1⟩⟩
 done:=by
  intro X hP hw hK hc i pins s σ H E I hf st hg;subst hP hw hK;obtain⟨xs,hq,hx⟩:=hg;obtain⟨its,rv,p,hz⟩:=I.tuple hq;obtain⟨f0,f1,f2,f3,f4,f5⟩:=hf it (by simp);have hl:=rv.length;exact wpAny_pyNext_tuple_end (I.ok.hd hc) st (show s.heap.IsTuple a its.toArray from p) (by simp;lia) λh' eb=>⟨rfl,I.turned (t':=s.toks) (λb o hb e=>eb b o hb e) f0 f1 f3 f4 f5⟩
 self:=λ_ _ _ _ _ st h=>wpAny_pyIter_tupleiter st h
theorem yt (it:Z5)(lo:Int)(n:Nat):Bw P w K tg (Pg lo n) [it] it (λi h=>IsRangeIter h it (lo+(i:Nat)*1) ((n:Int)-(i:Nat)) 1) where
 mem:=by simp
 obj:=λi h st b hb=>by
  have e:b=it:=by simpa using hb
  subst e;exact⟨_,st,λv z=>by
   have z':Data.fields _=Data.cell v:=z;cases z'⟩
 keep:=λi h h' st k=>k it (by simp) _ st
 item:=by
  intro X hP hw hK hc i pins s σ H E I hf st hg;subst hP hw hK;obtain⟨f0,f1,f2,f3,f4,f5⟩:=hf it (by simp);have W:=Walks.range (prog:=X.prog) (w:=X.w) (I.ok.hd hc) it lo 1 n;refine W.item i s _ _ hg st λv h' tk hv aN kk=>?_;obtain⟨t,rfl⟩:=hv;have I1:aJ X pins σ H {s with heap:=h',toks:=tk}:=I.turned (λb o hb e=>kk b o (by simpa using hb) e) f0 f1 f3 f4 f5;refine⟨_,rfl,CU (s:={s with heap:=h',toks:=tk}) (n:="range_iterator") aN rfl rfl (by decide) ⟨.int (lo+i),H,I1,⟨t,?_⟩,⟨rfl,rfl⟩,aN,λb hb=>(hf b hb).1⟩⟩;rw[Int.mul_one]
 done:=by
  intro X hP hw hK hc i pins s σ H E I hf st hg;subst hP hw hK;obtain⟨f0,f1,f2,f3,f4,f5⟩:=hf it (by simp);exact wpAny_pyNext_range_end (I.ok.hd hc) st (by have:n<=i:=hg;lia) λh' eb=>⟨rfl,I.turned (t':=s.toks) (λb o hb e=>eb b o hb e) f0 f1 f3 f4 f5⟩
 self:=λ_ _ _ _ _ st h=>wpAny_pyIter_rangeiter st h
end L2
variable {wi:L2.TI}
namespace L2
def Mx (K:ZQ)(tl:TE):TI:=λσ H R=>tl σ H λx H1=>∃a,x=.ref a/\(∃xs,fS K H1 a xs)/\R (Pf K a) H1
def Qh (K:ZQ)(tl:TE):TI:=λσ H R=>tl σ H λx H1=>∃a,x=.ref a/\(∃xs,gz K H1 a xs)/\R (Qg K a) H1
theorem Gf {l:abE}{tl:TE}(hl:PE X l tl):PI X tg l (Mx X.K tl):=by
 intro pins s σ H R I h;refine eG (hl pins s σ H _ I h) λv s1 ⟨x,H1,I1,r1,q1⟩=>?_;obtain⟨a,e,⟨xs,hq⟩,q⟩:=q1;subst e;cases r1;obtain⟨its,rv,p,hz⟩:=I1.list hq;refine ae4 p.isList ?_;refine⟨s1.heap.objs.size,[s1.heap.objs.size],_,_,H1,rfl,I1.kept (t':=s1.toks) λb o e=>ZP _ e,Bx a _,⟨_,Z3 _ rfl,rfl,rfl⟩,λb hb=>?_,q⟩;have e:b=s1.heap.objs.size:=by simpa using hb
 subst e;exact I1.fpOk (Z2 _) (I1.hok.fresh (Z2 _))
theorem J_ {l:abE}{tl:TE}(hl:PE X l tl):PI X tg l (Qh X.K tl):=by
 intro pins s σ H R I h;refine eG (hl pins s σ H _ I h) λv s1 ⟨x,H1,I1,r1,q1⟩=>?_;obtain⟨a,e,⟨xs,hq⟩,q⟩:=q1;subst e;cases r1;obtain⟨its,rv,p,hz⟩:=I1.tuple hq;refine aeI (show s1.heap.IsTuple a its.toArray from p) ?_;refine⟨s1.heap.objs.size,[s1.heap.objs.size],_,_,H1,rfl,I1.kept (t':=s1.toks) λb o e=>ZP _ e,yr a _,⟨_,Z3 _ rfl,rfl,rfl⟩,λb hb=>?_,q⟩;have e:b=s1.heap.objs.size:=by simpa using hb
 subst e;exact I1.fpOk (Z2 _) (I1.hok.fresh (Z2 _))
theorem CV {R:It->Hp->Prop}{lo hi:Int}{t u v:Tok}{tk:Nat}(I:aJ X pins σ H s)(h1 : -(2 ^ 62)<=lo)(h2:lo<2 ^ 62)(h3 : -(2 ^ 62)<=hi)(h4:hi<2 ^ 62)(q:R (Pg lo (hi-lo).toNat) H):aac (aar X.prog X.w) X.A (pyIter (.ref s.heap.objs.size)) (Wc X pins σ tg R) E {s with heap:=s.heap.push {cls:=.type "range",data:=.fields #[.int lo t,.int hi u,.int 1 v]},toks:=tk}:=by
 refine wpAny_pyIter_range (IsRange.new ..) (small_one h1 h2 h3 h4) ?_;have I1:aJ X pins σ H {s with heap:=s.heap.push {cls:=.type "range",data:=.fields #[.int lo t,.int hi u,.int 1 v]},toks:=tk}:=I.kept λb o e=>ZP _ e;refine⟨(s.heap.push {cls:=.type "range",data:=.fields #[.int lo t,.int hi u,.int 1 v]}).objs.size,[(s.heap.push {cls:=.type "range",data:=.fields #[.int lo t,.int hi u,.int 1 v]}).objs.size],_,_,H,rfl,
  I1.kept (t':=tk) λb o e=>ZP _ e,yt _ lo (hi-lo).toNat,?_,λb hb=>?_,q⟩
 ·have e1:lo+((0:Nat):Int)*1=lo:=by simp
  have e2:(((hi-lo).toNat:Nat):Int)-((0:Nat):Int)=Builtin.Range.rangeSize lo hi 1:=by rw[rangeSize_one];split<;>lia
  show IsRangeIter _ _ (lo+((0:Nat):Int)*1) ((((hi-lo).toNat:Nat):Int)-((0:Nat):Int)) 1;rw[e1,e2];exact Z3 _ rfl
 ·have e:b=(s.heap.push {cls:=.type "range",data:=.fields #[.int lo t,.int hi u,.int 1 v]}).objs.size:=by simpa using hb
  subst e;exact I1.fpOk (Z2 _) (I1.hok.fresh (Z2 _))
def My (ta:TA):TI:=λσ H R=>ta σ H λvs H1=>∃j:Int,vs=[.int j]/\ -(2 ^ 62)<=j/\j<2 ^ 62/\R (Pg 0 j.toNat) H1
theorem By {a:abE}{ta:TA}{p:Pos}(hg:Gl X "range")(hm:X.mg "range"=none)(ha:PA X [a] ta)(hs:aaf [a] X.env=[(false,ade a X.env)]:=by rfl):PI X tg (.Call (.Name "range" p) [a] [] pos) (My ta):=by
 intro pins s σ H R I h;refine Call_ (uQ I hg hm boot_range (acP (eG (ha pos pins s σ H _ I h) λus s1 ⟨vs,H1,I1,r1,q1⟩=>?_) hs rfl));obtain⟨j,e,q1,q2,q⟩:=q1;subst e;cases r1 with
 |cons r rr=>
  cases rr;obtain⟨t,rfl⟩:=r;exact call_range_1 (CV I1 (by lia) (by lia) q1 q2 (by simpa using q))
def Qi (wi:TI)(g:TG)(tb:TS):TS:=λD σ H=>wi σ H λJ H1=>∃W:Nat->Nat->St->Hp->Prop,(∃m,W 0 m σ H1)/\∀i m σ H,W i m σ H->
 (J.stop i H/\D.nx σ H)\/(J.go i H/\∃N:St->Hp->Prop,(∀σ' H',N σ' H'->∃m',m'<m/\W (i+1) m' σ' H')/\∀x H',J.yld i H x H'->g x σ H' λσ2 H2=>tb {D with nx:=N,ct:=N,bk:=D.nx} σ2 H2)
noncomputable def p0 (fp:List Z5)(h:acj):List (Z5×Obj):=fp.filterMap λb=>(h.get? b).map λo=>(b,o)
theorem jv {o:Obj}(hb:b∈fp)(e:h.get? b=some o):(b,o)∈p0 fp h:=aeJ.mpr ⟨b,hb,by rw[e];rfl⟩
theorem Bz {p:Z5×Obj}(hp:p∈p0 fp h):p.1∈fp/\h.get? p.1=some p.2:=by
 obtain⟨b,hb,e⟩:=aeJ.mp hp;cases q:h.get? b with
 |none=>rw[q] at e;cases e
 |some o=>
  rw[q] at e;have e':(b,o)=p:=aaj e;subst e';exact⟨hb,q⟩
theorem aJ.pinned (I:aJ X pins σ H s)(hf:∀b∈fp,oZ X pins H b)(ho:∀b∈fp,∃o,s.heap.get? b=some o/\∀v,o.data≠.cell v):aJ X (pins++p0 fp s.heap) σ H s:=
 I.pins_of λp hp=>(aai.mp hp).elim (λz=>I.pin p (Z6 _ z)) λz=>by
  obtain⟨hb,e⟩:=Bz z;obtain⟨f0,f1,f2,_⟩:=hf p.1 hb;obtain⟨o,e',d⟩:=ho p.1 hb;rw[e] at e';cases e';exact⟨e,f0,f1,f2,d⟩
theorem aJ.unpinned {pl:List (Z5×Obj)}(I:aJ X (pins++pl) σ H s):aJ X pins σ H s:=I.pins_of λp hp=>I.pin p (Z6 _ (aat _ hp))
theorem Ka {g:TG}{tb:TS}(hp:afe (aar X.prog X.w) X.A X.env X.xe)(hc:X.calm=true)(hi:PI X tg iter wi)(hg:PG X tg g)(hb:sJ X body tb)(hs:∀x,abj iter X.env x=pure x:=by intro _;rfl):PS X (.For tg iter body [] pos) (Qi wi g tb):=by
 intro pins s σ H D I h;refine wpAny_For (eG (hi pins s σ H _ I h) λv s1 h1=>eG h1 λPM s2 h2=>?_) hs;obtain⟨it,fp,tn,J,H2,e,I2,T,kR,f2,W,⟨m0,w0⟩,turn⟩:=h2;subst e;have LG:∀{H':Hp},(∀b∈fp,H' b=none)->∀b∈fp,oZ X pins H' b:=λhn b hb=>⟨hn b hb,(f2 b hb).2⟩;refine codeAny_forLoop_any (λn s'=>∃i σ' H',aJ X pins σ' H' s'/\tn i s'.heap/\(∀b∈fp,H' b=none)/\W i n σ' H') ?_ m0 ⟨0,σ,H2,I2,kR,λb hb=>(f2 b hb).1,w0⟩;rintro n s3 ⟨i,σ3,H3,I3,F7,fr3,w3⟩;rcases turn i n σ3 H3 w3 with⟨stop,qn⟩|⟨go,N,hN,step⟩
 ·refine acw hp (eG (T.done X rfl rfl rfl hc i pins s3 σ3 H3 X.xe I3 (LG fr3) F7 stop) λr s4 ⟨hr,I4⟩=>?_);subst hr;exact aeq ⟨σ3,H3,I4,qn⟩
 ·refine acw hp (eG (T.item X rfl rfl rfl hc i pins s3 σ3 H3 X.xe I3 (LG fr3) F7 go) λr s4 ⟨u,hr,h4⟩=>?_);subst hr;refine acw hp (eG h4 λ_ s5 ⟨x,H5,I5,r5,y5,st5,fr5⟩=>?_);have Rm:=I5.pinned (LG fr5) (T.obj _ _ st5);refine acw hp (eG (hg _ s5 σ3 H5 x u _ Rm r5 (step x H5 y5)) λ_ s6 ⟨σ6,H6,I6,q6⟩=>?_);refine acw hp (eG (hb _ s6 σ6 H6 _ I6 q6) λf s7 q7=>?_);have again:∀{σ7:St} {H7:Hp},aJ X (pins++p0 fp s5.heap) σ7 H7 s7->N σ7 H7->∃m,m<n/\∃i σ' H',aJ X pins σ' H' s7/\tn i s7.heap/\(∀b∈fp,H' b=none)/\W i m σ' H':=λ{σ7 H7} I7 n7=>by
   obtain⟨m',hm,w7⟩:=hN σ7 H7 n7;refine⟨m',hm,i+1,σ7,H7,I7.unpinned,T.keep _ _ _ st5 λb hb o e=>(I7.pin (b,o) (Z6 _ (Z6 _ (jv hb e)))).1,λb hb=>?_,w7⟩;obtain⟨o,e,d⟩:=T.obj _ _ st5 b hb;exact (I7.pin (b,o) (Z6 _ (Z6 _ (jv hb e)))).2.1
  cases f with
  |next=>obtain⟨σ7,H7,I7,n7⟩:=q7;exact again I7 n7
  |cont=>obtain⟨σ7,H7,I7,n7⟩:=q7;exact again I7 n7
  |brk=>obtain⟨σ7,H7,I7,q7⟩:=q7;exact⟨σ7,H7,I7.unpinned,q7⟩
  |ret v=>obtain⟨x7,σ7,H7,I7,r7,q7⟩:=q7;exact⟨x7,σ7,H7,I7.unpinned,r7,q7⟩
end L2
namespace L2
abbrev R2:=V->V->Hp->VK->Prop
def jQ (X:Cx)(f:ZO->ZO->Sem ZO)(r:R2):Prop:=
 ∀(pins:List (Z5×Obj)) (s:Z8) (σ:St) (H:Hp) (x y:V) (v u:ZO) (Q:VK),aJ X pins σ H s->bx x v->bx y u->r x y H Q->
  aac (aar X.prog X.w) X.A (f v u) (EP X pins σ Q) X.xe s
def eU (X:Cx)(f:ZO)(r:List V->Hp->VK->Prop):Prop:=
 ∀(pins:List (Z5×Obj)) (s:Z8) (σ:St) (H:Hp) (xs:List V) (us:List ZO) (Q:VK),aJ X pins σ H s->bh xs us->r xs H Q->
  aac (aar X.prog X.w) X.A (call f us) (EP X pins σ Q) X.xe s
def Qj (X:Cx)(r:V->Hp->(Bool->Hp->Prop)->Prop):Prop:=
 ∀(pins:List (Z5×Obj)) (s:Z8) (σ:St) (H:Hp) (x:V) (v:ZO) (Q:Bool->Hp->Prop),aJ X pins σ H s->bx x v->r x H Q->
  aac (aar X.prog X.w) X.A (truthy v) (TP X pins σ Q) X.xe s
def Mz (r:R2)(ta tb:TE):TE:=λσ H Q=>ta σ H λx H1=>tb σ H1 λy H2=>r x y H2 Q
def rI (C:Int->Int->Prop)(g:Int->Int->V):R2:=λx y H Q=>∃i j,x=.int i/\y=.int j/\C i j/\Q (g i j) H
def yu (g:Int->Int->V):R2:=λx y H Q=>∃i j,x=.int i/\y=.int j/\Q (g i j) H
section
variable {a b:abE}{ta tb tc:TE}
theorem Kb (ha:PE X a ta)(hb:PE X b tb){R:V->V->Hp->Prop}(I:aJ X pins σ H s)(h:ta σ H λx H1=>tb σ H1 λy H2=>R x y H2){f:ZO->ZO->Sem ZO}(hf:∀v u s2 x y H2,aJ X pins σ H2 s2->bx x v->bx y u->R x y H2->aac (aar X.prog X.w) X.A (f v u) Q X.xe s2) :
  aac (aar X.prog X.w) X.A (ade a X.env) (λv s₁=>aac (aar X.prog X.w) X.A (ade b X.env) (λu s₂=>aac (aar X.prog X.w) X.A (f v u) Q X.xe s₂) X.xe s₁) X.xe s:=by
 refine eG (ha pins s σ H _ I h) λv s1 ⟨x,H1,I1,r1,q1⟩=>?_;refine eG (hb pins s1 σ H1 _ I1 q1) λu s2 ⟨y,H2,I2,r2,q2⟩=>?_;exact hf v u s2 x y H2 I2 r1 r2 q2
theorem MA {op:Operator}{r:R2}(ho:jQ X (adj op) r)(ha:PE X a ta)(hb:PE X b tb):PE X (.BinOp a op b pos) (Mz r ta tb):=by
 intro pins s σ H Q I h;exact wpAny_BinOp (Kb ha hb I h λv u s2 x y H2 I2 rx ry q=>ho pins s2 σ H2 x y v u Q I2 rx ry q)
theorem Ph {f:ZO->ZO->Sem ZO}{C:Int->Int->Prop}{g:Int->Int->Int}
  (rule:∀(i j:Int) (t u:Tok) (s:Z8) (Q:ZO->Z8->Prop) (E:ZO->Z8->Prop),C i j->Q (.int (g i j) s.toks) {s with toks:=s.toks+1}->aac (aar X.prog X.w) X.A (f (.int i t) (.int j u)) Q E s) :
  jQ X f (rI C λi j=>.int (g i j)):=by
 intro pins s σ H x y v u Q I rx ry h;obtain⟨i,j,rfl,rfl,hc,q⟩:=h;obtain⟨t,rfl⟩:=rx;obtain⟨t',rfl⟩:=ry;exact rule i j t t' s _ _ hc ⟨.int (g i j),H,I.tok _,⟨_,rfl⟩,q⟩
theorem MB {f:ZO->ZO->Sem ZO}{g:Int->Int->Int}
  (rule:∀(i j:Int) (t u:Tok) (s:Z8) (Q:ZO->Z8->Prop) (E:ZO->Z8->Prop),Q (.int (g i j) s.toks) {s with toks:=s.toks+1}->aac (aar X.prog X.w) X.A (f (.int i t) (.int j u)) Q E s) :
  jQ X f (yu λi j=>.int (g i j)):=by
 intro pins s σ H x y v u Q I rx ry h;obtain⟨i,j,rfl,rfl,q⟩:=h;obtain⟨t,rfl⟩:=rx;obtain⟨t',rfl⟩:=ry;exact rule i j t t' s _ _ ⟨.int (g i j),H,I.tok _,⟨_,rfl⟩,q⟩
theorem Gg {f:ZO->ZO->Sem ZO}{g:Int->Int->Bool}
  (rule:∀(i j:Int) (t u:Tok) (s:Z8) (Q:ZO->Z8->Prop) (E:ZO->Z8->Prop),Q (.bool (g i j)) s->aac (aar X.prog X.w) X.A (f (.int i t) (.int j u)) Q E s) :
  jQ X f (yu λi j=>.bl (g i j)):=by
 intro pins s σ H x y v u Q I rx ry h;obtain⟨i,j,rfl,rfl,q⟩:=h;obtain⟨t,rfl⟩:=rx;obtain⟨t',rfl⟩:=ry;exact rule i j t t' s _ _ ⟨.bl (g i j),H,I,rfl,q⟩
def MC (i j:Int):Prop:=0<=j/\j<=1000000/\i.natAbs<2 ^ 64
def Gh (i j:Int):Prop:=(-(2 ^ 64)<i/\i<2 ^ 64)\/(-(2 ^ 64)<j/\j<2 ^ 64)
theorem Gh.ok {i j:Int}(h:Gh i j):IntMulOk i j:=by
 rcases h with⟨h1,h2⟩|⟨h1,h2⟩
 ·exact .of_left (intBits_le_64 h1 h2)
 ·exact .of_right (intBits_le_64 h1 h2)
theorem Kc:jQ X (adj .Add) (yu λi j=>.int (i+j)):=MB λ_ _ _ _ _ _ _ q=>add_int q
theorem uR:jQ X (adj .Sub) (yu λi j=>.int (i-j)):=MB λ_ _ _ _ _ _ _ q=>sub_int q
theorem dY:jQ X (adj .Mult) (rI Gh λi j=>.int (i*j)):=Ph λ_ _ _ _ _ _ _ hc q=>mul_int q hc.ok
theorem lH:jQ X (adj .Mod) (rI (λ_ j=>0<j) λi j=>.int (i % j)):=Ph λi j _ _ _ _ _ hc q=>by
 have h1:(0:Int)<j:=hc;exact mod_int' (by lia) (by rw[Int.fmod_eq_emod_of_nonneg i (by lia)];exact q)
theorem CW:jQ X (adj .Pow) (rI MC λi j=>.int (i ^ j.toNat)):=Ph λ_ _ _ _ _ _ _ hc q=>pow_int_small hc.1 hc.2.1 hc.2.2 q
end
section
variable {a b:abE}{ta tb tc:TE}
theorem CY {Q:VK}{k k':Bool}(I:aJ X pins σ H s)(q:Q (.bl k) H)(e:k=k'):EP X pins σ Q (.bool k') s:=by
 subst e;exact⟨.bl k,H,I,rfl,q⟩
theorem CZ:jQ X (abu .Lt) (yu λi j=>.bl (decide (i<j))):=Gg λ_ _ _ _ _ _ _ q=>lt_int q
theorem C0:jQ X (abu .LtE) (yu λi j=>.bl (decide (i<=j))):=Gg λ_ _ _ _ _ _ _ q=>le_int q
theorem wA:jQ X (abu .Gt) (yu λi j=>.bl (decide (j<i))):=Gg λ_ _ _ _ _ _ _ q=>gt_int q
theorem MD:jQ X (abu .GtE) (yu λi j=>.bl (decide (j<=i))):=Gg λ_ _ _ _ _ _ _ q=>ge_int q
theorem yv:jQ X (abu .Is) (λx y H Q=>y=.non/\Q (.bl (decide (x=.non))) H):=by
 intro pins s σ H x y v u Q I rx ry h;obtain⟨rfl,q⟩:=h;cases ry;refine is_none_gen (CY I q ?_);cases x<;>first
  | (cases rx;rfl)
  | (obtain⟨t,rfl⟩:=rx;rfl)
theorem z_:jQ X (abu .IsNot) (λx y H Q=>y=.non/\Q (.bl (!decide (x=.non))) H):=by
 intro pins s σ H x y v u Q I rx ry h;obtain⟨rfl,q⟩:=h;cases ry;refine isnot_none_gen (CY I q ?_);cases x<;>first
  | (cases rx;rfl)
  | (obtain⟨t,rfl⟩:=rx;rfl)
theorem jQ.or {f:ZO->ZO->Sem ZO}{r r':R2}(h:jQ X f r)(h':jQ X f r'):jQ X f (λx y H Q=>r x y H Q\/r' x y H Q):=by
 intro pins s σ H x y v u Q I rx ry q;rcases q with q|q
 ·exact h pins s σ H x y v u Q I rx ry q
 ·exact h' pins s σ H x y v u Q I rx ry q
theorem aS (b:abE)(h:op≠.In:=by decide)(h2:op≠.NotIn:=by decide):ac2 op b=false:=by
 have e1:(op==CmpOp.In)=false:=by cases op<;>first|rfl|exact absurd rfl h
 have e2:(op==CmpOp.NotIn)=false:=by cases op<;>first|rfl|exact absurd rfl h2
 cases b<;>simp[ac2,e1,e2]
theorem Gi {r:R2}(ho:jQ X (abu op) r)(ha:PE X a ta)(hb:PE X b tb)(hm:ac2 op b=false):PE X (.Compare a [op] [b] pos) (Mz r ta tb):=by
 intro pins s σ H Q I h;exact wpAny_Compare1 (Kb ha hb I h λv u s2 x y H2 I2 rx ry q=>ho pins s2 σ H2 x y v u Q I2 rx ry q) hm
def HZ (t:TE):TT:=λσ H Q=>t σ H λx H'=>∃k,x=.bl k/\Q k H'
theorem Gj {r:R2}(ho:jQ X (abu op) r)(ha:PE X a ta)(hb:PE X b tb)(hm:ac2 op b=false):PT X (.Compare a [op] [b] pos) (HZ (Mz r ta tb)):=by
 intro pins s σ H Q I h;refine wpAny_isTrue_Compare1 (eG (ha pins s σ H _ I h) λv s1 ⟨x,H1,I1,r1,q1⟩=>eG (hb pins s1 σ H1 _ I1 q1) λu s2 ⟨y,H2,I2,r2,q2⟩=>
  eG (ho pins s2 σ H2 x y v u _ I2 r1 r2 q2) λc s3 ⟨z,H3,I3,r3,k,e,q3⟩=>?_) hm
 subst e;cases r3;exact acu ⟨H3,I3,q3⟩
def C1 (r r':R2)(ta tb tc:TE):TE:=λσ H Q=>ta σ H λx H1=>tb σ H1 λy H2=>r x y H2 λz H3=>∃k,z=.bl k/\
 (if k=true then tc σ H3 λw' H4=>r' y w' H4 Q else Q (.bl false) H3)
theorem C2 {LH:CmpOp}{r r':R2}(ho:jQ X (abu op) r)(FJ:jQ X (abu LH) r')(ha:PE X a ta)(hb:PE X b tb)(hc:PE X c tc)(hm:lastMarks [op,LH] [b,c]=false:=by with_unfolding_all rfl):PT X (.Compare a [op,LH] [b,c] pos) (HZ (C1 r r' ta tb tc)):=by
 intro pins s σ H Q I h;refine isTrue_chain (eG (ha pins s σ H _ I h) λv s1 ⟨x,H1,I1,r1,q1⟩=>test_link (eG (hb pins s1 σ H1 _ I1 q1) λu s2 ⟨y,H2,I2,r2,q2⟩=>
  eG (ho pins s2 σ H2 x y v u _ I2 r1 r2 q2) λd s3 ⟨z,H3,I3,r3,k,e,q3⟩=>?_)) hm
 subst e;cases r3;refine acu ?_;cases k with
 |false=>
  obtain⟨k',e',q'⟩:=q3;cases e';exact ite_ff ⟨H3,I3,q'⟩
 |true=>
  refine ite_tt (test_last (eG (hc pins s3 σ H3 _ I3 q3) λw' s4 ⟨z',H4,I4,r4,q4⟩=>eG (FJ pins s4 σ H4 y z' u w' _ I4 r2 r4 q4) λd' s5 ⟨z2,H5,I5,r5,k2,e2,q5⟩=>?_));subst e2;cases r5;exact acu ⟨H5,I5,q5⟩
def Qk (K:ZQ)(x:V)(H:Hp)(k:Bool):Prop:=
 match x with
 | .non=>k=false
 | .bl b=>k=b
 | .int i=>k=(i != 0)
 | .str y=>y.length<=ZY/\k=((y.length:Int) != 0)
 | .byt y=>y.size<=ZY/\k=((y.size:Int) != 0)
 | .ref p=>(∃xs,fS K H p xs/\k = !xs.isEmpty)\/(∃xs,gz K H p xs/\k = !xs.isEmpty)\/∃cF,H p=some (.dK cF)/\k = !cF.isEmpty
 |_=>False
theorem yw {κ:Type}{cF:List (κ×V)}{vs:List (κ×ZO)}(r:KV cF vs):(!vs.isEmpty) = !cF.isEmpty:=by
 cases r<;>rfl
theorem p6 (r:bh xs its):(!its.toArray.isEmpty) = !xs.isEmpty:=by
 cases r<;>simp
theorem m9:(ZY:Nat)<2 ^ 63:=by rw[abG];decide
theorem Ql:Qj X (λx H Q=>∃k,Qk X.K x H k/\Q k H):=by
 intro pins s σ H x v Q I rx h;obtain⟨k,e,q⟩:=h;have hl:=m9;have hs:ZY=16777216:=abG;cases x with
 |non=>
  cases rx;have e':k=false:=e;subst e';exact truthy_none ⟨H,I,q⟩
 |bl b=>
  cases rx;have e':k=b:=e;subst e';exact acu ⟨H,I,q⟩
 |int i=>
  obtain⟨t,rfl⟩:=rx;have e':k=(i != 0):=e;subst e';exact PySem.P.truthy_int ⟨H,I,q⟩
 |str y=>
  obtain⟨t,rfl⟩:=rx;obtain⟨hy,e'⟩:y.length<=ZY/\k=((y.length:Int) != 0):=e;subst e';exact PySem.P.truthy_str (by lia) ⟨H,I.tok _,q⟩
 |byt y=>
  obtain⟨t,rfl⟩:=rx;obtain⟨hy,e'⟩:y.size<=ZY/\k=((y.size:Int) != 0):=e;subst e';exact PySem.W.truthy_bytes (by lia) ⟨H,I.tok _,q⟩
 |ref p=>
  cases rx;have e':(∃xs,fS X.K H p xs/\k = !xs.isEmpty)\/(∃xs,gz X.K H p xs/\k = !xs.isEmpty)\/∃cF,H p=some (.dK cF)/\k = !cF.isEmpty:=e;rcases e' with⟨xs,hx,e'⟩|⟨xs,hx,e'⟩|⟨cF,hx,e'⟩
  ·subst e';obtain⟨its,r,pl,hz⟩:=I.list hx;have dw:=r.length;exact wpAny_truthy_list pl.isList (by simp only[ZU];lia) ⟨H,I.tok _,by rw[p6 r];exact q⟩
  ·subst e';obtain⟨its,r,pl,hz⟩:=I.tuple hx;have dw:=r.length;exact truthy_tuple pl (by simp only[ZU];lia) ⟨H,I.tok _,by rw[p6 r];exact q⟩
  ·subst e';obtain⟨hz,hS,vs,r,m⟩:cF.length<=ZY/\(p==abZ)=false/\∃vs,KV cF vs/\s.heap.DictOf (fz X.prog X.w) p vs:=I.hok p _ hx;have dw:cF.length=vs.length:=Paired.length r;exact wpAny_truthy_dict hS m (by lia) ⟨H,I.tok _,by rw[yw r];exact q⟩
 |_=>exact (show False from e).elim
theorem iT {x:V}{us:List ZO}(r:bh [x] us):∃u,us=[u]/\bx x u:=by
 cases r with
 |cons r1 r2=>cases r2;exact⟨_,rfl,r1⟩
theorem H9 {x:V}{us:List ZO}(r:bh [x,y] us):∃u w',us=[u,w']/\bx x u/\bx y w':=by
 cases r with
 |cons r1 r2=>
  cases r2 with
  |cons r3 r4=>cases r4;exact⟨_,_,rfl,r1,r3⟩
theorem wB:eU X (.builtin "abs") (λxs H Q=>∃i,xs=[.int i]/\Q (.int (if i<0 then -i else i)) H):=by
 intro pins s σ H xs us Q I r h;obtain⟨i,rfl,q⟩:=h;obtain⟨u,rfl,t,rfl⟩:=iT r;exact call_abs_int λu tk=>⟨.int (if i<0 then -i else i),H,I.tok _,⟨_,rfl⟩,q⟩
theorem BA (hc:X.calm=true):eU X (.builtin "max") (λxs H Q=>∃i j,xs=[.int i,.int j]/\Q (.int (if j>i then j else i)) H):=by
 intro pins s σ H xs us Q I r h;obtain⟨i,j,rfl,q⟩:=h;obtain⟨u,w',rfl,⟨t,rfl⟩,⟨t',rfl⟩⟩:=H9 r;refine max_two_ints (I.ok.hd hc) λh' tk k=>⟨_,H,I.kept k,?_,q⟩;by_cases hj:j>i
 ·rw[hV hj,hV hj];exact⟨_,rfl⟩
 ·rw[hU hj,hU hj];exact⟨_,rfl⟩
theorem BB (hc:X.calm=true):eU X (.builtin "min") (λxs H Q=>∃i j,xs=[.int i,.int j]/\Q (.int (if j<i then j else i)) H):=by
 intro pins s σ H xs us Q I r h;obtain⟨i,j,rfl,q⟩:=h;obtain⟨u,w',rfl,⟨t,rfl⟩,⟨t',rfl⟩⟩:=H9 r;refine min_two_ints (I.ok.hd hc) λh' tk k=>⟨_,H,I.kept k,?_,q⟩;by_cases hj:j<i
 ·rw[hV hj,hV hj];exact⟨_,rfl⟩
 ·rw[hU hj,hU hj];exact⟨_,rfl⟩
def ME (K:ZQ)(x:V)(H:Hp)(n:Nat):Prop:=
 match x with
 | .str y=>y.length<=ZY/\n=y.length
 | .byt y=>y.size<=ZY/\n=y.size
 | .ref p=>(∃xs,fS K H p xs/\n=xs.length)\/∃xs,gz K H p xs/\n=xs.length
 |_=>False
theorem bL:eU X (.builtin "len") (λxs H Q=>∃x n,xs=[x]/\ME X.K x H n/\Q (.int n) H):=by
 intro pins s σ H xs us Q I r h;obtain⟨x,n,rfl,e,q⟩:=h;obtain⟨u,rfl,rx⟩:=iT r;have hl:=m9;have hs:ZY=16777216:=abG;cases x with
 |str y=>
  obtain⟨t,rfl⟩:=rx;obtain⟨hy,e'⟩:y.length<=ZY/\n=y.length:=e;subst e';exact len_str (by lia) ⟨.int _,H,I.tok _,⟨_,rfl⟩,q⟩
 |byt y=>
  obtain⟨t,rfl⟩:=rx;obtain⟨hy,e'⟩:y.size<=ZY/\n=y.size:=e;subst e';exact PySem.W.len_bytes (by lia) ⟨.int _,H,I.tok _,⟨_,rfl⟩,q⟩
 |ref p=>
  cases rx;have e':(∃xs,fS X.K H p xs/\n=xs.length)\/∃xs,gz X.K H p xs/\n=xs.length:=e;rcases e' with⟨xs,hx,e'⟩|⟨xs,hx,e'⟩
  ·subst e';obtain⟨its,r',pl,hz⟩:=I.list hx;have dw:=r'.length;exact Calls.call_len_list pl.isList (by simp only[ZU];lia) ⟨.int xs.length,H,I.tok _,⟨_,by simp only[ZU];rw[dw]⟩,q⟩
  ·subst e';obtain⟨its,r',pl,hz⟩:=I.tuple hx;have dw:=r'.length;exact len_tuple pl (by simp only[ZU];lia) ⟨.int xs.length,H,I.tok _,⟨_,by simp only[ZU];rw[dw]⟩,q⟩
 |_=>exact (show False from e).elim
end
end L2
variable {r r':L2.R2}
namespace L2
structure Xi (h:acj)(x dx C:Z5)(mA:Str->Option ZO):Prop where
 obj:h.get? x=some (PySem.W.instObj C dx)
 ns:h.Ns1 dx mA
 ne:dx≠x
theorem oY.some_of {o:Option ZO}(r:oY (some v) o):∃u,o=some u/\bx v u:=by
 cases o with
 |none=>exact (show False from r).elim
 |some u=>exact⟨u,rfl,r⟩
structure Xj (K:ZQ)(C:Z5):Prop where
 pg:PySem.W.plainGet K C Str.empty=true
 hd:PySem.W.hasDictIn K C=true
 po:PySem.W.plainOver K C=true
 sa:ad4 K (.ref C) "__setattr__"=some (some (.builtin "object.__setattr__"))
structure Zw (K:ZQ)(C:Z5)(f:Str)(v:V)(u:ZO):Prop where
 at_:ad4 K (.ref C) f=some (some u)
 rel:bx v u
 get:PySem.W.specialIn K u "__get__"=some none
 cp:PySem.W.copiedNames.contains f=false
structure Xk (K:ZQ)(C:Z5)(m:Str)(f:Z5):Prop where
 at_:ad4 K (.ref C) m=some (some (.ref f))
 fn:PySem.W.isFn K (.ref f)=true
 kp:aah K (.ref f)=true
section
variable {A:aaD}{c:ZO}{b:Bool}
inductive p7 (K:ZQ)(H:Hp):V->ZO->Prop where
 |non:p7 K H .non (.type "NoneType")
 |bl (x:Bool):p7 K H (.bl x) (.type "bool")
 |int (i:Int):p7 K H (.int i) (.type "int")
 |str (x:Str):p7 K H (.str x) (.type "str")
 |flt (x:UInt64):p7 K H (.flt x) (.type "float")
 |lst {a:Z5} {xs:List V} (e:H a=some (.lst xs)):p7 K H (.ref a) (.type "list")
 |frz {a:Z5} {o:Obj} {xs:List V} (e:H a=some (.frz o (.lst xs))):p7 K H (.ref a) (.type "list")
 |tup {a:Z5} {xs:List V} (e:H a=some (.tup xs)):p7 K H (.ref a) (.type "tuple")
 |dK {a:Z5} {cF:List (jI×V)} (e:H a=some (.dK cF)):p7 K H (.ref a) (.type "dict")
 |dT {a:Z5} {cF:List (List jI×V)} (e:H a=some (.dT cF)):p7 K H (.ref a) (.type "dict")
 |ins {a C dx:Z5} {fs:List (Str×V)} (e:H a=some (.ins C dx fs)) (cl:Xj K C) (ha:ad4 K (.ref C) "__class__"=some (some (.builtin "object.__class__")))
   (hn:PySem.W.specialIn K (.builtin "object.__class__") "__get__"=some (some (.builtin "getset_descriptor.__get__"))) (htk:PySem.W.takesIn K (.builtin "object.__class__")=some true)
   (hm:PySem.W.mroIn K C (.type "object")=some true):p7 K H (.ref a) (.ref C)
end
end L2
namespace L2
structure fX (k:Nat)(A:aaD):Prop where
 hd:A.handled=none
 dp:A.depth+3*k+5<recursionLimit
 un:A.units+16*k+200<abH
theorem fX.mono {A:aaD}(r:fX k A)(h:j<=k):fX j A:=⟨r.hd,by have:=r.dp;lia,by have:=r.un;lia⟩
theorem fX.deeper {A:aaD}(r:fX (k+1) A)(env:Env):fX k (A.deeper env):=
 ⟨r.hd,by have:=r.dp;show A.depth+1+3*k+5<_;lia,by have:=r.un;show A.units+3+16*k+200<_;lia⟩
theorem fX.depth {A:aaD}(r:fX k A):A.depth<recursionLimit:=by have:=r.dp;lia
theorem fX.units {A:aaD}(r:fX k A):A.units+64<abH:=by have:=r.un;lia
def Qm:TA:=λ_ H Q=>Q [] H
def MF (ta:TE)(tr:TA):TA:=λσ H Q=>ta σ H λx H1=>tr σ H1 λxs H2=>Q (x::xs) H2
section
variable {e:abE}{es:List abE}{t:TA}
theorem p8:PA X [] Qm:=λ_ _ _ _ H Q I h=>Calls.spliced_nil ⟨[],H,I,.nil,h⟩
theorem md (ha:PE X e te)(hr:PA X es t)(hs:aaf (e::es) X.env=(false,ade e X.env)::aaf es X.env:=by rfl):PA X (e::es) (MF te t):=by
 intro pos pins s σ H Q I h;rw[hs];show aac _ _ (spliced ((false,ade e X.env)::acq pos (aaf es X.env))) _ _ s;refine aeK (eG (ha pins s σ H _ I h) λu s1 ⟨x,H1,I1,r1,q1⟩=>?_);exact eG (hr pos pins s1 σ H1 _ I1 q1) λus s2 ⟨xs,H2,I2,r2,q2⟩=>⟨x::xs,H2,I2,.cons r1 r2,q2⟩
def Qn (t:TA):TE:=λσ H Q=>t σ H λxs H1=>xs.length<=ZY/\∀p,H1 p=none->Q (.ref p) (c_ H1 p (.tup xs))
def Qo (t:TA):TE:=λσ H Q=>t σ H λxs H1=>xs.length<=ZY/\∀p,H1 p=none->Q (.ref p) (c_ H1 p (.lst xs))
theorem Kd {x1}(h:PA X es t):PE X (.Tuple es x1 pos) (Qn t):=by
 intro pins s σ H Q I hq;refine wpAny_Tuple_spliced (eG (h pos pins s σ H _ I hq) λus s1 ⟨xs,H1,I1,r,z,q⟩=>⟨by rw[←r.length];exact z,?_⟩);have hf:H1 s1.heap.objs.size=none:=I1.hok.fresh (Z2 _);refine⟨.ref s1.heap.objs.size,c_ H1 s1.heap.objs.size (.tup xs),I1.laid (t':=s1.toks) (λb u e=>ZP _ e) (Z2 _) ?_,rfl,q _ hf⟩;exact⟨z,us,r,⟨_,Z3 _ rfl,rfl,_,rfl⟩,_,Z3 _ rfl⟩
theorem C3 (h:PA X es t):PE X (.List es pos) (Qo t):=by
 intro pins s σ H Q I hq;refine wpAny_List_spliced (eG (h pos pins s σ H _ I hq) λus s1 ⟨xs,H1,I1,r,z,q⟩=>⟨by rw[←r.length];exact z,?_⟩);have hf:H1 s1.heap.objs.size=none:=I1.hok.fresh (Z2 _);refine⟨.ref s1.heap.objs.size,c_ H1 s1.heap.objs.size (.lst xs),I1.laid (t':=s1.toks) (λb u e=>ZP _ e) (Z2 _) ?_,rfl,q _ hf⟩;exact⟨z,us,0,r,Z3 _ rfl⟩
end
abbrev Sp:=List V->Hp->VK->XK->Prop
abbrev CXT:=List Env->Hp->Z8->XK->ZO->Z8->Prop
structure Gk (P:ack)(w:acJ)(K:ZQ)(mg:Str->Option ZO)(base:acj)(A:aaD)(outer:List Env)(s:Z8)(H:Hp):Prop where
 frames:A.frames=some outer
 mod:Mod K mg base
 bs:∀b o,base.get? b=some o->s.heap.get? b=some o/\H b=none
 bsz:base.objs.size<=s.heap.objs.size
 funs:s.heap.FunFrames base outer
 frf:∀b∈zW outer,H b=none
 hok:kT P w H s.heap
 bare:AllBare s.gens
def CE (outer:List Env)(P:ack)(w:acJ)(H:Hp)(s:Z8)(Q:VK)(u:ZO)(s':Z8):Prop:=
 ∃v H',s'.os=s.os/\AllBare s'.gens/\Un (zW outer) [] H H' s.heap s'.heap/\kT P w H' s'.heap/\bx v u/\Q v H'
def CR (CX:CXT)(outer:List Env)(P:ack)(w:acJ)(H:Hp)(s:Z8)(Q:VK)(E:XK)(r:Result)(s':Z8):Prop:=
 match r with
 | .ok (.ret u)=>CE outer P w H s Q u s'
 | .ok _=>False
 | .error e=>CX outer H s E e s'
structure kW (P:ack)(w:acJ)(K:ZQ)(mg:Str->Option ZO)(base:acj)(CX:CXT)(k:Nat)(f:Z5)(fd:aeh)(ps:List Str)(sp:Sp):Prop where
 len:∀vs H Q E,sp vs H Q E->vs.length=ps.length
 run:∀(A:aaD) (outer:List Env) (s:Z8) (H:Hp) (args:Args) (us:List ZO) (vs:List V) (Q:VK) (E:XK),fX k A->Gk P w K mg base A outer s H->BindsTo s fd args (ps.zip us)->bh vs us->sp vs H Q E->
  codeAny (aar P w) A (.call (.ref f) args) (CR CX outer P w H s Q E) s
theorem kW.imp {base:acj}{CX:CXT}{sp WH:Sp}(F:kW P w K mg base CX k f fd ps sp)(h:∀vs H Q E,WH vs H Q E->sp vs H Q E):kW P w K mg base CX k f fd ps WH:=
 ⟨λvs H Q E q=>F.len vs H Q E (h _ _ _ _ q),λA outer s H args us vs Q E hr he hb hv hs=>F.run A outer s H args us vs Q E hr he hb hv (h _ _ _ _ hs)⟩
section
variable {s':Z8}
theorem aJ.env0 (I:aJ X pins σ H s):Gk X.prog X.w X.K X.mg X.base X.A X.stack s H:=
 ⟨I.ok.frames,I.ok.mod,I.bs,aaT I.ok.bsz I.sz,I.stack,I.stkFree,I.hok,I.bare⟩
theorem aJ.after {Q:VK}{u:ZO}(I:aJ X pins σ H s)(h:CE X.stack X.prog X.w H s Q u s'):EP X pins σ Q u s':=by
 obtain⟨v,H',os,bare,un,hok,r,q⟩:=h;obtain⟨hh,g,d,t,os'⟩:=s';obtain rfl:os'=s.os:=os;exact⟨v,H',I.call (h':=hh) (g':=g) (d':=d) (t':=t) (ch:=[]) un hok bare (λb z=>absurd z (by simp)),r,q⟩
end
def H_ (sp:Sp)(JC:List V)(E:XK)(t:TA):TE:=λσ H Q=>t σ H λvs H1=>sp (vs++JC) H1 Q E
def tJ (K:ZQ)(fd:aeh)(ps:List Str)(ds:List ZO):Prop:=
 ∀(s:Z8) (us:List ZO),K.In s.heap->(us++ds).length=ps.length->BindsTo s fd ⟨us,[]⟩ (ps.zip (us++ds))
theorem tJ.all (h:∀us:List ZO,us.length=ps.length->aaZ fd ⟨us,[]⟩=pure (ps.zip us)):tJ K fd ps []:=λs us _ hl=>by
 rw[aaF] at hl ⊢;exact .of_eq (h us hl)
def yx (CX:CXT)(X:Cx)(E:XK):Prop:=∀(pins:List (Z5×Obj)) (σ:St) (H:Hp) (s:Z8) (e:ZO) (s':Z8),aJ X pins σ H s->CX X.stack H s E e s'->X.xe e s'
section
variable {CX:CXT}{C:Z5}{sp:Sp}{JC:List V}{ds:List ZO}{E:XK}{m:Str}{p gI:Pos}{e o:abE}{es:List abE}{ta:TE}{t:TA}
theorem Ke {Q:VK}{us:List ZO}(F:kW X.prog X.w X.K X.mg X.base CX k f fd ps sp)(hr:fX k X.A)(hb:tJ X.K fd ps ds)(hd:bh JC ds)(hx:yx CX X E)(I:aJ X pins σ H s)(r:bh vs us)(h:sp (vs++JC) H Q E):aac (aar X.prog X.w) X.A (call (.ref f) us) (EP X pins σ Q) X.xe s:=by
 have r2:bh (vs++JC) (us++ds):=r.append hd;have hl:(us++ds).length=ps.length:=by rw[←r2.length];exact F.len _ _ _ _ h
 refine wpAny_call (aeL (F.run X.A X.stack s H ⟨us,[]⟩ (us++ds) (vs++JC) Q E hr I.env0 (hb s us I.kIn hl) r2 h) λr s' hq=>?_);cases r with
 |error e=>exact hx pins σ H s e s' I hq
 |ok fl=>
  cases fl with
  |ret u=>exact I.after hq
  |next=>exact ac3 hq
  |brk=>exact ac3 hq
  |cont=>exact ac3 hq
theorem Gn (F:kW X.prog X.w X.K X.mg X.base CX k f fd ps sp)(hr:fX k X.A)(hg:Gl X x)(hm:X.mg x=some (.ref f))(hk:aah X.K (.ref f)=true)(hb:tJ X.K fd ps ds)(hd:bh JC ds)(hx:yx CX X E)
  (ha:PA X (e::es) t) (zQ:(x==("__debug__":Str))=false:=by decide) (he:aaf (e::es) X.env=(false,ade e X.env)::aaf es X.env:=by rfl) (sH:(acq pos (aaf es X.env)).any (·.1)=false:=by rfl) :
  PE X (.Call (.Name x p) (e::es) [] pos) (H_ sp JC E t):=by
 intro pins s σ H Q I h;refine aeM (zX I hg hm ?_ zQ);refine PySem.W.callWith_K (h₀:=X.base) I.ok.mod.kin hk (eG (ha pos pins s σ H _ I h) λus s1 ⟨vs,H1,I1,r,q⟩=>⟨I1.kIn,?_⟩) he sH;exact Ke F hr hb hd hx I1 r q
structure Mk (K:ZQ)(C f:Z5):Prop where
 makes:PySem.W.makesIn K C=true
 init:ad4 K (.ref C) "__init__"=some (some (.ref f))
 fn:PySem.W.isFn K (.ref f)=true
 kp:aah K (.ref C)=true
end
section
variable {CX:CXT}{C:Z5}{ks:List Str}{sp:Sp}{E:XK}{m:Str}{p gI kpos:Pos}{e o:abE}{es:List abE}{kws:List aeb}{ta:TE}{t tk:TA}{nm:Option Str}
structure Qp (K:ZQ)(fd:aeh)(ps ks:List Str)(g:List ZO->List ZO->List ZO)(gV:List V->List V->List V):Prop where
 to:∀(s:Z8) (us ws:List ZO),K.In s.heap->(g us ws).length=ps.length->BindsTo s fd ⟨us,ks.zip ws⟩ (ps.zip (g us ws))
 rel:∀{vs:List V} {us:List ZO} {zs:List V} {ws:List ZO},bh vs us->bh zs ws->bh (gV vs zs) (g us ws)
variable {g:List ZO->List ZO->List ZO}{gV:List V->List V->List V}
end
structure aV (N P:List Str)(sc:ae2):Prop where
 kind:sc.kind=.function
 co:sc.isCoroutine=false
 gen:sc.isGenerator=false
 nd:N.Nodup
 pre:N.take P.length=P
 par:∀x∈P,sc.names.lookup x=some .local\/sc.names.lookup x=some .cell
 nofree:∀y∈sc.names,y.2≠.free
theorem tK {abb:Str->Option afc}{x:Str}:∀{binds:List (Str×ZO)} {m:Str->Option ZO},(∀v,(x,v)∉binds)->bindL abb binds m x=m x
 | [],_,_=>rfl
 | (n,v)::r,m,h=>by
  unfold bindL;rw[tK λw hw=>h w (ZX _ hw)];split
  ·have:x≠n:=by rintro rfl;exact h v ZS
   simp[this]
  ·rfl
theorem tL {abb:Str->Option afc}{x:Str}:∀{binds:List (Str×ZO)} {m:Str->Option ZO},(∀v,(x,v)∉binds)->bindC abb binds m x=m x
 | [],_,_=>rfl
 | (n,v)::r,m,h=>by
  unfold bindC;rw[tL λw hw=>h w (ZX _ hw)];split
  ·rfl
  ·have:x≠n:=by rintro rfl;exact h v ZS
   simp[this]
theorem tM {abb:Str->Option afc}{x:Str}{v:ZO}:∀{P:List Str} {vs:List ZO} {i:Nat} {m:Str->Option ZO},P.Nodup->P[i]? = some x->vs[i]? = some v->abb x=some .local->
  bindL abb (P.zip vs) m x=some v
 | [],_,_,_,_,h,_,_=>by simp at h
 |_::_,[],_,_,_,_,h,_=>by simp at h
 |p::P,w::vs,0,m,nd,h1,h2,hk=>by
  simp at h1 h2;subst h1;subst h2;show bindL abb ((p,w)::P.zip vs) m p=_;unfold bindL;rw[tK λv hv=>(aa4.mp nd).1 (List.of_mem_zip hv).1,hV hk];simp
 |p::P,w::vs,i+1,m,nd,h1,h2,hk=>by
  show bindL abb ((p,w)::P.zip vs) m x=_;unfold bindL;exact tM (i:=i) (aa4.mp nd).2 (by simpa using h1) (by simpa using h2) hk
theorem tN {abb:Str->Option afc}{x:Str}{v:ZO}:∀{P:List Str} {vs:List ZO} {i:Nat} {m:Str->Option ZO},P.Nodup->P[i]? = some x->vs[i]? = some v->abb x≠some .local->
  bindC abb (P.zip vs) m x=some v
 | [],_,_,_,_,h,_,_=>by simp at h
 |_::_,[],_,_,_,_,h,_=>by simp at h
 |p::P,w::vs,0,m,nd,h1,h2,hk=>by
  simp at h1 h2;subst h1;subst h2;show bindC abb ((p,w)::P.zip vs) m p=_;unfold bindC;rw[tL λv hv=>(aa4.mp nd).1 (List.of_mem_zip hv).1,hU hk];simp
 |p::P,w::vs,i+1,m,nd,h1,h2,hk=>by
  show bindC abb ((p,w)::P.zip vs) m x=_;unfold bindC;exact tN (i:=i) (aa4.mp nd).2 (by simpa using h1) (by simpa using h2) hk
noncomputable def adD (N:List Str)(vs:List V):St:=vs.map some++ad5 (N.length-vs.length) none
noncomputable def o3 (CX:CXT)(P:ack)(w:acJ)(K:ZQ)(mg:Str->Option ZO)(base:acj)(N:List Str)(qual:Str)(scope:ae2)(f:Z5)(cd:ZO)(A:aaD)(outer:List Env)(s:Z8)(H:Hp)(E:XK):Cx where
 prog:=P
 w:=w
 K:=K
 mg:=mg
 base:=base
 A:=A.deeper (aeN qual scope s.heap.objs.size f cd)
 N:=N
 s₀:=s
 H₀:=H
 env:=aeN qual scope s.heap.objs.size f cd
 outer:=outer
 stack:=aeN qual scope s.heap.objs.size f cd::outer
 ex:=[]
 calm:=true
 fn:=λ_=>true
 pn:=[]
 xe:=λe s'=>aac (aar P w) (A.deeper (aeN qual scope s.heap.objs.size f cd)) (leaving (aeN qual scope s.heap.objs.size f cd) e) (λ_ LJ=>CX outer H s E e LJ) (λe' LJ=>CX outer H s E e' LJ) s'
theorem wC {sc:ae2}(h:sc.names.lookup x=some .cell):∃c,(cellsFrom n sc.names []).lookup x=some c:=by
 have q:=PySem.W.cellsFrom_some sc.names n [] (.inl h);exact Option.isSome_iff_exists.mp q
theorem BC {CX:CXT}{base:acj}{cd:ZO}{A:aaD}{outer:List Env}{s1:Z8}{E:XK}{us:List ZO}(S:aV N ps scope)(hd:A.handled=none)(e0:Gk P w K mg base A outer s H)(hl:vs.length=ps.length)(r:bh vs us)(x:InCallC s s.heap.objs.size (bindL (aeN qual scope s.heap.objs.size f cd).kindOf (ps.zip us) λ_=>none) (cellsFrom (s.heap.objs.size+1) scope.names []) (bindC (aeN qual scope s.heap.objs.size f cd).kindOf (ps.zip us) λ_=>none) s1) :
  aJ (o3 CX P w K mg base N qual scope f cd A outer s H E) [] (adD N vs) H s1:=by
 have sH:ps.length<=N.length:=by have:=congrArg List.length S.pre;rw[aaM] at this;lia
 obtain⟨h1,tk,rfl,hk⟩:=x.done;have Oq:∀b:Z5,b∉(o3 CX P w K mg base N qual scope f cd A outer s H E).ex:=λb z=>absurd (show b∈([]:List Z5) from z) (by simp);refine⟨⟨e0.mod,S.kind,rfl,rfl,Z2 _,λy z c h1 h2=>?_,λy hy=>?_,λy c _ h=>?_,λ_=>hd,Around.frames_deeper e0.frames,.inr ⟨rfl,rfl⟩,λb z=>absurd z (Oq b),e0.bs,e0.bsz,λb _ _=>Oq b,λb z=>absurd z (Oq b),e0.funs,e0.frf⟩,
  rfl,e0.bare,Un.kept hk,⟨_,x.toInCall.ns,λi y v h1 h2 h3=>?_⟩,λy c h=>⟨_,x.cell y c h⟩,e0.hok.fresh (Z2 _),λy c h=>?_,λp hp=>absurd (show p∈([]:List (Z5×Obj)) from hp) (by simp),e0.hok.kept hk,?_⟩
 ·exact name_of_addr x.apart (aa0 h1) (aa0 h2)
 ·have hy:scope.names.lookup y=some .cell\/scope.names.lookup y=some .free:=hy;rcases hy with hy|hy
  ·exact wC hy
  ·exact absurd rfl (S.nofree _ (aa0 hy))
 ·exact Nat.le_of_lt (x.above y c (aa0 h))
 ·have hi:i<vs.length:=by
   unfold adD at h2;by_cases hi:i<vs.length
   ·exact hi
   ·rw[aaQ (by simpa using hi)] at h2;rw[List.getElem?_replicate] at h2;split at h2<;>cases h2
  have ha:vs[i]? = some v:=by
   unfold adD at h2;rw[aa7 (by simpa using hi),aay] at h2;cases e:vs[i]? with
   |none=>rw[e] at h2;cases h2
   |some a=>rw[e] at h2;cases h2;rfl
  obtain⟨u,hu,rv⟩:=r.get ha;have hp:ps[i]? = some y:=by
   rw[←S.pre,ae5 (by lia)];exact h1
  have WI:ps.Nodup:=by rw[←S.pre];exact S.nd.sublist (List.take_sublist _ _)
  refine⟨u,rv,?_⟩;rcases S.par y (aaV hp) with k|k
  ·exact .inl ⟨k,tM WI hp hu k⟩
  ·obtain⟨c,e⟩:=wC (n:=s.heap.objs.size+1) k;refine .inr ⟨.inl k,c,e,?_⟩;have q:=x.cell y c e;rw[tN WI hp hu (by show scope.names.lookup y≠_;rw[k];decide)] at q;exact q
 ·exact e0.hok.fresh (Nat.le_of_lt (x.above y c (aa0 h)))
 ·unfold adD;show _=N.length;rw[ZZ,ZW,acQ];lia
theorem MG {CX:CXT}{base:acj}{name:Str}{params:Arguments}{dV kV dC pm br ct oc:ZO}{an od:Option Z5}{JD:Array (Option ZO)}{sp:Sp}(lk:K.lookup f=some ⟨oc,od,.func (Z1 name qual params body scope dV kV dC pm an br ct),JD⟩)(sv:aan K br qual=true)(S:aV N ps scope)(len:∀vs H Q E,sp vs H Q E->vs.length=ps.length)(iJ:∀(A:aaD) (outer:List Env) (s:Z8) (H:Hp) (vs:List V) (Q:VK) (E:XK),fX k (A.deeper (aeN qual scope s.heap.objs.size f br))->sp vs H Q E->
   ∃t,sJ (o3 CX P w K mg base N qual scope f br A outer s H E) body t/\t {nx:=λ_ H'=>Q .non H',rt:=Q} (adD N vs) H) :
  kW P w K mg base CX (k+1) f (Z1 name qual params body scope dV kV dC pm an br ct) ps sp:=by
 refine⟨len,λA outer s H args us vs Q E hr e0 hb r JE=>?_⟩;have hl:=len _ _ _ _ JE;have KX:K.In s.heap:=e0.mod.kin.keeps λb o e=>(e0.bs b o e).1;have Xy:s.heap.NoLimit:=e0.mod.nolimit.keeps λb o e=>(e0.bs b o e).1;have Ot:∀y∈ps.zip us,scope.names.lookup y.1=some .local\/(scope.names.lookup y.1=some .cell/\((cellsFrom (s.heap.objs.size+1) scope.names []).lookup y.1).isSome=true):=fun⟨n,v⟩ hy=>by
  rcases S.par n (List.of_mem_zip hy).1 with q|q
  ·exact .inl q
  ·exact .inr ⟨q,PySem.W.cellsFrom_some _ _ _ (.inl q)⟩
 refine codeAny_call_function hr.depth (KX _ _ lk) rfl S.co S.gen rfl (PySem.W.codeRec_of KX sv) (hb _ _ _ _ ?_);refine wpAny_newFunctionEnv_cells S.kind Ot λenv he s1 x=>?_;subst he;refine⟨Xy.keeps x.toInCall.keep,codeAny_func ?_⟩;obtain⟨t,ht,hq⟩:=iJ A outer s H vs Q E (hr.deeper _) JE;have I:aJ (o3 CX P w K mg base N qual scope f br A outer s H E) [] (adD N vs) H s1:=BC S hr.hd e0 hl r x;refine aa6 (ht [] s1 (adD N vs) H _ I hq) (λfl s' hs=>?_) λe s' hs=>hs;have fin:∀{σ':St} {H':Hp} {v:V} {u:ZO},aJ (o3 CX P w K mg base N qual scope f br A outer s H E) [] σ' H' s'->bx v u->Q v H'->CE outer P w H s Q u s' :=
  λ{σ' H' v u} J rv q=>⟨v,H',J.os,J.bare,J.base,J.hok,rv,q⟩
 cases fl with
 |ret u=>
  obtain⟨v,σ',H',J,rv,q⟩:=hs;exact fin J rv q
 |next=>
  obtain⟨σ',H',J,q⟩:=hs;exact fin (v:=V.non) (u:=Value.none) J rfl q
 |brk=>
  obtain⟨_,_,_,q⟩:=hs;exact ac3 q
 |cont=>
  obtain⟨_,_,_,q⟩:=hs;exact ac3 q
end L2
variable {CX:L2.CXT}{sp:L2.Sp}
namespace L2
section
variable {p:Pos}{e:abE}{es:List abE}{t:TA}{id T:String}{r:List V->Hp->VK->Prop}
def Qq (r:List V->Hp->VK->Prop)(t:TA):TE:=λσ H Q=>t σ H λvs H1=>r vs H1 Q
theorem p9 (hc:eU X (.builtin id) r)(hg:Gl X x)(hm:X.mg x=none)(hv:aaY x=some (.builtin id))(ha:PA X (e::es) t)(hn:x≠"__name__":=by decide)(zQ:(x==("__debug__":Str))=false:=by decide)
  (he:aaf (e::es) X.env=(false,ade e X.env)::aaf es X.env:=by rfl) (sH:(acq pos (aaf es X.env)).any (·.1)=false:=by rfl):PE X (.Call (.Name x p) (e::es) [] pos) (Qq r t):=by
 intro pins s σ H Q I h;refine aeM (uQ I hg hm hv ?_ hn zQ);exact PyProof.Rows.callWith_builtin1 (eG (ha pos pins s σ H _ I h) λus s1 ⟨vs,H1,I1,r1,q1⟩=>hc pins s1 σ H1 vs us Q I1 r1 q1) he sH
theorem jg (hc:eU X (.type T) r)(hg:Gl X x)(hm:X.mg x=none)(hv:aaY x=some (.type T))(ha:PA X (e::es) t)(hn:x≠"__name__":=by decide)(zQ:(x==("__debug__":Str))=false:=by decide)
  (he:aaf (e::es) X.env=(false,ade e X.env)::aaf es X.env:=by rfl) (sH:(acq pos (aaf es X.env)).any (·.1)=false:=by rfl):PE X (.Call (.Name x p) (e::es) [] pos) (Qq r t):=by
 intro pins s σ H Q I h;refine aeM (uQ I hg hm hv ?_ hn zQ);exact acP (eG (ha pos pins s σ H _ I h) λus s1 ⟨vs,H1,I1,r1,q1⟩=>hc pins s1 σ H1 vs us Q I1 r1 q1) he sH
end
end L2
namespace HT
noncomputable def lexLt:List Int->List Int->Bool
 | [],[]=>false
 | [],_::_=>true
 |_::_,[]=>false
 |x::xs,y::ys=>if x=y then lexLt xs ys else decide (x<y)
theorem lexLt_cons (x y:Int)(xs ys:List Int):lexLt (x::xs) (y::ys)=if x=y then lexLt xs ys else decide (x<y):=rfl
theorem sL:lexLt [] []=false:=rfl
theorem p_ (y:Int)(ys:List Int):lexLt [] (y::ys)=true:=rfl
theorem qa (x:Int)(xs:List Int):lexLt (x::xs) []=false:=rfl
theorem C4 (A:aaD)(s:Z8)(a:Int)(t:Tok)(c:Int)(u:Tok):∃e,acx A s (.int a t) (.int c u) e/\(e=true↔a=c):=
 ⟨(a==c),aeO a t c u,by simp⟩
theorem C5 (A:aaD)(s:Z8)(a:Int)(t:Tok)(c:Int)(u:Tok)(prog:ack)(w:acJ)(E:ZO->Z8->Prop)(Q:ZO->Z8->Prop)(h:Q (.bool (decide (a<c))) s) :
  aac (aar prog w) A (richCompare .Lt (.int a t) (.int c u)) Q E s:=
 (PyProof.Rows.lt_int h:aac (aar prog w) A (abu .Lt (.int a t) (.int c u)) Q E s)
section
open PySem.SeqAt
open PySem.AutoSeq1 (wpAny_loadPart')
open PySem.MeetsSeq PySem.MeetsSeq2 PySem.MeetsSeq3
theorem sM (l b:Z5)(items jb:Array ZO)(n n2:Nat)(dd JF:Option Z5)(sl F3:Array (Option ZO))(ns ms:List Int)(hi:abW items.toList ns)(hj:abW jb.toList ms) :
  Meets (Builtin.«tuple.__lt__» ⟨[.ref l,.ref b],[]⟩)
   (λ_ R s=>s.heap.get? l=some {cls:=.type "tuple",dict:=dd,data:=.seq items n,slots:=sl}/\s.heap.get? b=some {cls:=.type "tuple",dict:=JF,data:=.seq jb n2,slots:=F3} /\
    R (.ok (.ret (.bool (lexLt ns ms)))) s):=
 .of_wp λprog w A R s h=>by
  obtain⟨hp,g,d,tk,os⟩:=s;obtain⟨hl,hb,h⟩:=h;have f2:=AutoSeq1.sub_tuple_tuple;have z1:items.size=ns.length:=by rw[←hi.length];simp
  have z2:jb.size=ms.length:=by rw[←hj.length];simp
  wp_walk using wpAny_loadPart' hl,wpAny_loadPart' hb,aec _ (λrest b s'=>b.1=none/\s'=⟨hp,g,d,tk,os⟩/\∃(vs ws:List ZO) (nY ms':List Int),rest=vs.zip ws/\
   abW vs nY/\abW ws ms'/\nY.length+jb.size=ms'.length+items.size/\R (.ok (.ret (.bool (lexLt nY ms')))) ⟨hp,g,d,tk,os⟩) _
  case turn=>
   rintro⟨y,x⟩ rest b s' ⟨tF,rfl,vs,ws,nY,ms',hz,hvi,hwi,dw,hR⟩;cases hvi with
   |nil=>rw[List.zip_nil_left] at hz;cases hz
   |cons a t hvi'=>
    cases hwi with
    |nil=>rw[List.zip_nil_right] at hz;cases hz
    |cons c u hwi'=>
     rw[adE] at hz;injection hz with hyx hrest
     injection hyx with hy hx
     subst hy hx;rw[lexLt_cons] at hR;simp only[ZT] at dw;obtain⟨e,he,hiff⟩:=C4 A.in1 ⟨hp,g,d,tk,os⟩ a t c u;refine ZL (he prog w _ _ ?_);cases e with
     |true=>
      rw[hV (hiff.mp rfl)] at hR;wp_walk;exact⟨rfl,rfl,_,_,_,_,hrest,hvi',hwi',by lia,hR⟩
     |false=>
      rw[hU (λq=>absurd (hiff.mpr q) ZV)] at hR;have Xz:=C5 A.in1 ⟨hp,g,d,tk,os⟩ a t c u prog w;wp_walk using Xz;exact⟨_,rfl,by simpa using hR⟩
  case fin=>
   rintro⟨b1,b2⟩ s' ⟨tF,rfl,vs,ws,nY,ms',hz,hvi,hwi,dw,hR⟩;simp only at tF;subst tF;have hv:lexLt nY ms'=decide (items.size<jb.size):=by
    cases hvi with
    |nil=>
     cases hwi with
     |nil=>
      simp only[ab4] at dw;rw[sL];exact (hJ (by lia)).symm
     |cons c u hw=>
      simp only[ab4,ZT] at dw;rw[p_];exact (hG (by lia)).symm
    |cons a t hv=>
     cases hwi with
     |nil=>
      simp only[ab4,ZT] at dw;rw[qa];exact (hJ (by lia)).symm
     |cons c u hw=>
      rw[adE] at hz;cases hz
   rw[hv] at hR;wp_walk;exact⟨_,rfl,by simpa [Builtin.Tuple.tupleCompareSizes] using hR⟩
  case h=>
   exact⟨rfl,rfl,items.toList,jb.toList,ns,ms,rfl,hi,hj,by lia,h⟩
end
section
variable {A:aaD}
theorem lt_tupInts {l:Z5}{jb:Array ZO}{ms:List Int}(hl:IsTup s.heap l items)(hb:IsTup s.heap b jb)(hi:abW items.toList ns)(hj:abW jb.toList ms)(hu:A.units<abH)(h:Q (.bool (lexLt ns ms)) s):aac (aar prog w) A (abu .Lt (.ref l) (.ref b)) Q E s:=by
 obtain⟨⟨cls,dd,data,sl⟩,ho,hc,n,hd⟩:=id hl;obtain⟨⟨cls2,JF,data2,F3⟩,ho2,hc2,n2,zV⟩:=id hb;simp only at hc hd hc2 zV;subst hc hd hc2 zV;exact richCompare_meets_room (op:=.Lt) ⟨_,ho,rfl⟩ ⟨_,ho2,rfl⟩ PySem.F.slot_tuple_lt PySem.F.entry_tuple_lt (PySem.F.args_tuple_lt_2 _ _) (sM l b items jb n n2 dd JF sl F3 ns ms hi hj)
  ⟨ho,ho2,show Value.bool (lexLt ns ms)≠Value.notImplemented/\Q (.bool (lexLt ns ms)) s from ⟨(λx=>nomatch x),h⟩⟩ hu
theorem cat_tup {t:Z5}{vs ws:List ZO}(ht:IsTup s.heap t vs.toArray)(hb:IsTup s.heap b ws.toArray)(hv:vs≠[])(h1:ws=[]->Q (.ref t) s)(h2:ws≠[]->Q (.ref s.heap.objs.size) {s with heap:=s.heap.push {cls:=.type "tuple",data:=.seq (vs++ws).toArray}})(hsz:vs.length+ws.length<=ZY):aac (aar prog w) A (adj .Add (.ref t) (.ref b)) Q E s:=by
 obtain⟨⟨cls,dd,data,sl⟩,ho,hc,n,hd⟩:=id ht;obtain⟨⟨cls2,JF,data2,F3⟩,ho2,hc2,n2,zV⟩:=id hb;simp only at hc hd hc2 zV;subst hc hd hc2 zV;have e:vs.toArray++ws.toArray=(vs++ws).toArray:=by simp
 by_cases hw:ws=[]
 ·exact concat_meets ⟨_,ho,rfl⟩ ⟨_,ho2,rfl⟩ noFill_tuple_add seq_tuple_add adS adF (ady _ _)
   (tuple_addW1 t b vs.toArray ws.toArray n n2 dd JF sl F3 (by simpa using hv) (by simp[hw])) ⟨ho,ho2,h1 hw⟩
 ·refine concat_meets ⟨_,ho,rfl⟩ ⟨_,ho2,rfl⟩ noFill_tuple_add seq_tuple_add adS adF (ady _ _)
   (tuple_addW2 t b vs.toArray ws.toArray n n2 dd JF sl F3 (by simpa using hv) (by simpa using hw) (by rw[ZU,ZU];exact hsz)) ⟨ho,ho2,?_⟩
  rw[e];exact h2 hw
noncomputable def sIx (n d:Nat):Option Int->Nat
 |none=>d
 |some v=>if v<0 then (v+(n:Int)).toNat else min v.toNat n
theorem Kg (n d:Nat)(hd:d<=n)(o:Option Int):sIx n d o<=n:=by
 cases o with
 |none=>exact hd
 |some v=>
  show (if v<0 then (v+(n:Int)).toNat else min v.toNat n)<=n;by_cases hv:v<0
  ·rw[hV hv];lia
  ·rw[hU hv];exact Nat.min_le_right _ _
theorem Aa (v:Int)(n d:Nat):(if v<0 then max (v+(n:Int)) 0 else min v (n:Int))=((sIx n d (some v):Nat):Int):=by
 show (if v<0 then max (v+(n:Int)) 0 else min v (n:Int))=(((if v<0 then (v+(n:Int)).toNat else min v.toNat n):Nat):Int);by_cases hv:v<0
 ·simp only[hV hv];lia
 ·simp only[hU hv];lia
theorem yy (lo hi:Option Int)(n:Nat):adf lo hi 1 (n:Int)=(((sIx n 0 lo:Nat):Int),((sIx n n hi:Nat):Int)):=by
 have h1:¬((1:Int)<0):=by lia
 unfold adf;simp only[h1,if_false];refine Prod.ext ?_ ?_
 ·cases lo with
  |none=>rfl
  |some v=>exact Aa v n 0
 ·cases hi with
  |none=>rfl
  |some v=>exact Aa v n n
theorem yz (i j:Nat):acm (i:Int) (j:Int) 1=j-i:=by
 unfold acm;have h1:(1:Int)>0:=by lia
 simp only[h1,if_true,Int.ediv_one];split<;>lia
theorem qb {v:ZO}{o:Option Int}{Q:Option Int->Z8->Prop}(p:IsPart v o)(h:Q o s):aac (aar prog w) A (Builtin.Slice.slicePartIndex v) Q E s:=by
 cases p with
 |none=>exact slicePart_none h
 |int i t=>exact slicePart_int h
theorem jh {sl:Z5}{vl vu:ZO}{lo:Option Int}{Q:Int×Int×Nat->Z8->Prop}(hs:s.heap.IsSliceOf sl vl vu .none)(pl:IsPart vl lo)(pu:IsPart vu hi)(h:Q (((sIx n 0 lo:Nat):Int),1,sIx n n hi-sIx n 0 lo) s):aac (aar prog w) A (aeB (.ref sl) (pure (n:Int))) Q E s:=by
 obtain⟨os,hos,hcs,hds⟩:=id hs;unfold aeB Builtin.Slice.sliceFields;refine ZL (ZL (abw hos hds (x:=vl) rfl (ZL (abw hos hds (x:=vu) rfl (ZL (abw hos hds (x:=.none) rfl (ZN ?_)))))));refine ZL (slicePart_none ?_);show aac _ _ (if ((1:Int)==0)=true then _ else _) _ _ s;rw[hU (by decide)];refine ZL (qb pl (ZL (qb pu (ZL (ZN ?_)))));show aac _ _ (match adf lo hi 1 (n:Int) with|(lo,hi)=>pure (lo,(1:Int),acm lo hi 1)) _ _ s;rw[yy lo hi n];show aac _ _ (pure (((sIx n 0 lo:Nat):Int),(1:Int),acm ((sIx n 0 lo:Nat):Int) ((sIx n n hi:Nat):Int) 1)) _ _ s;rw[yz];exact ZN h
theorem C6 (xs:Array ZO)(i k:Nat):((aaA k).filterMap λ(m:Nat)=>xs[((i:Int)+(m:Int)*1).toNat]?).toArray=((xs.toList.drop i).take k).toArray:=by
 have e:(λ(m:Nat)=>xs[((i:Int)+(m:Int)*1).toNat]?)=λm=>xs[i+m]? := by
  funext m;have:((i:Int)+(m:Int)*1).toNat=i+m:=by lia
  rw[this]
 rw[e];have:=pick_run xs i k;rw[List.filterMap_map] at this;have e2:((λx=>xs[x]?)∘λx=>i+x)=λm=>xs[i+m]? := rfl;rw[e2] at this;rw[this]
theorem getItem_tuple_cut {t sl:Z5}{vl vu:ZO}{lo:Option Int}(ht:IsTup s.heap t items)(hs:s.heap.IsSliceOf sl vl vu .none)(pl:IsPart vl lo)(pu:IsPart vu hi)(hw:¬(sIx items.size 0 lo=0/\sIx items.size items.size hi=items.size))(h:Q (.ref s.heap.objs.size) {s with heap:=s.heap.push {cls:=.type "tuple",data:=.seq ((items.toList.drop (sIx items.size 0 lo)).take (sIx items.size items.size hi-sIx items.size 0 lo)).toArray}})(hsz:items.size<=ZY):aac (aar prog w) A (aes (.ref t) (.ref sl)) Q E s:=by
 have Bn:sizeOk (.seq ((items.toList.drop (sIx items.size 0 lo)).take (sIx items.size items.size hi-sIx items.size 0 lo)).toArray):=by
  show ((items.toList.drop (sIx items.size 0 lo)).take (sIx items.size items.size hi-sIx items.size 0 lo)).toArray.size<=ZY;rw[ZU,aaM,abf,ZR];lia
 have hj:sIx items.size items.size hi<=items.size:=Kg _ _ (Z2 _) hi;obtain⟨os,hos,hcs,hds⟩:=id hs;have Rn:s.TypeIs (.ref sl) "slice":=⟨os,hos,hcs⟩;unfold aes
 try with_reducible refine abi ?_
 first|refine ZL (ZN ?_)|skip
 refine ZL (wpAny_sequenceKey ht.typeIs (by decide) ?_);refine ZL (aaK (name:=abN "__getitem__") ht.typeIs abI
  (aaH abI ht.typeIs entry_tuple_getitem ?_ (args_tuple_getitem _ _)))
 show aac _ _ (ac9 (.ref t) >>= _) _ _ s;refine ZL (tupleItemsOf_ ht ?_);refine ZL (aeP Rn ?_);rw[hV (by decide)];refine ZL (jh hs pl pu ?_);have Ro:¬((((sIx items.size 0 lo:Nat):Int)==0&&(1:Int)==1&&(sIx items.size items.size hi-sIx items.size 0 lo)==items.size)=true):=by
  intro q;rw[aae,aae] at q;have q1:((sIx items.size 0 lo:Nat):Int)=0:=eq_of_beq q.1.1;have q2:sIx items.size items.size hi-sIx items.size 0 lo=items.size:=eq_of_beq q.2;exact hw ⟨by lia,by lia⟩
 show aac _ _ (if (((sIx items.size 0 lo:Nat):Int)==0&&(1:Int)==1&&(sIx items.size items.size hi-sIx items.size 0 lo)==items.size)=true then _ else _) _ _ s;rw[hU Ro,C6]
 first
  |exact ZL (m:=acy _) (aaG (ZN ⟨_,rfl,ZN h⟩) Bn)
  |exact ZL (m:=acy _) (aaG (ZL (ZN (ZN ⟨_,rfl,ZN h⟩))) Bn)
  |exact ZL (ZL (m:=acy _) (aaG (ZN (ZN ⟨_,rfl,ZN h⟩)) Bn))
  |exact ZL (ZL (m:=acy _) (aaG (ZN ⟨_,rfl,ZN h⟩) Bn))
end
end HT
namespace L2
abbrev TO:=St->Hp->(Option Int->Hp->Prop)->Prop
def PO (X:Cx)(e:Option abE)(t:TO):Prop:=
 ∀(pins:List (Z5×Obj)) (s:Z8) (σ:St) (H:Hp) (Q:Option Int->Hp->Prop),aJ X pins σ H s->t σ H Q->
  aac (aar X.prog X.w) X.A (evalPart e X.env) (λu s'=>∃o H',aJ X pins σ H' s'/\IsPart u o/\Q o H') X.xe s
def Gp:TO:=λ_ H Q=>Q none H
def MJ (t:TE):TO:=λσ H Q=>t σ H λx H1=>∃i,x=.int i/\Q (some i) H1
theorem dZ:∀{us:List ZO},bh (ns.map V.int) us->abW us ns:=by
 induction ns with
 |nil=>intro us r;rw[abO] at r;cases r;exact .nil
 |cons n ns ih=>
  intro us r;rw[Z_] at r;cases r with
  |cons r1 r2=>
   obtain⟨t,e⟩:=r1;subst e;exact .cons n t (ih r2)
section
variable {e:abE}{lo hi:Option abE}{tl th:TO}{p2:Pos}
theorem Gq:PO X none Gp:=by
 intro pins s σ H Q I h;rw[evalPart_none];exact ZN ⟨none,H,I,.none,h⟩
theorem Gs (h:PE X e te):PO X (some e) (MJ te):=by
 intro pins s σ H Q I hw;rw[evalPart_some];refine eG (h pins s σ H _ I hw) λu s1 ⟨x,H1,I1,r1,q1⟩=>?_;obtain⟨i,rfl,q⟩:=q1;obtain⟨t,rfl⟩:=r1;exact⟨some i,H1,I1,.int i t,q⟩
def C7 (X:Cx)(r:V->Option Int->Option Int->Hp->VK->Prop):Prop:=
 ∀(pins:List (Z5×Obj)) (s:Z8) (σ:St) (H:Hp) (x:V) (v vl vu:ZO) (lo hi:Option Int) (sl:Z5) (Q:VK),aJ X pins σ H s->bx x v->s.heap.IsSliceOf sl vl vu .none->IsPart vl lo->IsPart vu hi->r x lo hi H Q->
  ∃T id,typeLookup (.type T) "__getitem__"=pure (some (.builtin id))/\s.TypeIs v T/\aac (aar X.prog X.w) X.A (aes v (.ref sl)) (EP X pins σ Q) X.xe s
theorem C7.or {r r':V->Option Int->Option Int->Hp->VK->Prop}(h:C7 X r)(h':C7 X r'):C7 X (λx lo hi H Q=>r x lo hi H Q\/r' x lo hi H Q):=by
 intro pins s σ H x v vl vu lo hi sl Q I rx hs pl pu q;rcases q with q|q
 ·exact h pins s σ H x v vl vu lo hi sl Q I rx hs pl pu q
 ·exact h' pins s σ H x v vl vu lo hi sl Q I rx hs pl pu q
def Xl (r:V->Option Int->Option Int->Hp->VK->Prop)(te:TE)(tl th:TO):TE:=λσ H Q=>te σ H λx H1=>tl σ H1 λl H2=>th σ H2 λu H3=>r x l u H3 Q
theorem C8 {r:V->Option Int->Option Int->Hp->VK->Prop}(hr:C7 X r)(he:PE X e te)(hl:PO X lo tl)(hu:PO X hi th):PE X (.Subscript e (.Slice lo hi none p2) pos) (Xl r te tl th):=by
 intro pins s σ H Q I h;refine Subscript_ (eG (he pins s σ H _ I h) λv s1 ⟨x,H1,I1,r1,q1⟩=>?_);refine wpAny_Slice (eG (hl pins s1 σ H1 _ I1 q1) λvl s2 ⟨l,H2,I2,pl,q2⟩=>eG (hu pins s2 σ H2 _ I2 q2) λvu s3 ⟨u,H3,I3,pu,q3⟩=>?_);rw[evalPart_none];refine ZN ?_;have I4:aJ X pins σ H3 {s3 with heap:=s3.heap.push {cls:=.type "slice",data:=.fields #[vl,vu,.none]}}:=I3.kept (t':=s3.toks) λb ob q=>ZP _ q;obtain⟨T,id,hT,ht,hg⟩:=hr pins {s3 with heap:=s3.heap.push {cls:=.type "slice",data:=.fields #[vl,vu,.none]}} σ H3 x v vl vu l u s3.heap.objs.size Q I4 r1 (Heap.IsSliceOf.new ..) pl pu q3;show aac (aar X.prog X.w) X.A (subscriptTail e (.Slice lo hi none p2) v (.ref s3.heap.objs.size)) (EP X pins σ Q) X.xe {s3 with heap:=s3.heap.push {cls:=.type "slice",data:=.fields #[vl,vu,.none]}};exact tail_any (ops:=[.ref s3.heap.objs.size,v]) ht hT hg (by with_unfolding_all rfl)
noncomputable def qc (xs:List V)(lo hi:Option Int):List V:=(xs.drop (HT.sIx xs.length 0 lo)).take (HT.sIx xs.length xs.length hi-HT.sIx xs.length 0 lo)
theorem n9 (xs:List V)(lo hi:Option Int):(qc xs lo hi).length<=xs.length:=by
 unfold qc;rw[aaM,abf];lia
def MK (K:ZQ):V->Option Int->Option Int->Hp->VK->Prop:=λx lo hi H Q=>∃a xs,x=.ref a/\gz K H a xs/\
 ¬(HT.sIx xs.length 0 lo=0/\HT.sIx xs.length xs.length hi=xs.length)/\∀p,H p=none->Q (.ref p) (c_ H p (.tup (qc xs lo hi)))
theorem Kh:C7 X (MK X.K):=by
 intro pins s σ H x v vl vu lo hi sl Q I rx hs pl pu h;obtain⟨a,xs,rfl,hx,hw,q⟩:=h;cases rx;obtain⟨its,r,ht,hz⟩:=I.tuple hx;have dw:its.toArray.size=xs.length:=by rw[ZU];exact r.length.symm
 refine⟨"tuple",_,PyProof.Rows.slot_tuple_getitem.lookup,ht.typeIs,?_⟩;refine HT.getItem_tuple_cut ht hs pl pu (by rw[dw];exact hw) ?_ (by rw[dw];exact hz);rw[dw];refine⟨.ref s.heap.objs.size,_,I.laid (t':=s.toks) (o:=.tup (qc xs lo hi)) (λb ob q=>ZP _ q) (Z2 _) ?_,rfl,q _ (I.hok.fresh (Z2 _))⟩;exact⟨aaT (n9 xs lo hi) hz,_,(r.drop (HT.sIx xs.length 0 lo)).take (HT.sIx xs.length xs.length hi-HT.sIx xs.length 0 lo),IsTup.new _ _,_,Z3 _ rfl⟩
def ML (K:ZQ):R2:=λx y H Q=>∃a b xs ys,x=.ref a/\y=.ref b/\gz K H a xs/\gz K H b ys/\xs≠[]/\xs.length+ys.length<=ZY/\
 (ys=[]->Q (.ref a) H)/\(ys≠[]->∀p,H p=none->Q (.ref p) (c_ H p (.tup (xs++ys))))
theorem bh.nil_iff {us:List ZO}(r:bh xs us):us=[]↔xs=[]:=by
 cases r with
 |nil=>simp
 |cons _ _=>simp
theorem Gu:jQ X (adj .Add) (ML X.K):=by
 intro pins s σ H x y v u Q I rx ry h;obtain⟨a,b,xs,ys,rfl,rfl,ha,hb,hx,hz,q1,q2⟩:=h;cases rx;cases ry;obtain⟨its,r1,p1,_⟩:=I.tuple ha;obtain⟨its2,r2,p2,_⟩:=I.tuple hb;refine HT.cat_tup p1 p2 (λz=>hx (r1.nil_iff.mp z)) (λz=>⟨.ref a,H,I,rfl,q1 (r2.nil_iff.mp z)⟩) (λz=>?_) (by rw[←r1.length,←r2.length];exact hz);refine⟨.ref s.heap.objs.size,_,I.laid (t':=s.toks) (o:=.tup (xs++ys)) (λb ob q=>ZP _ q) (Z2 _) ?_,rfl,q2 (λw=>z (r2.nil_iff.mpr w)) _ (I.hok.fresh (Z2 _))⟩;exact⟨by rw[ZZ];exact hz,_,r1.append r2,IsTup.new _ _,_,Z3 _ rfl⟩
end
end L2
namespace L2
noncomputable def CD (n:Nat)(i:Int):Option Nat:=if 0<=i then (if i<n then some i.toNat else none) else if -(n:Int)<=i then some (i+n).toNat else none
noncomputable def m_ {α:Type}(xs:List α)(i:Int):Option α:=(CD xs.length i).bind λj=>xs[j]?
theorem Ab {i:Int}(h:CD n i=some j):ae6 i n=some j/\j<n/\ -(n:Int)<=i/\i<n:=by
 unfold CD at h;by_cases h0:0<=i
 ·rw[hV h0] at h;by_cases h1:i<n
  ·rw[hV h1] at h;have e:i.toNat=j:=aaj h;exact⟨by rw[seqIndex_of h0 h1,e],by lia,by lia,h1⟩
  ·rw[hU h1] at h;cases h
 ·rw[hU h0] at h;by_cases h1 : -(n:Int)<=i
  ·rw[hV h1] at h;have e:(i+n).toNat=j:=aaj h;exact⟨by rw[seqIndex_neg (by lia) h1,e],by lia,h1,by lia⟩
  ·rw[hU h1] at h;cases h
theorem uS {α:Type}{xs:List α}{i:Int}{v:α}(h:m_ xs i=some v):∃j,ae6 i xs.length=some j/\xs[j]? = some v/\j<xs.length/\ -(xs.length:Int)<=i/\i<xs.length:=by
 unfold m_ at h;cases e:CD xs.length i with
 |none=>rw[e] at h;cases h
 |some j=>
  rw[e] at h;obtain⟨h1,h2,h3,h4⟩:=Ab e;exact⟨j,h1,h,h2,h3,h4⟩
def Ac (b:abE):Prop:=∀o i,subscripted b false o i=operate [o,i] (aes o i)
def F0 (X:Cx)(r:R2):Prop:=
 ∀(value slice:abE) (pins:List (Z5×Obj)) (s:Z8) (σ:St) (H:Hp) (x y:V) (v u:ZO) (Q:VK),aJ X pins σ H s->bx x v->bx y u->r x y H Q->
  subscripted slice false v u=operate [v,u] (aes v u)->aac (aar X.prog X.w) X.A (subscriptTail value slice v u) (EP X pins σ Q) X.xe s
def Ia (X:Cx)(id:String)(r:V->List V->Hp->VK->Prop):Prop:=
 ∀(pins:List (Z5×Obj)) (s:Z8) (σ:St) (H:Hp) (x:V) (xs:List V) (v:ZO) (us:List ZO) (Q:VK),aJ X pins σ H s->bx x v->bh xs us->r x xs H Q->
  aac (aar X.prog X.w) X.A (call (.builtin id) (v::us)) (EP X pins σ Q) X.xe s
section
variable {a b:abE}{ta tb:TE}
theorem F0.or (h:F0 X r)(h':F0 X r'):F0 X (λx y H Q=>r x y H Q\/r' x y H Q):=by
 intro value slice pins s σ H x y v u Q I rx ry q hs;rcases q with q|q
 ·exact h value slice pins s σ H x y v u Q I rx ry q hs
 ·exact h' value slice pins s σ H x y v u Q I rx ry q hs
theorem Ia.or {id:String}{r r':V->List V->Hp->VK->Prop}(h:Ia X id r)(h':Ia X id r'):Ia X id (λx xs H Q=>r x xs H Q\/r' x xs H Q):=by
 intro pins s σ H x xs v us Q I rx rs q;rcases q with q|q
 ·exact h pins s σ H x xs v us Q I rx rs q
 ·exact h' pins s σ H x xs v us Q I rx rs q
theorem MM (hr:F0 X r)(ha:PE X a ta)(hb:PE X b tb)(hs:Ac b):PE X (.Subscript a b pos) (Mz r ta tb):=by
 intro pins s σ H Q I h;exact Subscript_ (Kb ha hb I h λv u s2 x y H2 I2 rx ry q=>hr a b pins s2 σ H2 x y v u Q I2 rx ry q (hs _ _))
def MN (K:ZQ):R2:=λx y H Q=>∃p xs i v,x=.ref p/\y=.int i/\fS K H p xs/\m_ xs i=some v/\Q v H
def MO (K:ZQ):R2:=λx y H Q=>∃p xs i v,x=.ref p/\y=.int i/\gz K H p xs/\m_ xs i=some v/\Q v H
def MP:R2:=λx y H Q=>∃z i c,x=.str z/\y=.int i/\z.length<=ZY/\m_ z.cps.toList i=some c/\Q (.str ⟨#[c]⟩) H
theorem Gv:F0 X (MN X.K):=by
 intro value slice pins s σ H x y v u Q I rx ry h hs;obtain⟨p,xs,i,z,rfl,rfl,hq,he,q⟩:=h;cases rx;obtain⟨t,rfl⟩:=ry;obtain⟨its,r,pl,hz⟩:=I.list hq;obtain⟨j,h1,h2,h3,h4,h5⟩:=uS he;obtain⟨w,ew,zS⟩:=r.get h2;have hl:=r.length;have hn:=m9;have fin:EP X pins σ Q w s:=⟨z,H,I,zS,q⟩;by_cases h0:0<=i
 ·have hj:i.toNat=j:=by
   rw[seqIndex_of h0 h5] at h1;exact aaj h1
  exact item_listR pl.isList h0 (by lia) (by rw[hj];simpa using ew) fin hs
 ·have hj:(i+(its.toArray.size:Int)).toNat=j:=by
   rw[seqIndex_neg (by lia) h4] at h1;rw[ZU,←hl];exact aaj h1
  exact subscriptTail_builtinR (x:=w) pl.isList.typeIs slot_list_getitem.lookup
   (wpAny_getItem_list_neg (Q:=λr s'=>r=w/\EP X pins σ Q r s') pl.isList (by lia) (by rw[ZU]<;>lia) (by lia) (by rw[hj];simpa using ew) ⟨rfl,fin⟩) hs
theorem Ki:F0 X (MO X.K):=by
 intro value slice pins s σ H x y v u Q I rx ry h hs;obtain⟨p,xs,i,z,rfl,rfl,hq,he,q⟩:=h;cases rx;obtain⟨t,rfl⟩:=ry;obtain⟨its,r,pl,hz⟩:=I.tuple hq;obtain⟨j,h1,h2,h3,h4,h5⟩:=uS he;obtain⟨w,ew,zS⟩:=r.get h2;have hl:=r.length;have hn:=m9;have fin:EP X pins σ Q w s:=⟨z,H,I,zS,q⟩;exact subscriptTail_builtinR (x:=w) pl.typeIs slot_tuple_getitem.lookup
  (getItem_tuple (j:=j) (Q:=λr s'=>r=w/\EP X pins σ Q r s') pl (by lia) (by lia) (by rw[ZU,←hl];exact h1) (by simpa using ew) ⟨rfl,fin⟩) hs
theorem Kj:F0 X MP:=by
 intro value slice pins s σ H x y v u Q I rx ry h hs;obtain⟨z,i,c,rfl,rfl,hz,he,q⟩:=h;obtain⟨t,rfl⟩:=rx;obtain⟨t',rfl⟩:=ry;obtain⟨j,h1,h2,h3,h4,h5⟩:=uS he;have hl:z.cps.toList.length=z.length:=by simp[Str.length]
 rw[hl] at h1 h4 h5;have hn:=m9;exact tail_any (typeIs_str s z t) slot_str_getitem.lookup (getItem_str (c:=c) (by
  have e1:decide (i < -(2 ^ 63:Int))=false:=hJ (by lia);have e2:decide (i≥2 ^ 63)=false:=hJ (by lia);rw[e1,e2,Bool.or_false]) (by rw[h1];simpa using h2) ⟨.str ⟨#[c]⟩,H,I.tok _,⟨_,rfl⟩,q⟩) hs
def Wd (K:ZQ):R2:=λx y H Q=>MN K x y H Q\/MO K x y H Q\/MP x y H Q
theorem az:F0 X (Wd X.K):=Gv.or (Ki.or Kj)
theorem yA (its:List ZO)(n j:Nat)(u:ZO):ac4 (·.setIfInBounds j u) {cls:=.type "list",data:=.seq its.toArray n}={cls:=.type "list",data:=.seq (its.set j u).toArray n}:=by
 simp[ac4]
theorem aJ.lst (I:aJ X pins σ H s)(h:H p=some (.lst xs)) :
  ∃(its:List ZO) (n:Nat),bh xs its/\s.heap.get? p=some {cls:=.type "list",data:=.seq its.toArray n}/\xs.length<=ZY:=by
 obtain⟨z,its,n,r,e⟩:=I.hok p _ h;exact⟨its,n,r,e,z⟩
theorem aJ.lstUpd {ys:List V}{its':List ZO}{n':Nat}{f:Obj->Obj}(I:aJ X pins σ H s)(h:H p=some (.lst xs))(ho:s.heap.get? p=some {cls:=.type "list",data:=.seq its.toArray n})(hf:f {cls:=.type "list",data:=.seq its.toArray n}={cls:=.type "list",data:=.seq its'.toArray n'})(r:bh ys its')(hz:ys.length<=ZY)(t:Nat) :
  aJ X pins σ (c_ H p (.lst ys)) {s with heap:=s.heap.update p f,toks:=t}:=by
 have e:(s.heap.update p f).get? p=some {cls:=.type "list",data:=.seq its'.toArray n'}:=by
  rw[abv f ho (by rw[hf]<;>rfl),hf]
 refine I.write (x:=p) (e:=p) (by rw[h];trivial) (.inl rfl) (λb u hb q=>(Heap.get?_update_other _ _ (Ne.symm hb)).trans q) ⟨_,e⟩ ?_;exact⟨hz,its',n',r,e⟩
def MQ:V->V->V->Hp->(Hp->Prop)->Prop:=λo i v H Q=>∃p xs k j,o=.ref p/\i=.int k/\H p=some (.lst xs)/\CD xs.length k=some j/\Q (c_ H p (.lst (xs.set j v)))
theorem C9:Mv X MQ:=by
 intro pins s σ H o i v ov iv u Q I ro ri rv h;obtain⟨p,xs,k,j,rfl,rfl,hp,hj,q⟩:=h;cases ro;obtain⟨t,rfl⟩:=ri;obtain⟨its,n,r,ho,hz⟩:=I.lst hp;obtain⟨h1,h2,h3,h4⟩:=Ab hj;have hl:=r.length;have hn:=m9;have I':aJ X pins σ (c_ H p (.lst (xs.set j v))) {s with heap:=s.heap.update p (ac4 (·.setIfInBounds j u))}:=
  I.lstUpd hp ho (yA its n j u) (r.set rv j) (by rw[aa5];exact hz) s.toks
 by_cases h0:0<=k
 ·have hk:k.toNat=j:=by
   rw[seqIndex_of h0 h4] at h1;exact aaj h1
  exact PySem.W.ki_setAt ho h0 (by lia) (by rw[ZU,←hl];exact h4) (by rw[hk];exact⟨_,I',q⟩)
 ·have hk:(k+(its.toArray.size:Int)).toNat=j:=by
   rw[seqIndex_neg (by lia) h3] at h1;rw[ZU,←hl];exact aaj h1
  exact PySem.W.ki_setBack ho (by lia) (by rw[ZU,←hl];exact h3) (by lia) (by rw[hk];exact⟨_,I',q⟩)
theorem uT (lo hi:Option Int)(n:Nat):(adV lo hi none n).1=((HT.sIx n 0 lo:Nat):Int)/\(adV lo hi none n).2.1=((HT.sIx n n hi:Nat):Int)/\(adV lo hi none n).2.2=1:=by
 refine⟨?_,?_,rfl⟩
 ·cases lo with
  |none=>simp[adV,HT.sIx]
  |some i=>
   simp only[adV,HT.sIx,adk,show (1:Int)>0 by decide,if_true];by_cases h:i<0
   ·simp only[h,if_true]<;>lia
   ·simp only[h,if_false]<;>lia
 ·cases hi with
  |none=>simp[adV,HT.sIx]
  |some i=>
   simp only[adV,HT.sIx,adk,show (1:Int)>0 by decide,if_true];by_cases h:i<0
   ·simp only[h,if_true]<;>lia
   ·simp only[h,if_false]<;>lia
theorem sN (its:List ZO)(lo hi:Option Int):slicePick its.toArray lo hi none=((its.drop (HT.sIx its.length 0 lo)).take (HT.sIx its.length its.length hi-HT.sIx its.length 0 lo)).toArray:=by
 obtain⟨h1,h2,h3⟩:=uT lo hi its.toArray.size;unfold slicePick;rw[h1,h2,h3];simp only[sliceRange_one,pick_run,ZU]<;>rfl
def Gw (K:ZQ):V->Option Int->Option Int->Hp->VK->Prop:=λx lo hi H Q=>∃a xs,x=.ref a/\fS K H a xs/\∀p,H p=none->Q (.ref p) (c_ H p (.lst (qc xs lo hi)))
theorem Gx:C7 X (Gw X.K):=by
 intro pins s σ H x v vl vu lo hi sl Q I rx hs pl pu h;obtain⟨a,xs,rfl,hx,q⟩:=h;cases rx;obtain⟨its,r,ht,hz⟩:=I.list hx;have dw:=r.length;refine⟨"list",_,slot_list_getitem.lookup,ht.isList.typeIs,?_⟩;refine wpAny_getItem_list_slice ht.isList hs pl pu .none (by simp) ?_ (by rw[ZU]<;>lia);rw[sN,←dw];refine⟨.ref s.heap.objs.size,_,I.laid (t':=s.toks) (o:=.lst (qc xs lo hi)) (λb ob q=>ZP _ q) (Z2 _) ?_,rfl,q _ (I.hok.fresh (Z2 _))⟩;exact⟨aaT (n9 xs lo hi) hz,_,0,(r.drop (HT.sIx xs.length 0 lo)).take (HT.sIx xs.length xs.length hi-HT.sIx xs.length 0 lo),Z3 _ rfl⟩
theorem cm:eU X (.type "tuple") (λxs H Q=>∃p ys,xs=[.ref p]/\((fS X.K H p ys/\∀l,H l=none->Q (.ref l) (c_ H l (.tup ys)))\/(gz X.K H p ys/\Q (.ref p) H))):=by
 intro pins s σ H xs us Q I r h;obtain⟨p,ys,rfl,h⟩:=h;obtain⟨u,rfl,rx⟩:=iT r;cases rx;rcases h with⟨hq,q⟩|⟨hq,q⟩
 ·obtain⟨its,r',pl,hz⟩:=I.list hq;have dw:=r'.length;refine call_tuple_list pl.isList (λh' kp=>?_) (by simp only[ZU]<;>lia);have I1:aJ X pins σ H {s with heap:=h'}:=I.kept (t':=s.toks) kp;have I2:aJ X pins σ (c_ H h'.objs.size (.tup ys)) {s with heap:=h'.push {cls:=.type "tuple",data:=.seq its.toArray}}:=
   I1.laid (t':=s.toks) (λb o e=>ZP _ e) (Z2 _) (show dX X.prog X.w _ _ _ (.tup ys) from ⟨hz,its,r',IsTup.new _ _,_,Z3 _ rfl⟩)
  exact⟨.ref h'.objs.size,_,I2,rfl,q _ (I1.hok.fresh (Z2 _))⟩
 ·obtain⟨its,r',pl,hz⟩:=I.tuple hq;exact call_tuple_same pl ⟨.ref p,H,I,rfl,q⟩
def Qr (K:ZQ)(T:String)(x:V)(H:Hp):Prop:=match x with
 | .str _=>T="str"
 | .int _=>T="int"
 | .ref p=>(T="list"/\∃xs,fS K H p xs)\/(T="tuple"/\((∃o,K.lookup p=some o/\o.cls=.type "tuple"/\o.dict=none)\/∃xs,H p=some (.tup xs))) \/
   (T="dict"/\((∃cF,H p=some (.dK cF))\/∃cF,H p=some (.dT cF)))\/(T="set"/\∃S n,H p=some (.set S n))
 |_=>False
theorem Kk {T:String}{x:V}{v:ZO}(I:aJ X pins σ H s)(r:bx x v)(ty:Qr X.K T x H) :
  s.TypeIs v T/\∀a,v=.ref a->∃ob,s.heap.get? a=some ob/\ob.dict=none:=by
 cases x with
 |str z=>
  obtain⟨t,rfl⟩:=r;cases (show T="str" from ty);exact⟨typeIs_str s z t,λ_ e=>nomatch e⟩
 |int i=>
  obtain⟨t,rfl⟩:=r;cases (show T="int" from ty);exact⟨typeIs_int s i t,λ_ e=>nomatch e⟩
 |ref p=>
  cases r;rcases ty with⟨rfl,xs,hq⟩|⟨rfl,⟨o,hk,hc,hd⟩|⟨xs,hq⟩⟩|⟨rfl,hk⟩|⟨rfl,S,n,hk⟩
  ·obtain⟨its,_,pl,_⟩:=I.list hq;refine⟨pl.isList.typeIs,λa e=>?_⟩;cases e;obtain⟨o,n,e,c,hd,_⟩:=pl;exact⟨o,e,hd⟩
  ·refine⟨⟨o,I.kIn p o hk,hc⟩,λa e=>?_⟩;cases e;exact⟨o,I.kIn _ o hk,hd⟩
  ·obtain⟨_,its,_,⟨o,e,c,_⟩,n2,e2⟩:=I.hok p _ hq;refine⟨⟨o,e,c⟩,λa e'=>?_⟩;cases e';exact⟨_,e2,rfl⟩
  ·have z:∃o,s.heap.get? p=some o/\o.ExactDict:=by
    rcases hk with⟨cF,hk⟩|⟨cF,hk⟩
    ·obtain⟨_,_,_,_,o,_,_,e,ex,_⟩:=I.hok p _ hk;exact⟨o,e,ex⟩
    ·obtain⟨_,_,_,_,o,_,_,e,ex,_⟩:=I.hok p _ hk;exact⟨o,e,ex⟩
   obtain⟨o,e,ex⟩:=z;refine⟨⟨o,e,ex.1⟩,λa e2=>?_⟩;cases e2;exact⟨o,e,ex.2.1⟩
  ·obtain⟨o,_,_,_,e,ex,_⟩:=I.hok p _ hk;refine⟨⟨o,e,ex.1⟩,λa e2=>?_⟩;cases e2;exact⟨o,e,ex.2.1⟩
 |_=>exact ac3 ty
def We (K:ZQ)(T:String)(r:V->List V->Hp->VK->Prop)(to:TE)(t:TA):TE:=λσ H Q=>to σ H λx H1=>Qr K T x H1/\t σ H1 λxs H2=>r x xs H2 Q
variable {o e:abE}{es:List abE}{to:TE}{t:TA}{name:Str}{gI cpos:Pos}{T id:String}{r:V->List V->Hp->VK->Prop}
theorem Ib (pa:PlainAttrs T)(slot:Slot T name id)(Rq:typeOf (.builtin id)=pure (.type "method_descriptor"))(hm:Ia X id r)(ho:PE X o to)(ha:PA X (e::es) t)
  (yf:adG o name X.env (ade o X.env)=ade o X.env:=by rfl)
  (FK:((acq cpos (aaf (e::es) X.env)).all (λx=> !x.1)&&(backToKw cpos (aet [] X.env)).all (λx=>x.1.isSome)
   && decide ((e::es).length+([]:List aeb).length+(if ([]:List aeb).isEmpty then 0 else 1)<30))=true:=by rfl)
  (yg:(gI.endLine==cpos.line)=true:=by rfl) (hs:aaf (e::es) X.env=(false,ade e X.env)::aaf es X.env:=by rfl) (sC:(acq cpos (aaf es X.env)).any (·.1)=false:=by rfl) :
  PE X (.Call (.Attribute o name gI) (e::es) [] cpos) (We X.K T r to t):=by
 intro pins s σ H Q I h;refine wpAny_Call_method_late yf FK yg rfl (eG (ho pins s σ H _ I h) λv s1 ⟨x,H1,I1,r1,ty,q1⟩=>?_);obtain⟨h1,h2⟩:=Kk I1 r1 ty;refine⟨T,id,pa,slot,Rq,h1,h2,?_⟩;have hA:=ha cpos pins s1 σ H1 _ I1 q1;rw[hs] at hA ⊢;refine Calls.callWith_builtin (by show (false||(acq cpos (aaf es X.env)).any (·.1))=false;rw[sC]<;>rfl) (Calls.evalArgs_plain ?_);exact eG hA λus s2 ⟨vs,H2,I2,r2,q2⟩=>hm pins s2 σ H2 x vs v us Q I2 r1 r2 q2
end
end L2
namespace L2
def Qs (X:Cx)(id:String)(r:V->List V->Hp->VK->Prop):Prop:=
 ∀(pins:List (Z5×Obj)) (s:Z8) (σ:St) (H:Hp) (x:V) (xs:List V) (v:ZO) (us:List ZO) (Q:VK),aJ X pins σ H s->bx x v->bh xs us->r x xs H Q->
  aac (aar X.prog X.w) X.A (call (.builtin id) (v::us)) (EP X pins σ Q) X.xe s
theorem bh.one:∀{x:V} {us:List ZO},bh [x] us->∃u,us=[u]/\bx x u
 |_,_,.cons r .nil=>⟨_,rfl,r⟩
theorem bh.eraseIdx:∀{xs:List V} {us:List ZO} (i:Nat),bh xs us->bh (xs.eraseIdx i) (us.eraseIdx i)
 |_,_,_,.nil=>.nil
 |_,_,0,.cons _ t=>t
 |_,_,i+1,.cons r t=>.cons r (bh.eraseIdx i t)
theorem tO {α:Type}:∀(l:List α) (i:Nat),(l.eraseIdx i).length<=l.length
 | [],_=>Z2 _
 |_::_,0=>Nat.le_succ _
 |_::r,i+1=>Nat.succ_le_succ (tO r i)
section
variable {l:Z5}{ys zs:List V}
theorem aJ.lset {t':Nat}{its':List ZO}{f:Array ZO->Array ZO}(I:aJ X pins σ H s)(hH:H l=some (.lst xs))(e:s.heap.get? l=some {cls:=.type "list",data:=.seq its.toArray n})(hf:f its.toArray=its'.toArray)(hv:bh ys its')(hz:ys.length<=ZY) :
  aJ X pins σ (c_ H l (.lst ys)) {s with heap:=s.heap.update l (ac4 f),toks:=t'}:=by
 have q:=PySem.IsL.update e f;rw[hf] at q;refine I.write (x:=l) (e:=l) (by rw[hH];exact trivial) (.inl rfl) (λb' u hb hu=>(Heap.get?_update_other s.heap (ac4 f) (Ne.symm hb)).trans hu) ⟨_,q⟩ ?_;exact⟨hz,its',_,hv,q⟩
theorem aJ.lnew {t':Nat}(I:aJ X pins σ H s)(hv:bh ys its)(hz:ys.length<=ZY) :
  aJ X pins σ (c_ H s.heap.objs.size (.lst ys)) {s with heap:=s.heap.push {cls:=.type "list",data:=.seq its.toArray},toks:=t'}:=
 I.laid (λ_ _ q=>ZP _ q) (Z2 _) ⟨hz,its,0,hv,Z3 _ rfl⟩
theorem aJ.fresh (I:aJ X pins σ H s):H s.heap.objs.size=none:=I.hok.fresh (Z2 _)
theorem aJ.lstM (I:aJ X pins σ H s)(hH:H l=some (.lst xs)):xs.length<=ZY/\∃(its:List ZO) (n:Nat),bh xs its/\xs.length=its.length/\s.heap.get? l=some {cls:=.type "list",data:=.seq its.toArray n}:=by
 obtain⟨z,its,n,r,e⟩:=I.hok l _ hH;exact⟨z,its,n,r,r.length,e⟩
theorem wD (h:n<=ZY):acz n=false:=by
 unfold acz;exact hJ (by lia)
end
def Ad:V->List V->Hp->VK->Prop:=λx vs H Q=>∃l xs y,x=.ref l/\vs=[y]/\H l=some (.lst xs)/\xs.length<ZY/\Q .non (c_ H l (.lst (xs++[y])))
theorem ng:Qs X "list.append" Ad:=by
 intro pins s σ H x vs v us Q I rx rv h;obtain⟨l,xs,y,rfl,rfl,hH,hz,q⟩:=h;cases rx;obtain⟨u,rfl,ru⟩:=rv.one;obtain⟨z,its,n,r,hl,e⟩:=I.lstM hH;refine call_meets F.slot_list_append ⟨_,e,rfl⟩ F.entry_list_append (F.args_list_append_2 _ _) (PySem.list_append l its.toArray n u (by rw[ZU];lia)) ⟨e,?_⟩;refine⟨.non,_,I.lset (its':=its++[u]) hH e (by simp) (r.append (.cons ru .nil)) ?_,rfl,q⟩;rw[ZZ,acR];lia
def C_:V->List V->Hp->VK->Prop:=λx vs H Q=>∃l xs i k y,x=.ref l/\vs=[.int i]/\H l=some (.lst xs)/\ -(2 ^ 63)<=i/\i<2 ^ 63/\ae6 i xs.length=some k/\xs[k]? = some y/\Q y (c_ H l (.lst (xs.eraseIdx k)))
theorem Dd:Qs X "list.pop" C_:=by
 intro pins s σ H x vs v us Q I rx rv h;obtain⟨l,xs,i,k,y,rfl,rfl,hH,h1,h2,hk,hy,q⟩:=h;cases rx;obtain⟨u,rfl,ru⟩:=rv.one;obtain⟨t,rfl⟩:=ru;obtain⟨z,its,n,r,hl,e⟩:=I.lstM hH;obtain⟨w,hw,zS⟩:=r.get hy;refine call_meets F.slot_list_pop ⟨_,e,rfl⟩ F.entry_list_pop (F.args_list_pop_2 _ _)
  (MeetsSeq.list_pop_at l its.toArray n i t k w (fitsIndex_both h1 h2) (by rw[ZU,←hl];exact hk) (by rw[←aaa];exact hw) (by rw[ZU];lia)) ⟨e,?_⟩
 refine⟨y,_,I.lset (its':=its.eraseIdx k) hH e ?_ (r.eraseIdx k) ?_,zS,q⟩
 ·show its.toArray.eraseIdxIfInBounds k=(its.eraseIdx k).toArray;rw[List.eraseIdxIfInBounds_toArray]
 ·have:=tO xs k;lia
section
variable {A:aaD}
set_option maxRecDepth 100000 in
end
end L2
namespace Att
open PySem.W PySem.Calls
theorem o5 {P:Params}:∀(ns:List Int) (vs:List ZO),WellAll P h vs (ns.map WData.int)->abW vs ns:=by
 intro ns
 induction ns with
 |nil=>
  intro vs w;rw[abO] at w;cases w;exact .nil
 |cons n ns ih=>
  intro vs w;rw[Z_] at w;cases w with
  |cons a b=>
   cases a;exact .cons _ _ (ih _ b)
theorem BD {l:OpenLaw}(hn:l.most=some n){P:Params}{args:List WData}{LK:List ZO}(HP:l.row.toRowW.claim.pre args=true)(Rr:WellAll P h LK args) :
  ∃a vs ns,LK=[Value.ref a]/\args=[WData.list (ns.map WData.int)]/\h.get? a=some {cls:=.type "list",data:=.seq vs.toArray}/\abW vs ns/\ns.length<=n:=by
 have XA:WShape.hasAll [] args [.list .int]=true:=(pre_splitW HP).1;have hc:l.pre.holds [] {args:=args}=true:=(pre_splitW HP).2;obtain⟨d,r,rfl,h1,h2⟩:=hasAllW_cons XA;obtain rfl:=hasAllW_nil h2;obtain⟨xs,rfl,h3⟩:=hasW_list h1;obtain⟨ns,rfl⟩:=items_int h3;have dw:ns.length<=n:=by
  unfold OpenLaw.pre at hc;have h4:(WTm.not (.lt (.lit (.int (n:Int))) (.len (.arg 0)))).holds [] {args:=[.list (ns.map .int)]}=true:=by
   have h4:=(holds_andW hc).1;rw[hn] at h4;exact h4
  have h5:=condW_of h4 (w_not (w_lt w_lit (w_len_list (w_arg rfl))));rw[ZW] at h5;refine Nat.le_of_not_lt λq=>?_;have q':(n:Int)<((ns.length:Nat):Int):=by lia
  first
   | (rw[hG q'] at h5;exact absurd h5 (by decide))
   | (simp at h5;lia)
 cases Rr with
 |cons w1 w2=>
  cases w2;cases w1 with
  |list ho hall=>exact⟨_,_,ns,rfl,rfl,ho,o5 ns _ hall,dw⟩
theorem BE (l:OpenLaw)(args:List WData):l.row.toRowW.claim.post args (.bool true) args=true:=
 postW_of (r:=l.row.toRowW) (X:=(true==true))
  (show WShape.has [] (.bool true) .bool=true by first|rfl|decide|simp[WShape.has,WShape.arms,WShape.armsAll])
  (show (WTm.eq .res (.lit (.bool true))).value [] {args:=args,res:=some (.bool true),after:=args}=some (.bool (true==true)) from w_eq_bool (w_res rfl) w_lit) rfl
theorem attach_call {l:OpenLaw}{q:ack}{d:DefRec}(hn:l.most=some n)(Ou:d.params.defaults=[])(call:∀(w:acJ) (s₀ s₁:Z8) (mg mb:Str->Option ZO) (fa:Z5) (o:Obj) (pm cd dC:ZO) (a:Z5) (vs:List ZO) (ns:List Int),
   Ground q loose [] XP w s₀ mg mb s₁.heap->YP w s₁.heap->
   s₁.heap.get? fa=some o->o.data=.func (docDef d.name d.params d.body d.scope pm cd dC)->s₁.heap.CodeRec cd d.name->mg d.name=some (.ref fa)->
   s₁.heap.get? a=some {cls:=.type "list",data:=.seq vs.toArray}->abW vs ns->ns.length<=n->s₁.gens=#[]->
   codeAny (aar l.prog w) callerA (.call (.ref fa) ⟨[.ref a],[]⟩) (λr s'=>r=.ok (.ret (.bool true))/\OldK s₁.heap s'.heap/\s'.os=s₁.os/\AllBare s'.gens) s₁) :
  WalkO q loose XP YP l.row.toRowW d [] (λf vs=>PySem.call f vs):=by
 intro w s₀ s₁ mg mb G Y fa o pm cd dC dV kV ho hd sv hD Ov hg args LK as HP XB Zx Rr Zy;obtain rfl:dV=.none:=Dflts.none hD Ou;obtain rfl:kV=.none:=Dflts.noKw hD;obtain⟨a,vs,ns,rfl,rfl,LL,FN,dw⟩:=BD hn HP Rr;refine enter_call (aeL (call w s₀ s₁ mg mb fa o pm cd dC a vs ns G Y ho (fd_plain hd) sv Ov LL FN dw hg) λr s' hq=>?_);obtain⟨rfl,h2,h3,h4⟩:=hq;exact⟨.inl ⟨.bool true,.bool true,[],rfl,λ_=>rfl,.bool true,BE l _,λ_=>⟨List.Pairwise.nil,λ_ hm=>(nomatch hm)⟩⟩,h2,h3,h4⟩
end Att
namespace L2
theorem nh:∀{vs:List ZO} {ns:List Int},abW vs ns->bh (ns.map V.int) vs
 |_,_,.nil=>.nil
 |_,_,.cons n t h=>.cons ⟨t,rfl⟩ (nh h)
def Gy (H:Hp):Prop:=∀b,H b=none\/∃o xs,H b=some (.frz o (.lst xs))
theorem De {mb:Str->Option ZO}{fa:Z5}{s₁:Z8}{vs:List ZO}(KX:K.In s₁.heap)(WJ:s₁.heap.Ns aab mg)(hb:s₁.heap.Ns builtinsNs mb)(XC:∀x:Str,x≠"__name__"->mb x=aaY x)(Rt:s₁.heap.NoLimit)(hg:s₁.gens=#[])(ha:s₁.heap.get? a=some {cls:=.type "list",data:=.seq vs.toArray})(hi:abW vs ns)(hl:ns.length<=ZY)(hr:fX k callerA)(F:∀base:acj,K.In base->base.Ns aab mg->kW P w K mg base CX k fa fd [x] sp)(Ow:∀(s:Z8) (u:ZO),BindsTo s fd ⟨[u],[]⟩ [(x,u)])(JE:∀H:Hp,Gy H->fS K H a (ns.map V.int)->sp [.ref a] H (λv _=>v=.bl true) λ_ _ _=>False)(Ru:∀H e s',CX [] H s₁ (λ_ _ _=>False) e s'->False) :
  codeAny (aar P w) callerA (.call (.ref fa) ⟨[.ref a],[]⟩) (λr s'=>r=.ok (.ret (.bool true))/\OldK s₁.heap s'.heap/\s'.os=s₁.os/\AllBare s'.gens) s₁:=by
 have rv:=nh hi;have Rv:=hi.length;have Ox:∀H:Hp,Gy H->fS K H a (ns.map V.int)->kT P w H s₁.heap->(∀b,H b≠none->b=a)->(H a≠none->K.lookup a=none)->
   codeAny (aar P w) callerA (.call (.ref fa) ⟨[.ref a],[]⟩) (λr s'=>r=.ok (.ret (.bool true))/\OldK s₁.heap s'.heap/\s'.os=s₁.os/\AllBare s'.gens) s₁:=by
  intro H hO hS hok hA hK;have Bo:∀{b:Z5} {o:Obj},s₁.heap.get? b=some o->H b=none->(uP s₁.heap H).get? b=some o:=λe n=>CL e n;have Oq:∀{b:Z5} {o:Obj} {es:Array DictEntry} {ep:Nat},s₁.heap.get? b=some o->o.data=.dict es ep->H b=none:=λ{b o es ep} e d=>by
   cases q:H b with
   |none=>rfl
   |some u=>
    have e':b=a:=hA b (by rw[q];simp);subst e';rw[ha] at e;cases e;have d':Data.seq vs.toArray _=Data.dict es ep:=d;cases d'
  have PN:∀{b:Z5} {m:Str->Option ZO},s₁.heap.Ns b m->(uP s₁.heap H).Ns b m:=λ{b m} ⟨o,es,ep,e,d,r⟩=>⟨o,es,ep,Bo e (Oq e d),d,r⟩;have WK:K.In (uP s₁.heap H):=λb o e=>Bo (KX b o e) (by
   cases q:H b with
   |none=>rfl
   |some u=>
    have e':b=a:=hA b (by rw[q];simp);subst e';rw[hK (by rw[q];simp)] at e;cases e)
  have hM:Mod K mg (uP s₁.heap H):=⟨WK,PN WJ,⟨mb,PN hb,XC⟩,let ⟨mc,h1,h2⟩:=Rt;⟨mc,PN h1,h2⟩⟩;have e0:Gk P w K mg (uP s₁.heap H) callerA [] s₁ H:=⟨rfl,hM,λb o e=>F8 e,Nat.le_of_eq (Bv _ _),trivial,λb hb=>absurd (show b∈([]:List Z5) from hb) (by simp),hok,.of_eq hg⟩;refine aeL ((F _ WK (PN WJ)).run callerA [] s₁ H ⟨[.ref a],[]⟩ [.ref a] [.ref a] _ _ hr e0 (Ow s₁ (.ref a)) (.cons rfl .nil) (JE H hO hS)) λr s' h=>?_;cases r with
  |error e=>exact (Ru H e s' h).elim
  |ok fl=>
   cases fl with
   |next=>exact ac3 h
   |brk=>exact ac3 h
   |cont=>exact ac3 h
   |ret u=>
    obtain⟨v,H',os,bare,un,hok',r',q⟩:=h;have q':v=.bl true:=q;subst q';obtain rfl:u=Value.bool true:=r';refine⟨rfl,OldK.of_keep λb o e=>?_,os,bare⟩;cases q:H b with
    |none=>exact un.keep b o e q (by intro z;exact absurd (show b∈([]:List Z5) from z) (by simp)) (by simp)
    |some u=>
     rcases hO b with z|⟨ob,xs,z⟩
     ·rw[q] at z;cases z
     ·have z2:=un.frzs b ob _ z;obtain⟨e1,_⟩:=hok b _ z;obtain⟨e2,_⟩:=hok' b _ z2;rw[e] at e1;cases e1;exact e2
 cases hk:K.lookup a with
 |some o=>
  have e:=KX a o hk;rw[ha] at e;cases e;refine Ox (λ_=>none) (λ_=>.inl rfl) (.inr ⟨_,vs.toArray,_,hk,rfl,rfl,rfl,by rw[ZU,Rv];exact hl,by simpa using rv⟩) (λb u z=>by have z':(none:Option HO)=some u:=z;cases z') (λb z=>absurd rfl z) λz=>absurd rfl z
 |none=>
  refine Ox (λb=>if b=a then some (.frz {cls:=.type "list",data:=.seq vs.toArray} (.lst (ns.map V.int))) else none) (λb=>?_) (.inl (.inr ⟨{cls:=.type "list",data:=.seq vs.toArray},hV rfl⟩)) (λb u z=>?_) (λb z=>?_) λ_=>hk
  ·by_cases hb:b=a
   ·exact .inr ⟨_,_,hV hb⟩
   ·exact .inl (hU hb)
  ·by_cases hb:b=a
   ·have z':=(hV hb).symm.trans z;cases z';subst hb;exact⟨ha,by rw[ZW];exact hl,vs,_,rv,ha⟩
   ·have z':=(hU hb).symm.trans z;cases z'
  ·by_cases hb:b=a
   ·exact hb
   ·exact absurd (hU hb) z
end L2
namespace L2
theorem walk_of {l:PySem.W.OpenLaw}{q:ack}{d:DefRec}{K:Params->ZQ}{CX:acJ->CXT}{sp:acJ->Sp}(hn:l.most=some n)(JG:n<=ZY)(Ou:d.params.defaults=[])(hr:fX k callerA)(hY:∀(w:acJ) (h:acj),YP w h->(K w.params).In h)(F:∀(w:acJ) (mg:Str->Option ZO) (fa:Z5) (h:acj),(K w.params).In h->h.Ns aab mg->mg d.name=some (.ref fa)->
   ∃fd:aeh,(∀(s:Z8) (u:ZO),BindsTo s fd ⟨[u],[]⟩ [(x,u)])/\
    ∀base:acj,(K w.params).In base->base.Ns aab mg->kW l.prog w (K w.params) mg base (CX w) k fa fd [x] (sp w))(JE:∀(w:acJ) (H:Hp) (a:Z5) (ns:List Int),ns.length<=n->Gy H->fS (K w.params) H a (ns.map V.int)->sp w [.ref a] H (λv _=>v=.bl true) λ_ _ _=>False)(Ru:∀(w:acJ) (H:Hp) (s:Z8) (e:ZO) (s':Z8),CX w [] H s (λ_ _ _=>False) e s'->False) :
  PySem.W.WalkO q loose XP YP l.row.toRowW d [] (λf vs=>PySem.call f vs):=by
 refine Att.attach_call hn Ou λw s₀ s₁ mg mb fa o pm cd dC a vs ns G Y ho hd sv Ov LL FN dw hg=>?_;have KX:=hY w _ Y;obtain⟨fd,hb,hF⟩:=F w mg fa _ KX G.T.g Ov;exact De KX G.T.g G.T.b G.T.builtins G.T.nolimit hg LL FN (aaT dw JG) hr hF hb (λH hO hS=>JE w H a ns dw hO hS) λH e s'=>Ru w H s₁ e s'
end L2
namespace L2
noncomputable def aw (s:ad9):Arguments:=match s with
 | .FunctionDef _ a _ _ _ _ _ _ _ _=>a
 |_=>{posonlyargs:=[],args:=[],vararg:=none,kwonlyargs:=[],kw_defaults:=[],kwarg:=none,defaults:=[]}
noncomputable def ar (s:ad9):List ad9:=match s with
 | .FunctionDef _ _ b _ _ _ _ _ _ _=>b
 |_=>[]
noncomputable def ag (s:ad9):ae2:=match s with
 | .FunctionDef _ _ _ _ _ _ sc _ _ _=>sc
 |_=>{kind:=.function,names:=[],isGenerator:=false,isCoroutine:=false}
abbrev wF:CXT:=λ_ _ _ _ _ _=>False
abbrev E0:XK:=λ_ _ _=>False
theorem MR:yx wF X E0:=λ_ _ _ _ _ _ _ h=>h.elim
structure F1 (K:ZQ)(x qual:Str)(st:ad9)(f:Z5)(fd:aeh):Prop where
 ex:∃(oc:ZO) (od:Option Z5) (kV dC pm:ZO) (an:Option Z5) (br ct:ZO) (JD:Array (Option ZO)),
  fd=Z1 x qual (aw st) (ar st) (ag st) .none kV dC pm an br ct/\K.lookup f=some ⟨oc,od,.func fd,JD⟩/\aan K br qual=true
 kp:aah K (.ref f)=true
section
variable {base:acj}
theorem F1.ok (F:F1 K x qual st f fd)(S:aV N ps (ag st))(len:∀vs H Q E,sp vs H Q E->vs.length=ps.length)(iJ:∀(br:ZO) (A:aaD) (outer:List Env) (s:Z8) (H:Hp) (vs:List V) (Q:VK) (E:XK),fX k (A.deeper (aeN qual (ag st) s.heap.objs.size f br))->sp vs H Q E->
   ∃t,sJ (o3 wF P w K mg base N qual (ag st) f br A outer s H E).nox (ar st) t/\t {nx:=λ_ H'=>Q .non H',rt:=Q} (adD N vs) H):kW P w K mg base wF (k+1) f fd ps sp:=by
 obtain⟨oc,od,kV,dC,pm,an,br,ct,JD,rfl,lk,sv⟩:=F.ex;refine MG lk sv S len λA outer s H vs Q E hr JE=>?_;obtain⟨t,h,q⟩:=iJ br A outer s H vs Q E hr JE;exact⟨t,h.nox,q⟩
theorem F1.binds (F:F1 K x qual st f fd)(h:∀(kV dC pm:ZO) (an:Option Z5) (br ct:ZO) (us:List ZO),us.length=ps.length->aaZ (Z1 x qual (aw st) (ar st) (ag st) .none kV dC pm an br ct) ⟨us,[]⟩=pure (ps.zip us)):tJ K fd ps []:=by
 obtain⟨oc,od,kV,dC,pm,an,br,ct,JD,rfl,lk,sv⟩:=F.ex;exact .all (h kV dC pm an br ct)
theorem bF {oc:ZO}{od an:Option Z5}{JD:Array (Option ZO)}{kV dC pm br ct:ZO}(l:K.lookup f=some ⟨oc,od,.func (Z1 x qual (aw st) (ar st) (ag st) .none kV dC pm an br ct),JD⟩)(c:aan K br qual=true)(k:aah K (.ref f)=true):F1 K x qual st f (Z1 x qual (aw st) (ar st) (ag st) .none kV dC pm an br ct):=⟨⟨oc,od,kV,dC,pm,an,br,ct,JD,rfl,l,c⟩,k⟩
end
theorem cx {A:aaD}(hr:fX k A):A.units+1<abH:=adH (Nat.add_le_add_left (by decide:1<=64) _) hr.units
def aQ (H H':Hp):Prop:=∀b o,H b=some o->H' b=some o
theorem aQ.refl (H:Hp):aQ H H:=λ_ _ h=>h
theorem aQ.trans (a:aQ H H1)(b:aQ H1 H2):aQ H H2:=λc o h=>b c o (a c o h)
theorem aQ.seq (e:aQ H H')(h:fS K H a xs):fS K H' a xs:=by
 rcases h with (h|⟨o,h⟩)|h
 ·exact .inl (.inl (e _ _ h))
 ·exact .inl (.inr ⟨o,e _ _ h⟩)
 ·exact .inr h
end L2
namespace L2
section
variable {κ:Type}[DecidableEq κ]
noncomputable def qd (cF:List (κ×V))(k:κ):Option V:=(cF.find? λkv=>decide (kv.1=k)).map (·.2)
theorem qe {p:κ×V}{r:List (κ×V)}{k:κ}(e:p.1=k):qd (p::r) k=some p.2:=by simp[qd,abm,e]
theorem qf {p:κ×V}{r:List (κ×V)}{k:κ}(e:¬p.1=k):qd (p::r) k=qd r k:=by simp[qd,abm,e]
theorem oY.isSome_eq {o:Option V}{u:Option ZO}(r:oY o u):o.isSome=u.isSome:=by
 cases o with
 |none=>cases u with
  |none=>rfl
  |some _=>exact (show False from r).elim
 |some _=>cases u with
  |none=>exact (show False from r).elim
  |some _=>rfl
theorem KV.val {cF:List (κ×V)}{vs:List (κ×ZO)}(r:KV cF vs)(k:κ):oY (qd cF k) (valueAt vs k):=by
 unfold KV at r
 induction r with
 |nil=>exact True.intro
 | @cons p q ps qs h t ih=>
  obtain⟨h1,h2⟩:=h;by_cases e:p.1=k
  ·have e':q.1=k:=h1.symm.trans e;have b:valueAt (q::qs) k=some q.2:=by simp[valueAt,abm,e']
   rw[qe e,b];exact h2
  ·have e':¬q.1=k:=λz=>e (h1.trans z);have b:valueAt (q::qs) k=valueAt qs k:=by simp[valueAt,abm,e']
   rw[qf e,b];exact ih
end
theorem Ic {k:jI}{u:ZO}(r:bx (kV k) u):(fz P w).is k u=true:=by
 cases k with
 |inl i=>obtain⟨t,e⟩:=(show ∃t,u=Value.int i t from r);subst e;exact wu P w i t
 |inr x=>obtain⟨t,e⟩:=(show ∃t,u=Value.str x t from r);subst e;exact wx P w x t
theorem tP {P:ack}{w:acJ}:∀{ks:List jI} {us:List ZO},bh (ks.map kV) us->ItemsAre (fz P w) ks us
 | [],_,r=>by rw[abO] at r;cases r;exact .nil
 |k::ks,_,r=>by
  rw[Z_] at r;cases r with
  |cons h t=>exact .cons (Ic h) (tP t)
abbrev KT (H:Hp):List (List jI×V)->List (List jI×Z5×ZO)->Prop:=aeF λp q=>p.1=q.1/\H q.2.1=some (.tup (p.1.map kV))/\bx p.2 q.2.2
theorem KT.val {cF:List (List jI×V)}{xs:List (List jI×Z5×ZO)}(r:KT H cF xs)(k:List jI):oY (qd cF k) ((ae7 xs k).map (·.2)):=by
 induction r with
 |nil=>exact True.intro
 | @cons p q ps qs h t ih=>
  obtain⟨h1,_,h2⟩:=h;by_cases e:p.1=k
  ·have e':q.1=k:=h1.symm.trans e;have b:ae7 (q::qs) k=some q.2:=by simp[ae7,abm,e']
   rw[qe e,b];exact h2
  ·have e':¬q.1=k:=λz=>e (h1.trans z);have b:ae7 (q::qs) k=ae7 qs k:=by simp[ae7,abm,e']
   rw[qf e,b];exact ih
theorem Ie {u:HO}(ok:kT P w H h)(e:Rd H a u):dX P w H h a u:=e.ok ok
theorem Dg {cF:List (jI×V)}(ok:kT P w H h)(e:Rd H a (.dK cF)):cF.length<=ZY/\(a==abZ)=false/\∃vs,KV cF vs/\h.DictOf (fz P w) a vs:=
 show dX P w H h a (.dK cF) from Ie ok e
theorem Dh {ks:List jI}(ok:kT P w H h)(e:H a=some (.tup (ks.map kV))):(tupleKind (fz P w)).is h ks a:=by
 obtain⟨_,its,r,⟨o,h1,h2,n,h3⟩,_⟩:=(show dX P w H h a (.tup (ks.map kV)) from ok a _ e);exact⟨o,its.toArray,n,h1,h2,h3,by simpa using tP r⟩
theorem Di {cF:List (List jI×V)}(ok:kT P w H h)(e:Rd H a (.dT cF)):cF.length<=ZY/\(a==abZ)=false/\
  ∃xs,KT H cF xs/\h.DictOfH (tupleKind (fz P w)) a xs:=by
 obtain⟨z,y,xs,r,o,es,ep,h1,h2,h3,h4,h5⟩:=(show dX P w H h a (.dT cF) from Ie ok e);refine⟨z,y,xs,r,o,es,ep,h1,h2,h3,h4,λx hx=>?_,h5⟩;have all:∀{l:List (List jI×V)} {m:List (List jI×Z5×ZO)},KT H l m->∀x∈m,(tupleKind (fz P w)).is h x.1 x.2.1:=by
  intro l m q
  induction q with
  |nil=>intro x hx;exact nomatch hx
  | @cons p q ps qs hq t ih=>
   intro x hx;rcases Z4.mp hx with e|hx
   ·subst e;exact Dh ok (by rw[←hq.1];exact hq.2.1)
   ·exact ih x hx
 exact all r x hx
def Kl (H:Hp)(a:Z5)(y:V)(r:Option V):Prop:=
 (∃cF k,Rd H a (.dK cF)/\y=kV k/\r=qd cF k)\/∃cF k b,Rd H a (.dT cF)/\y=.ref b/\H b=some (.tup (k.map kV))/\r=qd cF k
section
variable {u r:ZO}{o:Option V}{A:aaD}
theorem aJ.big (I:aJ X pins σ H s):abZ<s.heap.objs.size:=by
 have h:aab<s.heap.objs.size:=(I.mod.glob.keeps I.bk).lt;exact Nat.lt_trans (by decide) h
theorem BF (hu:A.units+1<abH)(I:aJ X pins σ H s)(g:Kl H a y (some v))(ry:bx y u)(h:∀w' s',aJ X pins σ H s'->bx v w'->Q w' s') :
  aac (aar X.prog X.w) A (aes (.ref a) u) Q E s:=by
 rcases g with⟨cF,k,e,ey,l⟩|⟨cF,k,b,e,ey,eb,l⟩
 ·subst ey;obtain⟨z,hd,vs,rel,dd⟩:=Dg I.hok e;obtain⟨w',hw,zS⟩:=oY.some_of (v:=v) (o:=valueAt vs k) (by rw[l];exact rel.val k);exact wpAny_getItem_of (Ic ry) dd.mapOf hw (h w' _ (I.tok _) zS)
 ·subst ey;cases (show u=Value.ref b from ry);obtain⟨z,hd,xs,rel,dd⟩:=Di I.hok e;obtain⟨w',hw,zS⟩:=oY.some_of (v:=v) (o:=(ae7 xs k).map (·.2)) (by rw[l];exact rel.val k);obtain⟨p,hp,Bs⟩:=Option.map_eq_some_iff.mp hw;refine wpAny_getItem_heap (tupleKind_room_in1 hu) (Dh I.hok eb) dd hp ?_;rw[Bs];exact h w' _ (I.tok _) zS
theorem Gz {t':Nat}{ob:HO}(I:aJ X pins σ H s)(mu:L9 (H a))(hs:abM a s.heap h')(he:∃q,h'.get? a=some q)(new:dX X.prog X.w (c_ H a ob) h' a ob) :
  aJ X pins σ (c_ H a ob) {s with heap:=h',toks:=t'}:=
 I.write (x:=a) (e:=a) mu (.inl rfl) (λb q hb z=>(hs.2 b hb).trans z) he new
end
def Km (i:abE):Prop:=∀ov iv,subscripted i false ov iv=operate [ov,iv] (aes ov iv)
theorem GA {A:aaD}{value slice:abE}{T id:String}(hl:typeLookup (.type T) "__getitem__"=pure (some (.builtin id)))(hs:Km slice)(h:aac (aar prog w) A (ade value env) (λo s₁=>aac (aar prog w) A (ade slice env) (λi s₂=>s₂.TypeIs o T/\aac (aar prog w) A (aes o i) Q E s₂) E s₁) E s) :
  aac (aar prog w) A (ade (.Subscript value slice pos) env) Q E s:=by
 refine Subscript_ (aa6 h (λo s₁ h₁=>aa6 h₁ (λi s₂ h₂=>?_) λ_ _ x=>x) λ_ _ x=>x);obtain⟨hT,h₂⟩:=h₂;unfold subscriptTail;refine ZL ?_;rw[getitemInPython_of_ne hT.not_modules];refine ZL (acS hT hl ?_);have fin:aac (aar prog w) A (subscripted slice false o i) (λr s₃=>aac (aar prog w) A (letTemporaryGo value o r >>= λ_=>pure r) Q E s₃) E s₂:=by
  rw[hs o i];exact wpAny_operating (aa6 h₂ (λr s₃ h₃=>ZL (wpAny_letTemporaryGo (ZN h₃))) λ_ _ x=>x)
 first
  |exact ZN (ZL fin)
  |exact ZL (ZN (ZL fin))
  |exact ZL fin
theorem wG {o:Option V}(I:aJ X pins σ H s)(g:Kl H a y o):s.TypeIs (.ref a) "dict":=by
 rcases g with⟨cF,k,e,_,_⟩|⟨cF,k,b,e,_,_,_⟩
 ·obtain⟨_,_,vs,_,dd⟩:=Dg I.hok e;exact dd.typeIs
 ·obtain⟨_,_,xs,_,dd⟩:=Di I.hok e;exact dd.typeIs
theorem Dj (h:acj)(hb:abZ<h.objs.size):dX P w H (h.push {cls:=.type "dict",data:=.dict #[]}) h.objs.size (.dK []):=
 ⟨aba _,beq_eq_false_iff_ne.mpr (Ne.symm (aaq hb)),[],.nil,Heap.DictOf.new h⟩
def Kn:TE:=λ_ H Q=>∀p,H p=none->Q (.ref p) (c_ H p (.dK []))
theorem wH:PE X (.Dict [] [] pos) Kn:=λpins s σ H Q I h=>
 wpAny_Dict_empty ⟨.ref s.heap.objs.size,_,I.laid (a:=s.heap.objs.size) (o:=.dK []) (t':=s.toks) (λ_ _ q=>ZP _ q) (Z2 _) (Dj s.heap I.big),rfl,h _ (I.hok.fresh (Z2 _))⟩
structure M1 (X:Cx)(o:abE)(m:Str)(gI:Pos)(e:abE)(cpos:Pos):Prop where
 base:adG o m X.env (ade o X.env)=ade o X.env
 few:((acq cpos (aaf [e] X.env)).all (λx=> !x.1)&&(backToKw cpos (aet [] X.env)).all (λx=>x.1.isSome)
  && decide (([e]:List abE).length+([]:List aeb).length+(if ([]:List aeb).isEmpty then 0 else 1)<30))=true
 line:(gI.endLine==cpos.line)=true
 trees:acq cpos (aaf [e] X.env)=[(false,ade e X.env)]
structure M2 (X:Cx)(o:abE)(m:Str)(gI:Pos)(e f:abE)(cpos:Pos):Prop where
 base:adG o m X.env (ade o X.env)=ade o X.env
 few:((acq cpos (aaf [e,f] X.env)).all (λx=> !x.1)&&(backToKw cpos (aet [] X.env)).all (λx=>x.1.isSome)
  && decide (([e,f]:List abE).length+([]:List aeb).length+(if ([]:List aeb).isEmpty then 0 else 1)<30))=true
 line:(gI.endLine==cpos.line)=true
 trees:acq cpos (aaf [e,f] X.env)=[(false,ade e X.env),(false,ade f X.env)]
def Wf (H:Hp)(a:Z5):Prop:=(∃cF,Rd H a (.dK cF))\/∃cF,Rd H a (.dT cF)
theorem Ko (I:aJ X pins σ H s)(d:Wf H a) :
  s.TypeIs (.ref a) "dict"/\(∀b,Value.ref a=.ref b->∃ob,s.heap.get? b=some ob/\ob.dict=none)/\(a==abZ)=false:=by
 rcases d with⟨cF,e⟩|⟨cF,e⟩
 ·obtain⟨_,hd,vs,_,dd⟩:=Dg I.hok e;refine⟨dd.typeIs,λb q=>?_,hd⟩;cases q;obtain⟨ob,_,_,h1,h2,_⟩:=dd;exact⟨ob,h1,h2.2.1⟩
 ·obtain⟨_,hd,xs,_,dd⟩:=Di I.hok e;refine⟨dd.typeIs,λb q=>?_,hd⟩;cases q;obtain⟨ob,_,_,h1,h2,_⟩:=dd;exact⟨ob,h1,h2.2.1⟩
end L2
namespace L2
end L2
namespace L2
theorem yB (hf:∀x,(x,NameKind.free)∈scope.names->∃c,env.cells.lookup x=some c) :
  ∃cl:List (Str×Z5),closureFor scope env=pure cl/\(∀x c,cl.lookup x=some c->env.cells.lookup x=some c)/\∀x,(x,NameKind.free)∈scope.names->∃c,cl.lookup x=some c:=by
 have gen:∀(names:List (Str×afc)) (cs:List (Str×Z5)),(∀x,(x,NameKind.free)∈names->∃c,env.cells.lookup x=some c)->(∀x c,cs.lookup x=some c->env.cells.lookup x=some c)->
   ∃cl:List (Str×Z5),(forIn names cs λ(x:Str×afc) (r:List (Str×Z5))=>(match x with|(name,kind)=>if (kind==NameKind.free)=true then (do let a ←cellOf env name;pure (ForInStep.yield ((name,a)::r))) else pure (ForInStep.yield r):Sem (ForInStep (List (Str×Z5)))))=(pure cl:Sem _)/\
    (∀x c,cl.lookup x=some c->env.cells.lookup x=some c)/\(∀x c,cs.lookup x=some c->∃c',cl.lookup x=some c')/\∀x,(x,NameKind.free)∈names->∃c,cl.lookup x=some c:=by
  intro names
  induction names with
  |nil=>intro cs _ h;exact⟨cs,rfl,h,λx c e=>⟨c,e⟩,λx hx=>absurd hx (by simp)⟩
  |cons p r ih=>
   intro cs hn h;obtain⟨n,k⟩:=p;by_cases hk:k=NameKind.free
   ·subst hk;obtain⟨c,hc⟩:=hn n ZS;have h':∀x c',((n,c)::cs).lookup x=some c'->env.cells.lookup x=some c':=λx c' e=>by
     rw[abB] at e;by_cases hx:x==n
     ·rw[hx] at e;have:x=n:=by simpa using hx
      subst this;cases e;exact hc
     ·rw[ac5.mpr hx] at e;exact h x c' e
    obtain⟨cl,e1,e2,e3,e4⟩:=ih ((n,c)::cs) (λx hx=>hn x (ZX _ hx)) h';refine⟨cl,?_,e2,λx c' e=>?_,λx hx=>?_⟩
    ·rw[adI];have:cellOf env n=pure c:=by unfold cellOf;rw[hc]
     simp only[beq_self_eq_true,if_true,this];exact e1
    ·by_cases hx:x=n
     ·subst hx;exact e3 x c (by rw[abB];simp)
     ·exact e3 x c' (by rw[abB,show (x==n)=false from by simpa using hx];exact e)
    ·rcases Z4.mp hx with e|hx
     ·cases e;exact e3 n c (by rw[abB];simp)
     ·exact e4 x hx
   ·obtain⟨cl,e1,e2,e3,e4⟩:=ih cs (λx hx=>hn x (ZX _ hx)) h;refine⟨cl,?_,e2,e3,λx hx=>?_⟩
    ·rw[adI];have:(k==NameKind.free)=false:=by simpa using hk
     simp only[this,aau,if_false];exact e1
    ·rcases Z4.mp hx with e|hx
     ·cases e;exact absurd rfl hk
     ·exact e4 x hx
 obtain⟨cl,e1,e2,_,e4⟩:=gen scope.names [] hf (λx c e=>by simp at e);refine⟨cl,?_,e2,e4⟩;unfold closureFor;exact (congrArg (λm=>m >>= λr=>pure r) e1).trans rfl
structure o7 where
 C:Z5
 s:Z8
 H:Hp
 fp:List Z5
 pins:List (Z5×Obj)
 cl:List (Str×Z5)
noncomputable abbrev d8 (X:Cx)(scope:ae2)(N:List Str)(Y:o7):Cx where
 prog:=X.prog
 w:=X.w
 K:=X.K
 mg:=X.mg
 base:=X.base
 A:=X.A
 N:=N
 s₀:=Y.s
 H₀:=Y.H
 env:=compEnvC scope Y.cl Y.C X.env
 outer:=X.stack
 stack:=X.stack
 ex:=Y.fp
 fn:=λ_=>false
 calm:=X.calm
 pn:=X.pn++Y.pins
 xe:=λ_ _=>False
noncomputable def qg (jP:ae2)(NX:List Str)(scope:ae2)(N:List Str)(js:List (Option Nat)):Bool:=
 decide (scope.kind=.function)&&scope.names.all (λy=>decide (y.2≠.cell))&&scope.names.all (λy=>decide (y.2=.local->scope.names.lookup y.1=some .local))&&decide (js.length=N.length) &&
 (js.zip N).all (λp=>match p.1 with|none=>true|some j=>decide (NX[j]? = some p.2)&&decide (scope.names.lookup p.2=some .free)) &&
 scope.names.all (λy=>decide (y.2=.free->jP.names.lookup y.1=some .cell\/jP.names.lookup y.1=some .free))
structure mf (jP:ae2)(NX:List Str)(scope:ae2)(N:List Str)(js:List (Option Nat)):Prop where
 kind:scope.kind=.function
 nocell:∀y∈scope.names,y.2≠.cell
 loc:∀y∈scope.names,y.2=.local->scope.names.lookup y.1=some .local
 len:js.length=N.length
 cap:∀(i j:Nat) (x:Str),js[i]? = some (some j)->N[i]? = some x->NX[j]? = some x/\scope.names.lookup x=some .free
 free:∀x,(x,NameKind.free)∈scope.names->jP.names.lookup x=some .cell\/jP.names.lookup x=some .free
theorem qg.to {jP:ae2}{NX:List Str}(h:qg jP NX scope N js=true):mf jP NX scope N js:=by
 unfold qg at h;simp only[aae] at h;obtain⟨⟨⟨⟨⟨h1,h2⟩,h3⟩,h4⟩,h5⟩,h6⟩:=h;refine⟨of_decide_eq_true h1,λy hy=>of_decide_eq_true (aaI.mp h2 y hy),λy hy=>of_decide_eq_true (aaI.mp h3 y hy),of_decide_eq_true h4,λi j x e1 e2=>?_,λx hx=>of_decide_eq_true (aaI.mp h6 (x,NameKind.free) hx) rfl⟩;have hz:(js.zip N)[i]? = some (some j,x):=by
  rw[List.getElem?_zip_eq_some];exact⟨e1,e2⟩
 have q:=aaI.mp h5 _ (aaV hz);simp only[aae] at q;exact⟨of_decide_eq_true q.1,of_decide_eq_true q.2⟩
noncomputable def tQ (js:List (Option Nat))(σ:St):St:=js.map λo=>match o with
 |none=>none
 |some j=>match σ[j]? with
  |some v=>v
  |none=>none
theorem mj (uL:∀y∈scope.names,y.2≠.cell)(h:(relabel scope env).names.lookup x=some .cell\/(relabel scope env).names.lookup x=some .free):(x,NameKind.free)∈scope.names:=by
 have gen:∀k,(k=NameKind.cell\/k=NameKind.free)->(relabel scope env).names.lookup x=some k->(x,NameKind.free)∈scope.names:=λk hk e=>by
  have hm:=aa0 e;obtain⟨⟨n,k0⟩,hy,q⟩:=aaP.mp hm;dsimp only at q;split at q
  ·rename_i c;simp only[aae,beq_iff_eq] at c;cases q;obtain⟨⟨c1,_⟩,_⟩:=c;rw[c1] at hy;exact hy
  ·cases q;rcases hk with hk|hk
   ·exact absurd hk (uL _ hy)
   ·rw[hk] at hy;exact hy
 rcases h with h|h
 ·exact gen _ (.inl rfl) h
 ·exact gen _ (.inr rfl) h
theorem eN {env:Env}{x:Str}:∀{names:List (Str×afc)},names.lookup x=some .free->
  (names.map λ(n,k)=>if (k==NameKind.free&&env.scope.kind==.function&&env.kindOf n==some .cell) then (n,NameKind.cell) else (n,k)).lookup x=some .cell \/
  (names.map λ(n,k)=>if (k==NameKind.free&&env.scope.kind==.function&&env.kindOf n==some .cell) then (n,NameKind.cell) else (n,k)).lookup x=some .free
 | [],h=>by simp at h
 | (n,k)::r,h=>by
  rw[Z_];by_cases hx:x==n
  ·rw[abB,hx] at h;cases h;by_cases c:(NameKind.free==NameKind.free&&env.scope.kind==.function&&env.kindOf n==some .cell)=true
   ·refine .inl ?_;show List.lookup x ((if (NameKind.free==NameKind.free&&env.scope.kind==.function&&env.kindOf n==some .cell)=true then (n,NameKind.cell) else (n,NameKind.free))::_)=_;rw[hV c,abB,hx]
   ·refine .inr ?_;show List.lookup x ((if (NameKind.free==NameKind.free&&env.scope.kind==.function&&env.kindOf n==some .cell)=true then (n,NameKind.cell) else (n,NameKind.free))::_)=_;rw[hU c,abB,hx]
  ·have sG:=ac5.mpr hx;rw[abB,sG] at h;have ih:=eN (env:=env) (x:=x) (names:=r) h;have e:∀p:Str×afc,p.1=n->List.lookup x (p::(r.map λ(n,k)=>if (k==NameKind.free&&env.scope.kind==.function&&env.kindOf n==some .cell) then (n,NameKind.cell) else (n,k))) =
     List.lookup x (r.map λ(n,k)=>if (k==NameKind.free&&env.scope.kind==.function&&env.kindOf n==some .cell) then (n,NameKind.cell) else (n,k)):=λp hp=>by
    obtain⟨p1,p2⟩:=p;cases hp;rw[abB,sG]
   rw[e _ (by dsimp only;split<;>rfl)];exact ih
def BG (X:Cx)(oX:List abE)(t:TT):Prop:=
 ∀(pins:List (Z5×Obj)) (s:Z8) (σ:St) (H:Hp) (Q:Bool->Hp->Prop),aJ X pins σ H s->t σ H Q->
  aac (aar X.prog X.w) X.A (forIn oX true λc r=>if r=true then do let ok ←isTrue c X.env (ade c X.env);pure (ForInStep.yield ok) else pure (ForInStep.yield r)) (TP X pins σ Q) X.xe s
def Qt:TT:=λ_ H Q=>Q true H
theorem Dk:BG X [] Qt:=λ_ _ _ H _ I h=>wpAny_tests_nil ⟨H,I,h⟩
theorem Dl {t:TT}(h:PT X c t):BG X [c] t:=λpins s σ H Q I q=>wpAny_tests_one (h pins s σ H Q I q)
end L2
namespace L2
theorem jY {A:aaD}{R:Result->Z8->Prop}{nX:abE}{it cN:ZO}(I:Nat->Z8->Prop)(turn:∀n s,I n s->aac (aar prog w) A (aef it) (λr s₁=>match r with
   |none=>R (.ok .next) s₁
   |some v=>aac (aar prog w) A (aer nX it v) (λ_ WL=>aac (aar prog w) A (assign nX env v) (λ_ s₂=>
     aac (aar prog w) A (forIn oX true λc r=>if r=true then do let ok ←isTrue c env (ade c env);pure (ForInStep.yield ok) else pure (ForInStep.yield r)) (λok s₃=>
      if ok=true then aac (aar prog w) A (ade elt env) (λx s₄=>
       aac (aar prog w) A (call (.builtin "list.append") [cN,x]) (λ_ s₅=>∃m,m<n/\I m s₅) (λ_ _=>False) s₄) (λ_ _=>False) s₃
      else ∃m,m<n/\I m s₃) (λ_ _=>False) s₂) (λ_ _=>False) WL) (λ_ _=>False) s₁) (λ_ _=>False) s)(n:Nat)(h:I n s) :
  codeAny (aar prog w) A (.compLoop (.ListComp elt [⟨nX,iter,oX,0⟩] scope pos) 0 it cN env) R s:=by
 refine codeAny_loop rfl I (λn s hI=>?_) n h;show aac _ A ((compTurn (.ListComp elt [⟨nX,iter,oX,0⟩] scope pos) 0 it cN env).onRaise (λx=>do noteFrame x env;theTreesLotGoes x)) _ _ s;refine wpAny_noted ?_;rw[compTurn_list];have fe:∀{e:ZO} {s':Z8} {Z:Prop},(λ(_:ZO) (_:Z8)=>False) e s'->Z:=λh=>h.elim;refine ZL (wpAny_standAt (ZL (aa6 (turn n s hI) (λr s₁ h₁=>?_) λ_ _ h'=>h'.elim)));cases r with
 |none=>exact ZN h₁
 |some v=>
  refine ZL (aa6 h₁ (λ_ WL XD=>?_) λ_ _ h'=>h'.elim);refine ZL (aa6 XD (λ_ s₂ h₂=>ZL (aa6 h₂ (λok s₃ h₃=>?_) λ_ _ h'=>h'.elim)) λ_ _ h'=>h'.elim);cases ok with
  |false=>exact ZN ⟨rfl,h₃⟩
  |true=>
   exact ZL (ZL (aa6 h₃ (λx s₄ h₄=>ZL (aa6 h₄ (λ_ s₅ h₅=>ZN (ZN ⟨rfl,h₅⟩)) λ_ _ h'=>h'.elim)) λ_ _ h'=>h'.elim))
def MS (J:It)(js:List (Option Nat))(g:o7->TG)(tt:o7->TT)(te:o7->TE)(σ:St)(H1:Hp)(P:List V->Hp->Prop):Prop:=
 ∀Y:o7,∃W:Nat->Nat->List V->Hp->Prop,(∃m,W 0 m [] H1)/\∀i m ys H2,W i m ys H2->
  (J.stop i H2/\P ys H2) \/
  (J.go i H2/\ys.length<ZY/\∃Nx:List V->Hp->Prop,(∀JM H',Nx JM H'->∃m',m'<m/\W (i+1) m' JM H')/\∀x H3,J.yld i H2 x H3->g Y x (tQ js σ) H3 λσ4 H4=>tt Y σ4 H4 λb H5=>
   if b=true then te Y σ4 H5 λy H6=>Nx (ys++[y]) H6 else Nx ys H5)
def Pj (wi:TI)(js:List (Option Nat))(g:o7->TG)(tt:o7->TT)(te:o7->TE):TE:=λσ H Q=>wi σ H λJ H1=>
 MS J js g tt te σ H1 λys H2=>∀p,H2 p=none->Q (.ref p) (c_ H2 p (.lst ys))
theorem qh {E:ZO->Z8->Prop}{s2:Z8}{jP:ae2}{g:o7->TG}{tt:o7->TT}{te:o7->TE}{J:It}{tn:Nat->acj->Prop}{P:List V->Hp->Prop}{cl:List (Str×Z5)}{RR:ZO->Z5->Result->Z8->Prop}(I:aJ X pins σ H s2)(hc:X.calm=true)(T:Bw X.prog X.w X.K tg J fp it tn)(kR:tn 0 s2.heap)(f2:∀b∈fp,oZ X pins H b)(sD:∀Y:o7,PG (d8 X scope N Y) tg (g Y)/\BG (d8 X scope N Y) oX (tt Y)/\PE (d8 X scope N Y) elt (te Y))(S:mf jP X.N scope N js)(jV:X.env.scope=jP)(c1:∀x c,cl.lookup x=some c->X.env.cells.lookup x=some c)(c2:∀x,(x,NameKind.free)∈scope.names->∃c,cl.lookup x=some c)(h:MS J js g tt te σ H P)(hR:∀(cN C:Z5) (ys:List V) (H':Hp) (s':Z8),aJ X pins σ (c_ H' cN (.lst ys)) s'->(∃m,s'.heap.Ns C m)->oZ X pins (c_ H' cN (.lst ys)) C->H' cN=none->P ys H'->RR (.ref cN) C (.ok .next) s') :
  aac (aar X.prog X.w) X.A (newList []) (λcN s₃=>aac (aar X.prog X.w) X.A (newFunctionEnv scope X.env.globals cl [] X.env.qual none .none (some X.env)) (λOy s₄=>
   codeAny (aar X.prog X.w) X.A (.compStart (.ListComp elt [⟨tg,iter,oX,0⟩] scope pos) 0 (.ref it) cN {Oy with scope:=relabel scope X.env}) (RR cN Oy.locals) s₄) E s₃) E s2:=by
 refine aaG (wpAny_newFunctionEnv S.nocell (by intro y hy;simp at hy) (λh₁ LM HQ=>?_) S.kind);dsimp only at LM HQ ⊢;generalize hH2:s2.heap.push {cls:=.type "list",dict:=none,data:=.seq ([]:List ZO).toArray}=H2 at LM HQ ⊢;have hC:H2.objs.size=s2.heap.objs.size+1:=by rw[←hH2,abg]
 have PQ:s2.heap.objs.size≠H2.objs.size:=by rw[hC];exact aaq (aed _)
 have HU:s2.heap.objs.size<=H2.objs.size:=by rw[hC];exact Nat.le_succ _
 have below:∀b,b<s2.heap.objs.size->b≠H2.objs.size/\b≠s2.heap.objs.size:=λb hb=>⟨by rw[hC];exact aaq (ab1 hb),aaq hb⟩;have old:∀b o,s2.heap.get? b=some o->h₁.get? b=some o:=λb o e=>HQ.extBut b o (below b (Z9 e)).1 (ZP _ (hH2▸ZP _ e));have FO:h₁.PlainList s2.heap.objs.size #[]:=⟨_,HQ.extBut _ _ PQ (ZP _ (hH2▸Z3 _ rfl))⟩;have Rx:∀b∈fp,b<s2.heap.objs.size:=λb hb=>by
  obtain⟨o,e,_⟩:=T.obj _ _ kR b hb;exact Z9 e
 generalize hCg:H2.objs.size=C at *;generalize hAg:s2.heap.objs.size=cN at *
 let Y:o7:=⟨C,s2,H,fp,pins,cl⟩
 have ok:(d8 X scope N Y).Ok:=by
  refine⟨I.ok.mod,S.kind,I.ok.glob,I.ok.blt,?_,λx y c e1 e2=>I.ok.inj x y c (c1 x c e1) (c1 y c e2),λx hx=>c2 x (mj S.nocell hx),λx c e=>(by cases e),I.ok.hd,I.ok.frames,.inl rfl,λb hb=>⟨?_,λx c e=>?_⟩,I.bs,aaT I.ok.bsz I.sz,λb o e hb=>?_,λb hb hf=>?_,I.stack,I.stkFree⟩
  ·show s2.heap.objs.size<=C;rw[hAg];exact HU
  ·exact (below b (Rx b hb)).1
  ·exact (f2 b hb).2.2.2.2.1 x c (c1 x c e)
  ·rcases (f2 b hb).2.2.2.1 with z|z
   ·exact I.ok.noex b o e z
   ·exact absurd (aaB (Z9 (I.ok.bs b o e).1) z) (abL _)
  ·rcases Z4.mp (I.stkSub b hf) with z|z
   ·exact (f2 b hb).2.1 z
   ·exact (f2 b hb).2.2.1 z
 have Ry:∀x c,X.env.cells.lookup x=some c->c<cN:=λx c e=>by
  obtain⟨v,q⟩:=I.cell x c e;rw[←hAg];exact q.lt
 have JH:∀p∈X.pn++pins,p.1<cN:=λp hp=>by rw[←hAg];exact Z9 (I.pin p hp).1
 have Zz:X.env.locals<cN:=by rw[←hAg];exact I.lt
 have Oz:∀b∈zW X.stack,b<cN:=λb hb=>by
  obtain⟨_,o,ho,_⟩:=I.stack.mem hb;rw[←hAg];exact Z9 ho
 have OA:∀p∈X.pn++pins,p.1∉zW X.stack:=λp hp hf=>by
  rcases Z4.mp (I.stkSub _ hf) with z|z
  ·exact (I.pin p hp).2.2.1 z
  ·exact (I.pin p hp).2.2.2.1 z
 have Bp:H cN=none:=by rw[←hAg];exact I.hok.fresh (Z2 _)
 have XF:H C=none:=I.hok.fresh (by rw[hAg];exact HU);have I4:∀tk:Nat,aJ (d8 X scope N Y) [] (tQ js σ) H {s2 with heap:=h₁,toks:=tk}:=λtk=>by
  refine⟨ok,rfl,I.bare,Un.kept old,⟨_,LM,λi x v e1 e2 e3=>?_⟩,λx c e=>?_,XF,λx c e=>I.freeC x c (c1 x c e),λp hp=>?_,I.hok.kept old,?_⟩
  ·
   have HV:(tQ js σ)[i]? = some (some v):=e2;unfold tQ at HV;rw[aay] at HV;cases hj:js[i]? with
   |none=>rw[hj] at HV;cases HV
   |some o=>
    rw[hj] at HV;cases o with
    |none=>cases HV
    |some j=>
     have e4:(match σ[j]? with|some v=>v|none=>none)=some v:=aaj HV;obtain⟨nx,fr⟩:=S.cap i j x hj e1;have e5:σ[j]? = some (some v):=by
      cases q:σ[j]? with
      |none=>rw[q] at e4;cases e4
      |some z=>rw[q] at e4;rw[show z=some v from e4]
     obtain⟨m,hn,hl⟩:=I.loc;have kx:X.env.scope.names.lookup x=some .cell\/X.env.scope.names.lookup x=some .free:=by rw[jV];exact S.free x (aa0 fr)
     obtain⟨u,r,lk⟩:=hl j x v nx e5 (.inr kx);refine⟨u,r,.inr ⟨eN fr,?_⟩⟩;obtain⟨c,hcl⟩:=c2 x (aa0 fr);rcases lk with⟨k,_⟩|⟨k,c',e',z⟩
     ·have k':X.env.scope.names.lookup x=some .local:=k;rcases kx with q|q<;>· rw[q] at k';cases k'
     ·have:c'=c:=by
       have:=c1 x c hcl;rw[e'] at this;exact aaj this
      subst this;obtain⟨o,ho,hd⟩:=z;exact⟨c',hcl,o,old _ _ ho,hd⟩
  ·obtain⟨v,o,ho,hd⟩:=I.cell x c (c1 x c e);exact⟨v,o,old _ _ ho,hd⟩
  ·have Bq:p∈X.pn++pins:=by simpa using hp
   obtain⟨q1,q2,q3,q4,q5⟩:=I.pin p Bq;exact⟨old _ _ q1,q2,λz=>absurd (JH p Bq) (by rw[z];exact Nat.not_lt.mpr HU),OA p Bq,q5⟩
  ·show (tQ js σ).length=N.length;unfold tQ;rw[ZW];exact S.len
 obtain⟨hg,ht,he⟩:=sD Y;obtain⟨W,⟨m0,w0⟩,turn⟩:=h Y;have Rz:∀{H':Hp} {pl:List (Z5×Obj)},H' cN=none->(∀p∈pl,p.1≠cN)->oZ (d8 X scope N Y) pl H' cN:=λ{H' pl} hn hp=>by
  refine⟨hn,PQ,λz=>absurd (Oz _ z) (abL _),.inr (by show s2.heap.objs.size<=cN;rw[hAg];exact Z2 _),λx c e=>aaq (Ry x c (c1 x c e)),λp Bq=>?_⟩;rcases aai.mp Bq with z|z
  ·exact aaq (JH p z)
  ·exact hp p z
 have RA:∀{H':Hp} {pl:List (Z5×Obj)},(∀b∈fp,H' b=none)->(∀p∈pl,p.1∉fp)->∀b∈fp,oZ (d8 X scope N Y) pl H' b:=λ{H' pl} hn hp b hb=>by
  refine⟨hn b hb,(below b (Rx b hb)).1,λz=>?_,.inl hb,λx c e=>(f2 b hb).2.2.2.2.1 x c (c1 x c e),λp Bq=>?_⟩
  ·rcases Z4.mp (I.stkSub b z) with q|q
   ·exact (f2 b hb).2.1 q
   ·exact (f2 b hb).2.2.1 q
  ·rcases aai.mp Bq with z|z
   ·exact (f2 b hb).2.2.2.2.2 p z
   ·exact λe=>hp p z (by rw[e];exact hb)
 have WM:cN∉fp:=λz=>absurd (Rx cN z) (by intro q;rw[hAg] at *;exact abL _ q);have RB:∀{i:Nat} {x:Str} {v:V},N[i]? = some x->(tQ js σ)[i]? = some (some v)->∃u c o,bx v u/\scope.names.lookup x=some .free/\cl.lookup x=some c/\s2.heap.get? c=some o/\o.data=.cell (some u):=λ{i x v} e1 e2=>by
  unfold tQ at e2;rw[aay] at e2;cases hj:js[i]? with
  |none=>rw[hj] at e2;cases e2
  |some o=>
   rw[hj] at e2;cases o with
   |none=>cases e2
   |some j=>
    have e4:(match σ[j]? with|some v=>v|none=>none)=some v:=aaj e2;obtain⟨nx,fr⟩:=S.cap i j x hj e1;have e5:σ[j]? = some (some v):=by
     cases q:σ[j]? with
     |none=>rw[q] at e4;cases e4
     |some z=>rw[q] at e4;rw[show z=some v from e4]
    obtain⟨m,hn,hl⟩:=I.loc;have kx:X.env.scope.names.lookup x=some .cell\/X.env.scope.names.lookup x=some .free:=by rw[jV];exact S.free x (aa0 fr)
    obtain⟨u,r,lk⟩:=hl j x v nx e5 (.inr kx);obtain⟨c,hcl⟩:=c2 x (aa0 fr);rcases lk with⟨k,_⟩|⟨k,c',e',z⟩
    ·have k':X.env.scope.names.lookup x=some .local:=k;rcases kx with q|q<;>· rw[q] at k';cases k'
    ·have:c'=c:=by
      have:=c1 x c hcl;rw[e'] at this;exact aaj this
     subst this;obtain⟨o,ho,hd⟩:=z;exact⟨u,c',o,r,fr,hcl,ho,hd⟩
 have OB:∀{pl:List (Z5×Obj)} {σ':St} {H':Hp} {s':Z8},aJ (d8 X scope N Y) pl σ' H' s'->aJ (d8 X scope N Y) pl (tQ js σ) H' s':=λ{pl σ' H' s'} K=>by
  refine⟨K.ok,K.os,K.bare,K.base,?_,K.cell,K.free,K.freeC,K.pin,K.hok,?_⟩
  ·obtain⟨m,hn,_⟩:=K.loc;refine⟨m,hn,λi x v e1 e2 e3=>?_⟩;obtain⟨u,c,o,r,fr,hcl,ho,hd⟩:=RB e1 e2;refine⟨u,r,.inr ⟨eN fr,c,hcl,?_⟩⟩;obtain⟨sl,q⟩:=K.base.any ho (I.freeC x c (c1 x c hcl)) λz=>(f2 c z).2.2.2.2.1 x c (c1 x c hcl) rfl;exact⟨_,q,hd⟩
  ·show (tQ js σ).length=N.length;unfold tQ;rw[ZW];exact S.len
 have loop:∀tk:Nat,codeAny (aar X.prog X.w) X.A (.compLoop (.ListComp elt [⟨tg,iter,oX,0⟩] scope pos) 0 (.ref it) (.ref cN) (compEnvC scope cl C X.env)) (RR (.ref cN) C) {s2 with heap:=h₁,toks:=tk}:=by
  intro tk;refine jY (λn s'=>∃(i:Nat) (ys:List V) (its:List ZO) (H':Hp),aJ (d8 X scope N Y) [] (tQ js σ) H' s'/\tn i s'.heap/\(∀b∈fp,H' b=none)/\H' cN=none/\s'.heap.PlainList cN its.toArray/\bh ys its/\ys.length<=ZY/\W i n ys H') ?_ m0
   ⟨0,[],[],H,I4 tk,T.keep _ _ _ kR (λb hb o e=>old b o e),λb hb=>(f2 b hb).1,Bp,FO,.nil,aba _,w0⟩
  rintro n s3 ⟨i,ys,its,H3,I3,F7,fr3,na3,⟨nn,ea⟩,rv3,hz3,w3⟩;have LN:∀p∈[(cN,({cls:=.type "list",data:=.seq its.toArray nn}:Obj))],p.1∉fp:=λp hp=>by
   have e:p=(cN,({cls:=.type "list",data:=.seq its.toArray nn}:Obj)):=by simpa using hp
   rw[e];exact WM
  have Ip:aJ (d8 X scope N Y) [(cN,({cls:=.type "list",data:=.seq its.toArray nn}:Obj))] (tQ js σ) H3 s3:=I3.pins_of λp hp=>by
   have e:p=(cN,({cls:=.type "list",data:=.seq its.toArray nn}:Obj)):=by simpa using hp
   subst e;exact⟨ea,na3,PQ,λz=>absurd (Oz _ z) (abL _),λv z=>by cases z⟩
  rcases turn i n ys H3 w3 with⟨stop,p⟩|⟨go,yp,Nx,hNx,step⟩
  ·refine aa6 (T.done (d8 X scope N Y) rfl rfl rfl hc i _ s3 _ H3 (λ_ _=>False) Ip (RA fr3 LN) F7 stop) (λr s4 XG=>?_) λ_ _ z=>z;obtain⟨hr,J4⟩:=XG;subst hr;have pa:=(J4.pin (cN,({cls:=.type "list",data:=.seq its.toArray nn}:Obj)) (Z6 _ ZS)).1;have u:Un (zW X.stack) fp H (c_ H3 cN (.lst ys)) s2.heap s4.heap:=
    ⟨J4.base.keep,J4.base.slot,λb o e nb hx=>by rw[bp (below b (by rw[←hAg];exact Z9 e)).2];exact J4.base.free b o e nb hx,J4.base.there,
     λb xs e=>by rw[bp (bY e Bp)];exact J4.base.tups b xs e,λb o w' e=>by rw[bp (bY e Bp)];exact J4.base.frzs b o w' e,λb ps e=>by rw[bp (bY e Bp)];exact J4.base.tbls b ps e⟩
   have hok:kT X.prog X.w (c_ H3 cN (.lst ys)) s4.heap:=λb o e=>by
    by_cases hb:b=cN
    ·subst hb;rw[bS] at e;cases e;exact⟨hz3,its,nn,rv3,pa⟩
    ·rw[bp hb] at e;refine (J4.hok b o e).stay (λ_ _ _ q=>q) (λc q=>?_) λc xs q=>?_
     ·rw[bp (bY q na3)];exact q
     ·rw[bp (bY q na3)];exact q
   have RC:aJ X pins σ (c_ H3 cN (.lst ys)) s4:=I.call' (ch:=fp) J4.os u hok J4.bare λb hb=>⟨(f2 b hb).2.2.2.1,(f2 b hb).2.1,(f2 b hb).2.2.2.2.1,(f2 b hb).2.2.2.2.2⟩;have XH:∃m,s4.heap.Ns C m:=by obtain⟨m,hn,_⟩:=J4.loc;exact⟨m,hn⟩
   exact hR cN C ys H3 s4 RC XH (I.fpOk (by rw[hAg];exact HU) (by rw[bp (Ne.symm PQ)];exact J4.free)) na3 p
  ·refine aa6 (T.item (d8 X scope N Y) rfl rfl rfl hc i _ s3 _ H3 (λ_ _=>False) Ip (RA fr3 LN) F7 go) (λr s4 h4=>?_) λ_ _ z=>z;obtain⟨u,hr,h4⟩:=h4;subst hr;refine aa6 h4 (λ_ s5 h5=>?_) λ_ _ z=>z;obtain⟨x,H5,I5,r5,y5,st5,fr5⟩:=h5;have Rm:=I5.pinned (RA fr5 LN) (T.obj _ _ st5);refine aa6 (hg _ s5 _ H5 x u _ Rm r5 (step x H5 y5)) (λ_ s6 h6=>?_) λ_ _ z=>z;obtain⟨σ6,H6,I6,q6⟩:=h6;refine aa6 (ht _ s6 σ6 H6 _ I6 q6) (λb s7 h7=>?_) λ_ _ z=>z;obtain⟨H7,I7,q7⟩:=h7;have OC:∀{H8:Hp} {σ8:St} {s8:Z8},aJ (d8 X scope N Y) ([(cN,({cls:=.type "list",data:=.seq its.toArray nn}:Obj))]++p0 fp s5.heap) σ8 H8 s8->
     s8.heap.get? cN=some ({cls:=.type "list",data:=.seq its.toArray nn}:Obj)/\H8 cN=none/\(∀b∈fp,H8 b=none)/\(∀b∈fp,∀o,s5.heap.get? b=some o->s8.heap.get? b=some o):=λ{H8 σ8 s8} K=>by
    have q:=K.pin (cN,({cls:=.type "list",data:=.seq its.toArray nn}:Obj)) (Z6 _ (aat _ ZS));refine⟨q.1,q.2.1,λb hb=>?_,λb hb o e=>(K.pin (b,o) (Z6 _ (Z6 _ (jv hb e)))).1⟩;obtain⟨o,e,d⟩:=T.obj _ _ st5 b hb;exact (K.pin (b,o) (Z6 _ (Z6 _ (jv hb e)))).2.1
   have FP:∀{H8:Hp} {σ8:St} {s8:Z8} {pl:List (Z5×Obj)},aJ (d8 X scope N Y) pl σ8 H8 s8->aJ (d8 X scope N Y) [] σ8 H8 s8:=λK=>K.pins_of λp hp=>absurd hp (by simp);cases b with
   |false=>
    rw[hU (by simp)] at q7;obtain⟨m',hm,w7⟩:=hNx _ _ q7;obtain⟨p1,p2,p3,p4⟩:=OC I7;exact⟨m',hm,i+1,ys,its,H7,OB (FP I7),T.keep _ _ _ st5 p4,p3,p2,⟨nn,p1⟩,rv3,hz3,w7⟩
   |true=>
    rw[hV rfl] at q7;refine aa6 (he _ s7 σ6 H7 _ I7 q7) (λv s8 h8=>?_) λ_ _ z=>z;obtain⟨y,H8,I8,r8,q8⟩:=h8;obtain⟨m',hm,w8⟩:=hNx _ _ q8;obtain⟨p1,p2,p3,p4⟩:=OC I8;refine wpAny_list_append_plain (items:=its.toArray) ⟨nn,p1⟩ (λh' XI sb=>?_) (by rw[ZU,←rv3.length];exact hz3);obtain⟨f0,f1,f2',f3,f4,f5⟩:=Rz (H':=H8) (pl:=[]) p2 (by simp);have I9:aJ (d8 X scope N Y) [] σ6 H8 {s8 with heap:=h'}:=(FP I8).turned (t':=s8.toks) (λb o hb e=>(sb.2 b hb).trans e) f0 f1 f3 f4 f5;refine⟨m',hm,i+1,ys++[y],its++[v],H8,OB I9,T.keep _ _ _ st5 (λb hb o e=>(sb.2 b (λz=>WM (z▸hb))).trans (p4 b hb o e)),p3,p2,?_,rv3.append (.cons r8 .nil),?_,w8⟩
    ·rw[show (its++[v]).toArray=its.toArray.push v from by simp];exact XI
    ·rw[ZZ,acR];exact yp
 exact codeAny_compStart_list (loop _) (T.self _ _ _ _ _ (T.keep _ _ _ kR (λb hb o e=>old b o e)) (loop _))
theorem qi {jP:ae2}(I:aJ X pins σ H s)(S:mf jP X.N scope N js)(jV:X.env.scope=jP) :
  ∃cl:List (Str×Z5),closureFor scope X.env=pure cl/\(∀x c,cl.lookup x=some c->X.env.cells.lookup x=some c)/\∀x,(x,NameKind.free)∈scope.names->∃c,cl.lookup x=some c:=
 yB λx hx=>I.ok.has x (by
  have:=S.free x hx;rw[←jV] at this;exact this)
theorem Ig {g:o7->TG}{tt:o7->TT}{te:o7->TE}(jP:ae2)(NX N:List Str)(js:List (Option Nat))(hc:X.calm=true)(hi:PI X tg iter wi)(sD:∀Y:o7,PG (d8 X scope N Y) tg (g Y)/\BG (d8 X scope N Y) oX (tt Y)/\PE (d8 X scope N Y) elt (te Y))(jV:X.env.scope=jP:=by rfl)(FQ:X.N=NX:=by rfl)(hS:qg jP NX scope N js=true:=by decide+kernel)(hs:∀x,abj iter X.env x=pure x:=by intro _;rfl):PE X (.ListComp elt [⟨tg,iter,oX,0⟩] scope pos) (Pj wi js g tt te):=by
 intro pins s σ H Q I h;have S:mf jP X.N scope N js:=by rw[FQ];exact qg.to hS
 obtain⟨cl,e1,e2,e3⟩:=qi I S jV;rw[eval_ListComp];refine wpAny_comprehension_free (use:=none) rfl hs e1 S.kind S.loc (eG (hi pins s σ H _ I h) λv s1 h1=>eG h1 λPM s2 h2=>?_);obtain⟨it,fp,tn,J,H2,e,I2,T,kR,f2,q⟩:=h2;subst e;refine qh (RR:=λcN C=>compPost (aar X.prog X.w) X.A X.xe none (EP X pins σ Q) cN C) I2 hc T kR f2 sD S jV e2 e3 q ?_;intro cN C ys H' s' I' ns fC na p;obtain⟨m,hn⟩:=ns;obtain⟨f0,f1,f2',f3,f4,f5⟩:=fC;exact⟨m,hn,λh' sb=>⟨.ref cN,_,I'.turned (t':=s'.toks) (λb o hb e=>(sb.2 b hb).trans e) f0 f1 f3 f4 f5,rfl,p cN na⟩⟩
theorem wI {lh jW:Pos}{g:o7->TG}{tt:o7->TT}{te:o7->TE}(jP:ae2)(NX N:List Str)(js:List (Option Nat))(hN:X.N.Nodup)(hx:X.N[i]? = some x)(hl:FZ X.env.scope x)(hc:X.calm=true)(hi:PI X tg iter wi)(sD:∀Y:o7,PG (d8 X scope N Y) tg (g Y)/\BG (d8 X scope N Y) oX (tt Y)/\PE (d8 X scope N Y) elt (te Y))(jV:X.env.scope=jP:=by rfl)(FQ:X.N=NX:=by rfl)(hS:qg jP NX scope N js=true:=by decide+kernel)(hw:ad_ (.ListComp elt [⟨tg,iter,oX,0⟩] scope jW) (some (.Name x lh)) pos.line X.env=pure true:=by rfl)(hf:X.fn x=true\/X.env.scope.names.lookup x=some .local:=by first|exact .inl rfl|exact .inr rfl|assumption)(hs:∀x,abj iter X.env x=pure x:=by intro _;rfl) :
  PS X (.Assign [.Name x lh] (.ListComp elt [⟨tg,iter,oX,0⟩] scope jW) pos) (CP (Pj wi js g tt te) (wz i)):=by
 intro pins s σ H D I h;have S:mf jP X.N scope N js:=by rw[FQ];exact qg.to hS
 obtain⟨cl,e1,e2,e3⟩:=qi I S jV;rw[exec_Assign_Name_used _ _ _ _ hw];refine ZL (wpAny_standAt (ZL ?_));show aac _ X.A (do let _ ←comprehension (.ListComp elt [⟨tg,iter,oX,0⟩] scope jW) scope X.env _ (newList []) false (ade iter X.env) (some (assign (.Name x lh) X.env))) _ _ s;refine ZL (aa6 (wpAny_comprehension_free (use:=some (assign (.Name x lh) X.env)) (Q:=λ_ s'=>SP X pins D .next s') rfl hs e1 S.kind S.loc
  (eG (hi pins s σ H _ I h) λv s1 h1=>eG h1 λPM s2 h2=>?_)) (λ_ s' hq=>ZN (ZN hq)) λ_ _ e=>e)
 obtain⟨it,fp,tn,J,H2,e,I2,T,kR,f2,q⟩:=h2;subst e;refine qh (RR:=λcN C=>compPost (aar X.prog X.w) X.A X.xe (some (assign (.Name x lh) X.env)) (λ_ s'=>SP X pins D .next s') cN C) I2 hc T kR f2 sD S jV e2 e3 q ?_;intro cN C ys H' s' I' ns fC na p;obtain⟨m,hn⟩:=ns;obtain⟨f0,f1,f2',f3,f4,f5⟩:=fC;show aac _ X.A (assign (.Name x lh) X.env (.ref cN)) _ _ _;refine wpAny_assign_Name (tH I' hN hx hl (v:=.ref cN) rfl (λLJ XJ XM=>?_) hf);obtain⟨a,sb,ha⟩:=XM;have aC:C≠a:=by
  rcases ha with ha|ha
  ·rw[ha];exact f1
  ·exact λz=>f4 x a ha z.symm
 refine⟨m,hn.sameBut sb aC,λh' XN=>⟨_,_,XJ.turned (t':=LJ.toks) (λb o hb e=>(XN.2 b hb).trans e) f0 f1 f3 f4 f5,?_⟩⟩;exact p cN na
def MT (J:It)(g:TG)(tb:TS)(D:lF)(σ:St)(H1:Hp):Prop:=∃W:Nat->Nat->St->Hp->Prop,(∃m,W 0 m σ H1)/\∀i m σ H,W i m σ H->
 (J.stop i H/\D.nx σ H)\/(J.go i H/\∃N:St->Hp->Prop,(∀σ' H',N σ' H'->∃m',m'<m/\W (i+1) m' σ' H')/\∀x H',J.yld i H x H'->g x σ H' λσ2 H2=>tb {D with nx:=N,ct:=N,bk:=D.nx} σ2 H2)
def MU (wi:TI)(g:TG)(tb:TS):TS:=λD σ H=>wi σ H λJ H1=>MT J g tb D σ H1
theorem Ae {g:TG}{tb:TS}(hp:afe (aar X.prog X.w) X.A X.env X.xe)(hc:X.calm=true)(hi:PI X tg iter wi)(hg:PG X tg g)(hb:sJ X body tb)(hs:∀x,abj iter X.env x=pure x:=by intro _;rfl):PS X (.For tg iter body [] pos) (MU wi g tb):=Ka hp hc hi hg hb hs
end L2
namespace L2
inductive D where
 |non|bl (b:Bool)|int (i:Int)|str (x:Str)|tup (xs:List D)|lst (xs:List D)
instance:Inhabited D:=⟨.non⟩
mutual
def aW (K:ZQ)(H:Hp):D->V->Prop
 | .non,v=>v=.non
 | .bl b,v=>v=.bl b
 | .int i,v=>v=.int i
 | .str x,v=>v=.str x
 | .tup ds,v=>∃a xs,v=.ref a/\gz K H a xs/\fT K H ds xs
 | .lst ds,v=>∃a xs,v=.ref a/\fS K H a xs/\fT K H ds xs
def fT (K:ZQ)(H:Hp):List D->List V->Prop
 | [],xs=>xs=[]
 |d::ds,xs=>∃x r,xs=x::r/\aW K H d x/\fT K H ds r
end
mutual
noncomputable def jw:D->D->Bool
 | .non,.non=>true
 | .bl a,.bl b=>a==b
 | .bl a,.int b=>(if a then 1 else 0)==b
 | .int a,.bl b=>a==(if b then 1 else 0)
 | .int a,.int b=>a==b
 | .str a,.str b=>a==b
 | .tup xs,.tup ys=>nj xs ys
 | .lst xs,.lst ys=>nj xs ys
 |_,_=>false
noncomputable def nj:List D->List D->Bool
 | [],[]=>true
 |x::xs,y::ys=>jw x y&&nj xs ys
 |_,_=>false
end
mutual
noncomputable def eO:D->Nat
 | .tup xs=>jJ xs+1
 | .lst xs=>jJ xs+1
 |_=>0
noncomputable def jJ:List D->Nat
 | []=>0
 |x::xs=>max (eO x) (jJ xs)
end
theorem fT.length {K:ZQ}{H:Hp}:∀{ds:List D} {xs:List V},fT K H ds xs->ds.length=xs.length
 | [],_,h=>by unfold fT at h;subst h;rfl
 |d::ds,_,h=>by
  unfold fT at h;obtain⟨x,r,rfl,_,q⟩:=h;rw[ZT,ZT,fT.length q]
theorem fT.get {K:ZQ}{H:Hp}:∀{ds:List D} {xs:List V} {i:Nat} {d:D} {x:V},fT K H ds xs->ds[i]? = some d->xs[i]? = some x->aW K H d x
 | [],_,_,_,_,_,e,_=>by simp at e
 |d::ds,_,i,d',x',h,e1,e2=>by
  unfold fT at h;obtain⟨x,r,rfl,p,q⟩:=h;cases i with
  |zero=>simp at e1 e2;subst e1 e2;exact p
  |succ i=>exact fT.get q (by simpa using e1) (by simpa using e2)
theorem fY:∀{ds:List D} {i:Nat} {d:D},ds[i]? = some d->eO d<=jJ ds
 | [],_,_,e=>by simp at e
 |d::ds,i,d',e=>by
  unfold jJ;cases i with
  |zero=>simp at e;subst e;exact Nat.le_max_left _ _
  |succ i=>exact aaT (fY (ds:=ds) (by simpa using e)) (Nat.le_max_right _ _)
noncomputable def d9 (xs ys:List D)(j:Nat):Bool:=match xs[j]?,ys[j]? with
 |some a,some b=>jw a b
 |_,_=>true
theorem gA:∀(xs ys:List D),((aaA (min xs.length ys.length)).all (d9 xs ys)&&xs.length==ys.length)=nj xs ys
 | [],[]=>by simp[nj]
 | [],_::_=>by simp[nj]
 |_::_,[]=>by simp[nj]
 |x::xs,y::ys=>by
  have ih:=gA xs ys;unfold nj;rw[←ih,ZT,ZT,Nat.add_min_add_right,List.range_succ_eq_map,adJ,List.all_map];have e0:d9 (x::xs) (y::ys) 0=jw x y:=rfl;have e1:(d9 (x::xs) (y::ys)∘Nat.succ)=d9 xs ys:=by funext j;simp[d9,Function.comp]
  rw[e0,e1,Bool.and_assoc];congr 1;congr 1;rw[acT];simp
theorem qj {xs ys:List D}(h:xs.length≠ys.length):nj xs ys=false:=by
 rw[←gA,show (xs.length==ys.length)=false from by simpa using h,ad6]
mutual
theorem qk:∀d:D,jw d d=true
 | .non=>rfl
 | .bl b=>by unfold jw;simp
 | .int b=>by unfold jw;simp
 | .str b=>by unfold jw;simp
 | .tup xs=>by unfold jw;exact nq xs
 | .lst xs=>by unfold jw;exact nq xs
theorem nq:∀ds:List D,nj ds ds=true
 | []=>rfl
 |d::ds=>by unfold nj;rw[qk d,nq ds];rfl
end
theorem MV {ys:List V}(I:aJ X pins σ H s)(h:fS X.K H a xs)(h':gz X.K H a ys):False:=by
 obtain⟨its,_,p,_⟩:=I.list h;obtain⟨its',_,q,_⟩:=I.tuple h';exact absurd rfl (SeqAt.ne_of_list_tuple p.isList q)
theorem wJ (I:aJ X pins σ H s):∀n d1 d2 x,eO d1<=n->aW X.K H d1 x->aW X.K H d2 x->jw d1 d2=true:=by
 have lists:∀n,(∀d1 d2 x,eO d1<=n->aW X.K H d1 x->aW X.K H d2 x->jw d1 d2=true)->∀(ds es:List D) (xs:List V),jJ ds<=n->fT X.K H ds xs->fT X.K H es xs->nj ds es=true:=by
  intro n ih ds
  induction ds with
  |nil=>
   intro es xs _ h1 h2;unfold fT at h1;subst h1;cases es with
   |nil=>rfl
   |cons e es=>unfold fT at h2;obtain⟨x,r,e',_⟩:=h2;cases e'
  |cons d ds ihd=>
   intro es xs hd h1 h2;unfold fT at h1;obtain⟨x,r,rfl,p,q⟩:=h1;cases es with
   |nil=>unfold fT at h2;cases h2
   |cons e es=>
    unfold fT at h2;obtain⟨x',r',e',p',q'⟩:=h2;cases e';unfold jJ at hd;unfold nj;rw[ih d e x (aaT (Nat.le_max_left _ _) hd) p p',ihd es r (aaT (Nat.le_max_right _ _) hd) q q'];rfl
 intro n
 induction n with
 |zero=>
  intro d1 d2 x hd h1 h2;have fl:∀d,aW X.K H d x->(∃a,x=.ref a)\/(d=.non/\x=.non)\/(∃b,d=.bl b/\x=.bl b)\/(∃b,d=.int b/\x=.int b)\/∃b,d=.str b/\x=.str b:=λd h=>by
   cases d with
   |non=>unfold aW at h;exact .inr (.inl ⟨rfl,h⟩)
   |bl b=>unfold aW at h;exact .inr (.inr (.inl ⟨b,rfl,h⟩))
   |int b=>unfold aW at h;exact .inr (.inr (.inr (.inl ⟨b,rfl,h⟩)))
   |str b=>unfold aW at h;exact .inr (.inr (.inr (.inr ⟨b,rfl,h⟩)))
   |tup ds=>unfold aW at h;obtain⟨a,_,e,_⟩:=h;exact .inl ⟨a,e⟩
   |lst ds=>unfold aW at h;obtain⟨a,_,e,_⟩:=h;exact .inl ⟨a,e⟩
  have nr:¬∃a,x=.ref a:=λh00=>by
   obtain⟨a,e⟩:=h00;subst e;cases d1 with
   |tup ds=>unfold eO at hd;lia
   |lst ds=>unfold eO at hd;lia
   |_=>unfold aW at h1;cases h1
  have f1:=fl d1 h1;have f2:=fl d2 h2;rcases f1 with f1|⟨rfl,rfl⟩|⟨b,rfl,rfl⟩|⟨b,rfl,rfl⟩|⟨b,rfl,rfl⟩
  ·exact absurd f1 nr
  all_goals
   rcases f2 with f2|⟨rfl,f2⟩|⟨c,rfl,f2⟩|⟨c,rfl,f2⟩|⟨c,rfl,f2⟩
   ·exact absurd f2 nr
   all_goals first|(cases f2;exact qk _)|cases f2
 |succ n ih=>
  intro d1 d2 x hd h1 h2;cases d1 with
  |tup ds=>
   unfold aW at h1;obtain⟨a,xs,rfl,hs,hr⟩:=h1;cases d2 with
   |tup es=>
    unfold aW at h2;obtain⟨a',xs',e,hs',hr'⟩:=h2;cases e;have:=I.tuple_inj hs hs';subst this;unfold jw;exact lists n ih ds es xs (by unfold eO at hd;lia) hr hr'
   |lst es=>
    unfold aW at h2;obtain⟨a',xs',e,hs',hr'⟩:=h2;cases e;exact (MV I hs' hs).elim
   |_=>unfold aW at h2;cases h2
  |lst ds=>
   unfold aW at h1;obtain⟨a,xs,rfl,hs,hr⟩:=h1;cases d2 with
   |lst es=>
    unfold aW at h2;obtain⟨a',xs',e,hs',hr'⟩:=h2;cases e;have:=I.list_inj hs hs';subst this;unfold jw;exact lists n ih ds es xs (by unfold eO at hd;lia) hr hr'
   |tup es=>
    unfold aW at h2;obtain⟨a',xs',e,hs',hr'⟩:=h2;cases e;exact (MV I hs hs').elim
   |_=>unfold aW at h2;cases h2
  |_=>exact ih _ d2 x (by unfold eO;exact aba _) h1 h2
theorem qm (I:aJ X pins σ H s):∀(n:Nat) (d1 d2:D) (x y:V) (u v:ZO) (A:aaD),eO d1<=n->A.units+n<abH->aW X.K H d1 x->aW X.K H d2 y->bx x u->bx y v->acx A s u v (jw d1 d2):=by
 intro n
 induction n with
 |zero=>
  intro d1 d2 x y u v A hd hu h1 h2 r1 r2;have dD:A.units<abH:=by lia
  cases d1 with
  |non=>
   unfold aW at h1;subst h1;cases r1;cases d2 with
   |non=>
    unfold aW at h2;subst h2;cases r2;exact aeu _
   |bl b2=>
    unfold aW at h2;subst h2;cases r2;exact SeqAt.EqAt.none_bool b2
   |int b2=>
    unfold aW at h2;subst h2;obtain⟨t2,rfl⟩:=r2;exact SeqAt.EqAt.none_int b2 t2
   |str b2=>
    unfold aW at h2;subst h2;obtain⟨t2,rfl⟩:=r2;exact SeqAt.EqAt.none_str b2 t2
   |tup b2=>
    unfold aW at h2;obtain⟨a2,xs2,rfl,cV,fK⟩:=h2;cases r2;obtain⟨its2,rv2,p2,jX⟩:=I.tuple cV;exact SeqAt.EqAt.none_tuple p2 dD
   |lst b2=>
    unfold aW at h2;obtain⟨a2,xs2,rfl,cV,fK⟩:=h2;cases r2;obtain⟨its2,rv2,p2,jX⟩:=I.list cV;exact SeqAt.EqAt.none_list p2.isList dD
  |bl b1=>
   unfold aW at h1;subst h1;cases r1;cases d2 with
   |non=>
    unfold aW at h2;subst h2;cases r2;exact SeqAt.EqAt.bool_none b1
   |bl b2=>
    unfold aW at h2;subst h2;cases r2;exact SeqAt.EqAt.bool_bool b1 b2
   |int b2=>
    unfold aW at h2;subst h2;obtain⟨t2,rfl⟩:=r2;exact SeqAt.EqAt.bool_int b1 b2 t2
   |str b2=>
    unfold aW at h2;subst h2;obtain⟨t2,rfl⟩:=r2;exact SeqAt.EqAt.bool_str b1 b2 t2
   |tup b2=>
    unfold aW at h2;obtain⟨a2,xs2,rfl,cV,fK⟩:=h2;cases r2;obtain⟨its2,rv2,p2,jX⟩:=I.tuple cV;exact SeqAt.EqAt.bool_tuple b1 p2 dD
   |lst b2=>
    unfold aW at h2;obtain⟨a2,xs2,rfl,cV,fK⟩:=h2;cases r2;obtain⟨its2,rv2,p2,jX⟩:=I.list cV;exact SeqAt.EqAt.bool_list b1 p2.isList dD
  |int b1=>
   unfold aW at h1;subst h1;obtain⟨t1,rfl⟩:=r1;cases d2 with
   |non=>
    unfold aW at h2;subst h2;cases r2;exact SeqAt.EqAt.int_none b1 t1
   |bl b2=>
    unfold aW at h2;subst h2;cases r2;exact SeqAt.EqAt.int_bool b1 t1 b2
   |int b2=>
    unfold aW at h2;subst h2;obtain⟨t2,rfl⟩:=r2;exact aeO b1 t1 b2 t2
   |str b2=>
    unfold aW at h2;subst h2;obtain⟨t2,rfl⟩:=r2;exact SeqAt.EqAt.int_str b1 t1 b2 t2
   |tup b2=>
    unfold aW at h2;obtain⟨a2,xs2,rfl,cV,fK⟩:=h2;cases r2;obtain⟨its2,rv2,p2,jX⟩:=I.tuple cV;exact SeqAt.EqAt.int_tuple b1 t1 p2 dD
   |lst b2=>
    unfold aW at h2;obtain⟨a2,xs2,rfl,cV,fK⟩:=h2;cases r2;obtain⟨its2,rv2,p2,jX⟩:=I.list cV;exact SeqAt.EqAt.int_list b1 t1 p2.isList dD
  |str b1=>
   unfold aW at h1;subst h1;obtain⟨t1,rfl⟩:=r1;cases d2 with
   |non=>
    unfold aW at h2;subst h2;cases r2;exact SeqAt.EqAt.str_none b1 t1
   |bl b2=>
    unfold aW at h2;subst h2;cases r2;exact SeqAt.EqAt.str_bool b1 t1 b2
   |int b2=>
    unfold aW at h2;subst h2;obtain⟨t2,rfl⟩:=r2;exact SeqAt.EqAt.str_int b1 t1 b2 t2
   |str b2=>
    unfold aW at h2;subst h2;obtain⟨t2,rfl⟩:=r2;exact SeqAt.EqAt.str_str b1 t1 b2 t2
   |tup b2=>
    unfold aW at h2;obtain⟨a2,xs2,rfl,cV,fK⟩:=h2;cases r2;obtain⟨its2,rv2,p2,jX⟩:=I.tuple cV;exact SeqAt.EqAt.str_tuple b1 t1 p2 dD
   |lst b2=>
    unfold aW at h2;obtain⟨a2,xs2,rfl,cV,fK⟩:=h2;cases r2;obtain⟨its2,rv2,p2,jX⟩:=I.list cV;exact SeqAt.EqAt.str_list b1 t1 p2.isList dD
  |tup ds=>unfold eO at hd;lia
  |lst ds=>unfold eO at hd;lia
 |succ n ih=>
  intro d1 d2 x y u v A hd hu h1 h2 r1 r2;have dD:A.units<abH:=by lia
  cases d1 with
  |tup ds=>
   unfold aW at h1;obtain⟨a1,xs1,rfl,hs1,hr1⟩:=h1;cases r1;obtain⟨its1,rv1,p1,hz1⟩:=I.tuple hs1;cases d2 with
   |non=>
    unfold aW at h2;subst h2;cases r2;exact SeqAt.EqAt.tuple_none p1 dD
   |bl b2=>
    unfold aW at h2;subst h2;cases r2;exact SeqAt.EqAt.tuple_bool b2 p1 dD
   |int b2=>
    unfold aW at h2;subst h2;obtain⟨t2,rfl⟩:=r2;exact SeqAt.EqAt.tuple_int b2 t2 p1 dD
   |str b2=>
    unfold aW at h2;subst h2;obtain⟨t2,rfl⟩:=r2;exact SeqAt.EqAt.tuple_str b2 t2 p1 dD
   |tup es=>
    unfold aW at h2;obtain⟨a2,xs2,rfl,cV,fK⟩:=h2;cases r2;obtain⟨its2,rv2,p2,jX⟩:=I.tuple cV;by_cases uN:a1=a2
    ·subst uN;rw[wJ I (n+1) (.tup ds) (.tup es) (.ref a1) hd (by unfold aW;exact⟨a1,xs1,rfl,hs1,hr1⟩) (by unfold aW;exact⟨a1,xs2,rfl,cV,fK⟩)];exact aeu _
    ·refine aeQ uN ?_;have l1:its1.toArray.size=ds.length:=by rw[ZU,←rv1.length,hr1.length]
     have l2:its2.toArray.size=es.length:=by rw[ZU,←rv2.length,fK.length]
     have k1:xs1.length=ds.length:=hr1.length.symm;have k2:xs2.length=es.length:=fK.length.symm;have he:∀j (h1:j<its1.toArray.size) (h2:j<its2.toArray.size),acx A.in1 s its1.toArray[j] its2.toArray[j] (d9 ds es j):=λj g1 g2=>by
      have q1:ds[j]? = some ds[j]:=ZM (by lia);have q2:es[j]? = some es[j]:=ZM (by lia);have e1:xs1[j]? = some xs1[j]:=ZM (by lia);have e2:xs2[j]? = some xs2[j]:=ZM (by lia);obtain⟨u1,z1,w1⟩:=rv1.get e1;obtain⟨u2,z2,w2⟩:=rv2.get e2;have y1:its1.toArray[j]=u1:=by
       have:=Z0.mp z1;obtain⟨_,q⟩:=this;simpa using q
      have y2:its2.toArray[j]=u2:=by
       have:=Z0.mp z2;obtain⟨_,q⟩:=this;simpa using q
      rw[y1,y2];have:d9 ds es j=jw ds[j] es[j]:=by unfold d9;rw[q1,q2]
      rw[this];refine ih ds[j] es[j] xs1[j] xs2[j] u1 u2 A.in1 ?_ (by show A.units+1+n<abH;lia) (hr1.get q1 e1) (fK.get q2 e2) w1 w2;have:=fY q1;unfold eO at hd;lia
     have q:=ae8 (A:=A) p1 p2 dD he;rw[l1,l2,gA] at q;unfold jw;exact q
   |lst es=>
    unfold aW at h2;obtain⟨a2,xs2,rfl,cV,fK⟩:=h2;cases r2;obtain⟨its2,rv2,p2,jX⟩:=I.list cV;exact SeqAt.EqAt.tuple_list p1 p2.isList dD
  |lst ds=>
   unfold aW at h1;obtain⟨a1,xs1,rfl,hs1,hr1⟩:=h1;cases r1;obtain⟨its1,rv1,p1,hz1⟩:=I.list hs1;cases d2 with
   |non=>
    unfold aW at h2;subst h2;cases r2;exact SeqAt.EqAt.list_none p1.isList dD
   |bl b2=>
    unfold aW at h2;subst h2;cases r2;exact SeqAt.EqAt.list_bool b2 p1.isList dD
   |int b2=>
    unfold aW at h2;subst h2;obtain⟨t2,rfl⟩:=r2;exact SeqAt.EqAt.list_int b2 t2 p1.isList dD
   |str b2=>
    unfold aW at h2;subst h2;obtain⟨t2,rfl⟩:=r2;exact SeqAt.EqAt.list_str b2 t2 p1.isList dD
   |tup es=>
    unfold aW at h2;obtain⟨a2,xs2,rfl,cV,fK⟩:=h2;cases r2;obtain⟨its2,rv2,p2,jX⟩:=I.tuple cV;exact SeqAt.EqAt.list_tuple p1.isList p2 dD
   |lst es=>
    unfold aW at h2;obtain⟨a2,xs2,rfl,cV,fK⟩:=h2;cases r2;obtain⟨its2,rv2,p2,jX⟩:=I.list cV;by_cases uN:a1=a2
    ·subst uN;rw[wJ I (n+1) (.lst ds) (.lst es) (.ref a1) hd (by unfold aW;exact⟨a1,xs1,rfl,hs1,hr1⟩) (by unfold aW;exact⟨a1,xs2,rfl,cV,fK⟩)];exact aeu _
    ·refine aeQ uN ?_;have l1:its1.toArray.size=ds.length:=by rw[ZU,←rv1.length,hr1.length]
     have l2:its2.toArray.size=es.length:=by rw[ZU,←rv2.length,fK.length]
     have k1:xs1.length=ds.length:=hr1.length.symm;have k2:xs2.length=es.length:=fK.length.symm;have he:∀j (h1:j<its1.toArray.size) (h2:j<its2.toArray.size),acx A.in1 s its1.toArray[j] its2.toArray[j] (d9 ds es j):=λj g1 g2=>by
      have q1:ds[j]? = some ds[j]:=ZM (by lia);have q2:es[j]? = some es[j]:=ZM (by lia);have e1:xs1[j]? = some xs1[j]:=ZM (by lia);have e2:xs2[j]? = some xs2[j]:=ZM (by lia);obtain⟨u1,z1,w1⟩:=rv1.get e1;obtain⟨u2,z2,w2⟩:=rv2.get e2;have y1:its1.toArray[j]=u1:=by
       have:=Z0.mp z1;obtain⟨_,q⟩:=this;simpa using q
      have y2:its2.toArray[j]=u2:=by
       have:=Z0.mp z2;obtain⟨_,q⟩:=this;simpa using q
      rw[y1,y2];have:d9 ds es j=jw ds[j] es[j]:=by unfold d9;rw[q1,q2]
      rw[this];refine ih ds[j] es[j] xs1[j] xs2[j] u1 u2 A.in1 ?_ (by show A.units+1+n<abH;lia) (hr1.get q1 e1) (fK.get q2 e2) w1 w2;have:=fY q1;unfold eO at hd;lia
     unfold jw;by_cases hl:ds.length=es.length
     ·have q:=SeqAt.RcAt.lists (A:=A) p1.isList p2.isList (by rw[l1,l2,hl]) dD he;rw[l1] at q;have z:=gA ds es;rw[hl,Nat.min_self,beq_self_eq_true,Bool.and_true] at z;rw[hl,z] at q;exact q
     ·rw[qj hl];exact ae9 (A:=A) p1.isList p2.isList (by rw[l1,l2];simpa using hl) dD
  |non=>exact ih _ d2 x y u v A (by unfold eO;exact aba _) (by lia) h1 h2 r1 r2
  |bl b1=>exact ih _ d2 x y u v A (by unfold eO;exact aba _) (by lia) h1 h2 r1 r2
  |int b1=>exact ih _ d2 x y u v A (by unfold eO;exact aba _) (by lia) h1 h2 r1 r2
  |str b1=>exact ih _ d2 x y u v A (by unfold eO;exact aba _) (by lia) h1 h2 r1 r2
theorem Kp (I:aJ X pins σ H s)(n:Nat)(d1 d2:D)(x y:V)(u v:ZO)(A:aaD)(hd:eO d1<=n)(hu:A.units+n<abH)(h1:aW X.K H d1 x)(h2:aW X.K H d2 y)(r1:bx x u)(r2:bx y v):SeqAt.RcAt A s u v (jw d1 d2):=by
  have dD:A.units<abH:=by lia
  cases d1 with
  |non=>
   unfold aW at h1;subst h1;cases r1;cases d2 with
   |non=>
    unfold aW at h2;subst h2;cases r2;exact SeqAt.RcAt.none_none
   |bl b2=>
    unfold aW at h2;subst h2;cases r2;exact SeqAt.RcAt.none_bool b2
   |int b2=>
    unfold aW at h2;subst h2;obtain⟨t2,rfl⟩:=r2;exact SeqAt.RcAt.none_int b2 t2
   |str b2=>
    unfold aW at h2;subst h2;obtain⟨t2,rfl⟩:=r2;exact SeqAt.RcAt.none_str b2 t2
   |tup es=>
    unfold aW at h2;obtain⟨a2,xs2,rfl,cV,fK⟩:=h2;cases r2;obtain⟨its2,rv2,p2,jX⟩:=I.tuple cV;exact SeqAt.RcAt.none_tuple p2 dD
   |lst es=>
    unfold aW at h2;obtain⟨a2,xs2,rfl,cV,fK⟩:=h2;cases r2;obtain⟨its2,rv2,p2,jX⟩:=I.list cV;exact SeqAt.RcAt.none_list p2.isList dD
  |bl b1=>
   unfold aW at h1;subst h1;cases r1;cases d2 with
   |non=>
    unfold aW at h2;subst h2;cases r2;exact SeqAt.RcAt.bool_none b1
   |bl b2=>
    unfold aW at h2;subst h2;cases r2;exact SeqAt.RcAt.bool_bool b1 b2
   |int b2=>
    unfold aW at h2;subst h2;obtain⟨t2,rfl⟩:=r2;exact SeqAt.RcAt.bool_int b1 b2 t2
   |str b2=>
    unfold aW at h2;subst h2;obtain⟨t2,rfl⟩:=r2;exact SeqAt.RcAt.bool_str b1 b2 t2
   |tup es=>
    unfold aW at h2;obtain⟨a2,xs2,rfl,cV,fK⟩:=h2;cases r2;obtain⟨its2,rv2,p2,jX⟩:=I.tuple cV;exact SeqAt.RcAt.bool_tuple b1 p2 dD
   |lst es=>
    unfold aW at h2;obtain⟨a2,xs2,rfl,cV,fK⟩:=h2;cases r2;obtain⟨its2,rv2,p2,jX⟩:=I.list cV;exact SeqAt.RcAt.bool_list b1 p2.isList dD
  |int b1=>
   unfold aW at h1;subst h1;obtain⟨t1,rfl⟩:=r1;cases d2 with
   |non=>
    unfold aW at h2;subst h2;cases r2;exact SeqAt.RcAt.int_none b1 t1
   |bl b2=>
    unfold aW at h2;subst h2;cases r2;exact SeqAt.RcAt.int_bool b1 t1 b2
   |int b2=>
    unfold aW at h2;subst h2;obtain⟨t2,rfl⟩:=r2;exact SeqAt.RcAt.int_int b1 t1 b2 t2
   |str b2=>
    unfold aW at h2;subst h2;obtain⟨t2,rfl⟩:=r2;exact SeqAt.RcAt.int_str b1 t1 b2 t2
   |tup es=>
    unfold aW at h2;obtain⟨a2,xs2,rfl,cV,fK⟩:=h2;cases r2;obtain⟨its2,rv2,p2,jX⟩:=I.tuple cV;exact SeqAt.RcAt.int_tuple b1 t1 p2 dD
   |lst es=>
    unfold aW at h2;obtain⟨a2,xs2,rfl,cV,fK⟩:=h2;cases r2;obtain⟨its2,rv2,p2,jX⟩:=I.list cV;exact SeqAt.RcAt.int_list b1 t1 p2.isList dD
  |str b1=>
   unfold aW at h1;subst h1;obtain⟨t1,rfl⟩:=r1;cases d2 with
   |non=>
    unfold aW at h2;subst h2;cases r2;exact SeqAt.RcAt.str_none b1 t1
   |bl b2=>
    unfold aW at h2;subst h2;cases r2;exact SeqAt.RcAt.str_bool b1 t1 b2
   |int b2=>
    unfold aW at h2;subst h2;obtain⟨t2,rfl⟩:=r2;exact SeqAt.RcAt.str_int b1 t1 b2 t2
   |str b2=>
    unfold aW at h2;subst h2;obtain⟨t2,rfl⟩:=r2;exact SeqAt.RcAt.str_str b1 t1 b2 t2
   |tup es=>
    unfold aW at h2;obtain⟨a2,xs2,rfl,cV,fK⟩:=h2;cases r2;obtain⟨its2,rv2,p2,jX⟩:=I.tuple cV;exact SeqAt.RcAt.str_tuple b1 t1 p2 dD
   |lst es=>
    unfold aW at h2;obtain⟨a2,xs2,rfl,cV,fK⟩:=h2;cases r2;obtain⟨its2,rv2,p2,jX⟩:=I.list cV;exact SeqAt.RcAt.str_list b1 t1 p2.isList dD
  |tup ds=>
   unfold aW at h1;obtain⟨a1,xs1,rfl,hs1,hr1⟩:=h1;cases r1;obtain⟨its1,rv1,p1,hz1⟩:=I.tuple hs1;cases d2 with
   |non=>
    unfold aW at h2;subst h2;cases r2;exact SeqAt.RcAt.tuple_none p1 dD
   |bl b2=>
    unfold aW at h2;subst h2;cases r2;exact SeqAt.RcAt.tuple_bool b2 p1 dD
   |int b2=>
    unfold aW at h2;subst h2;obtain⟨t2,rfl⟩:=r2;exact SeqAt.RcAt.tuple_int b2 t2 p1 dD
   |str b2=>
    unfold aW at h2;subst h2;obtain⟨t2,rfl⟩:=r2;exact SeqAt.RcAt.tuple_str b2 t2 p1 dD
   |tup es=>
    unfold aW at h2;obtain⟨a2,xs2,rfl,cV,fK⟩:=h2;cases r2;obtain⟨its2,rv2,p2,jX⟩:=I.tuple cV;have l1:its1.toArray.size=ds.length:=by rw[ZU,←rv1.length,hr1.length]
    have l2:its2.toArray.size=es.length:=by rw[ZU,←rv2.length,fK.length]
    have k1:xs1.length=ds.length:=hr1.length.symm;have k2:xs2.length=es.length:=fK.length.symm;have he:∀j (h1:j<its1.toArray.size) (h2:j<its2.toArray.size),acx A.in1 s its1.toArray[j] its2.toArray[j] (d9 ds es j):=λj g1 g2=>by
     have q1:ds[j]? = some ds[j]:=ZM (by lia);have q2:es[j]? = some es[j]:=ZM (by lia);have e1:xs1[j]? = some xs1[j]:=ZM (by lia);have e2:xs2[j]? = some xs2[j]:=ZM (by lia);obtain⟨u1,z1,w1⟩:=rv1.get e1;obtain⟨u2,z2,w2⟩:=rv2.get e2;have y1:its1.toArray[j]=u1:=by
      obtain⟨_,q⟩:=Z0.mp z1;simpa using q
     have y2:its2.toArray[j]=u2:=by
      obtain⟨_,q⟩:=Z0.mp z2;simpa using q
     rw[y1,y2];have:d9 ds es j=jw ds[j] es[j]:=by unfold d9;rw[q1,q2]
     rw[this];have dl:=fY q1;unfold eO at hd;exact qm I (n-1) ds[j] es[j] xs1[j] xs2[j] u1 u2 A.in1 (by lia) (by show A.units+1+(n-1)<abH;lia) (hr1.get q1 e1) (fK.get q2 e2) w1 w2
    have q:=ae8 (A:=A) p1 p2 dD he;rw[l1,l2,gA] at q;unfold jw;exact q
   |lst es=>
    unfold aW at h2;obtain⟨a2,xs2,rfl,cV,fK⟩:=h2;cases r2;obtain⟨its2,rv2,p2,jX⟩:=I.list cV;exact SeqAt.RcAt.tuple_list p1 p2.isList dD
  |lst ds=>
   unfold aW at h1;obtain⟨a1,xs1,rfl,hs1,hr1⟩:=h1;cases r1;obtain⟨its1,rv1,p1,hz1⟩:=I.list hs1;cases d2 with
   |non=>
    unfold aW at h2;subst h2;cases r2;exact SeqAt.RcAt.list_none p1.isList dD
   |bl b2=>
    unfold aW at h2;subst h2;cases r2;exact SeqAt.RcAt.list_bool b2 p1.isList dD
   |int b2=>
    unfold aW at h2;subst h2;obtain⟨t2,rfl⟩:=r2;exact SeqAt.RcAt.list_int b2 t2 p1.isList dD
   |str b2=>
    unfold aW at h2;subst h2;obtain⟨t2,rfl⟩:=r2;exact SeqAt.RcAt.list_str b2 t2 p1.isList dD
   |tup es=>
    unfold aW at h2;obtain⟨a2,xs2,rfl,cV,fK⟩:=h2;cases r2;obtain⟨its2,rv2,p2,jX⟩:=I.tuple cV;exact SeqAt.RcAt.list_tuple p1.isList p2 dD
   |lst es=>
    unfold aW at h2;obtain⟨a2,xs2,rfl,cV,fK⟩:=h2;cases r2;obtain⟨its2,rv2,p2,jX⟩:=I.list cV;have l1:its1.toArray.size=ds.length:=by rw[ZU,←rv1.length,hr1.length]
    have l2:its2.toArray.size=es.length:=by rw[ZU,←rv2.length,fK.length]
    have k1:xs1.length=ds.length:=hr1.length.symm;have k2:xs2.length=es.length:=fK.length.symm;have he:∀j (h1:j<its1.toArray.size) (h2:j<its2.toArray.size),acx A.in1 s its1.toArray[j] its2.toArray[j] (d9 ds es j):=λj g1 g2=>by
     have q1:ds[j]? = some ds[j]:=ZM (by lia);have q2:es[j]? = some es[j]:=ZM (by lia);have e1:xs1[j]? = some xs1[j]:=ZM (by lia);have e2:xs2[j]? = some xs2[j]:=ZM (by lia);obtain⟨u1,z1,w1⟩:=rv1.get e1;obtain⟨u2,z2,w2⟩:=rv2.get e2;have y1:its1.toArray[j]=u1:=by
      obtain⟨_,q⟩:=Z0.mp z1;simpa using q
     have y2:its2.toArray[j]=u2:=by
      obtain⟨_,q⟩:=Z0.mp z2;simpa using q
     rw[y1,y2];have:d9 ds es j=jw ds[j] es[j]:=by unfold d9;rw[q1,q2]
     rw[this];have dl:=fY q1;unfold eO at hd;exact qm I (n-1) ds[j] es[j] xs1[j] xs2[j] u1 u2 A.in1 (by lia) (by show A.units+1+(n-1)<abH;lia) (hr1.get q1 e1) (fK.get q2 e2) w1 w2
    unfold jw;by_cases hl:ds.length=es.length
    ·have q:=SeqAt.RcAt.lists (A:=A) p1.isList p2.isList (by rw[l1,l2,hl]) dD he;rw[l1] at q;have z:=gA ds es;rw[hl,Nat.min_self,beq_self_eq_true,Bool.and_true] at z;rw[hl,z] at q;exact q
    ·rw[qj hl];exact ae9 (A:=A) p1.isList p2.isList (by rw[l1,l2];simpa using hl) dD
theorem Dm (I:aJ X pins σ H s)(n:Nat)(d1 d2:D)(x y:V)(u v:ZO)(A:aaD)(hd:eO d1<=n)(hu:A.units+n<abH)(h1:aW X.K H d1 x)(h2:aW X.K H d2 y)(r1:bx x u)(r2:bx y v):SeqAt.RcNeAt A s u v (!jw d1 d2):=by
  have dD:A.units<abH:=by lia
  cases d1 with
  |non=>
   unfold aW at h1;subst h1;cases r1;cases d2 with
   |non=>
    unfold aW at h2;subst h2;cases r2;exact SeqAt.RcNeAt.none_none
   |bl b2=>
    unfold aW at h2;subst h2;cases r2;exact SeqAt.RcNeAt.none_bool b2
   |int b2=>
    unfold aW at h2;subst h2;obtain⟨t2,rfl⟩:=r2;exact SeqAt.RcNeAt.none_int b2 t2
   |str b2=>
    unfold aW at h2;subst h2;obtain⟨t2,rfl⟩:=r2;exact SeqAt.RcNeAt.none_str b2 t2
   |tup es=>
    unfold aW at h2;obtain⟨a2,xs2,rfl,cV,fK⟩:=h2;cases r2;obtain⟨its2,rv2,p2,jX⟩:=I.tuple cV;exact SeqAt.RcNeAt.none_tuple p2 dD
   |lst es=>
    unfold aW at h2;obtain⟨a2,xs2,rfl,cV,fK⟩:=h2;cases r2;obtain⟨its2,rv2,p2,jX⟩:=I.list cV;exact SeqAt.RcNeAt.none_list p2.isList dD
  |bl b1=>
   unfold aW at h1;subst h1;cases r1;cases d2 with
   |non=>
    unfold aW at h2;subst h2;cases r2;exact SeqAt.RcNeAt.bool_none b1
   |bl b2=>
    unfold aW at h2;subst h2;cases r2;exact SeqAt.RcNeAt.bool_bool b1 b2
   |int b2=>
    unfold aW at h2;subst h2;obtain⟨t2,rfl⟩:=r2;exact SeqAt.RcNeAt.bool_int b1 b2 t2
   |str b2=>
    unfold aW at h2;subst h2;obtain⟨t2,rfl⟩:=r2;exact SeqAt.RcNeAt.bool_str b1 b2 t2
   |tup es=>
    unfold aW at h2;obtain⟨a2,xs2,rfl,cV,fK⟩:=h2;cases r2;obtain⟨its2,rv2,p2,jX⟩:=I.tuple cV;exact SeqAt.RcNeAt.bool_tuple b1 p2 dD
   |lst es=>
    unfold aW at h2;obtain⟨a2,xs2,rfl,cV,fK⟩:=h2;cases r2;obtain⟨its2,rv2,p2,jX⟩:=I.list cV;exact SeqAt.RcNeAt.bool_list b1 p2.isList dD
  |int b1=>
   unfold aW at h1;subst h1;obtain⟨t1,rfl⟩:=r1;cases d2 with
   |non=>
    unfold aW at h2;subst h2;cases r2;exact SeqAt.RcNeAt.int_none b1 t1
   |bl b2=>
    unfold aW at h2;subst h2;cases r2;exact SeqAt.RcNeAt.int_bool b1 t1 b2
   |int b2=>
    unfold aW at h2;subst h2;obtain⟨t2,rfl⟩:=r2;exact SeqAt.RcNeAt.int_int b1 t1 b2 t2
   |str b2=>
    unfold aW at h2;subst h2;obtain⟨t2,rfl⟩:=r2;exact SeqAt.RcNeAt.int_str b1 t1 b2 t2
   |tup es=>
    unfold aW at h2;obtain⟨a2,xs2,rfl,cV,fK⟩:=h2;cases r2;obtain⟨its2,rv2,p2,jX⟩:=I.tuple cV;exact SeqAt.RcNeAt.int_tuple b1 t1 p2 dD
   |lst es=>
    unfold aW at h2;obtain⟨a2,xs2,rfl,cV,fK⟩:=h2;cases r2;obtain⟨its2,rv2,p2,jX⟩:=I.list cV;exact SeqAt.RcNeAt.int_list b1 t1 p2.isList dD
  |str b1=>
   unfold aW at h1;subst h1;obtain⟨t1,rfl⟩:=r1;cases d2 with
   |non=>
    unfold aW at h2;subst h2;cases r2;exact SeqAt.RcNeAt.str_none b1 t1
   |bl b2=>
    unfold aW at h2;subst h2;cases r2;exact SeqAt.RcNeAt.str_bool b1 t1 b2
   |int b2=>
    unfold aW at h2;subst h2;obtain⟨t2,rfl⟩:=r2;exact SeqAt.RcNeAt.str_int b1 t1 b2 t2
   |str b2=>
    unfold aW at h2;subst h2;obtain⟨t2,rfl⟩:=r2;exact SeqAt.RcNeAt.str_str b1 t1 b2 t2
   |tup es=>
    unfold aW at h2;obtain⟨a2,xs2,rfl,cV,fK⟩:=h2;cases r2;obtain⟨its2,rv2,p2,jX⟩:=I.tuple cV;exact SeqAt.RcNeAt.str_tuple b1 t1 p2 dD
   |lst es=>
    unfold aW at h2;obtain⟨a2,xs2,rfl,cV,fK⟩:=h2;cases r2;obtain⟨its2,rv2,p2,jX⟩:=I.list cV;exact SeqAt.RcNeAt.str_list b1 t1 p2.isList dD
  |tup ds=>
   unfold aW at h1;obtain⟨a1,xs1,rfl,hs1,hr1⟩:=h1;cases r1;obtain⟨its1,rv1,p1,hz1⟩:=I.tuple hs1;cases d2 with
   |non=>
    unfold aW at h2;subst h2;cases r2;exact SeqAt.RcNeAt.tuple_none p1 dD
   |bl b2=>
    unfold aW at h2;subst h2;cases r2;exact SeqAt.RcNeAt.tuple_bool b2 p1 dD
   |int b2=>
    unfold aW at h2;subst h2;obtain⟨t2,rfl⟩:=r2;exact SeqAt.RcNeAt.tuple_int b2 t2 p1 dD
   |str b2=>
    unfold aW at h2;subst h2;obtain⟨t2,rfl⟩:=r2;exact SeqAt.RcNeAt.tuple_str b2 t2 p1 dD
   |tup es=>
    unfold aW at h2;obtain⟨a2,xs2,rfl,cV,fK⟩:=h2;cases r2;obtain⟨its2,rv2,p2,jX⟩:=I.tuple cV;have l1:its1.toArray.size=ds.length:=by rw[ZU,←rv1.length,hr1.length]
    have l2:its2.toArray.size=es.length:=by rw[ZU,←rv2.length,fK.length]
    have k1:xs1.length=ds.length:=hr1.length.symm;have k2:xs2.length=es.length:=fK.length.symm;have he:∀j (h1:j<its1.toArray.size) (h2:j<its2.toArray.size),acx A.in1 s its1.toArray[j] its2.toArray[j] (d9 ds es j):=λj g1 g2=>by
     have q1:ds[j]? = some ds[j]:=ZM (by lia);have q2:es[j]? = some es[j]:=ZM (by lia);have e1:xs1[j]? = some xs1[j]:=ZM (by lia);have e2:xs2[j]? = some xs2[j]:=ZM (by lia);obtain⟨u1,z1,w1⟩:=rv1.get e1;obtain⟨u2,z2,w2⟩:=rv2.get e2;have y1:its1.toArray[j]=u1:=by
      obtain⟨_,q⟩:=Z0.mp z1;simpa using q
     have y2:its2.toArray[j]=u2:=by
      obtain⟨_,q⟩:=Z0.mp z2;simpa using q
     rw[y1,y2];have:d9 ds es j=jw ds[j] es[j]:=by unfold d9;rw[q1,q2]
     rw[this];have dl:=fY q1;unfold eO at hd;exact qm I (n-1) ds[j] es[j] xs1[j] xs2[j] u1 u2 A.in1 (by lia) (by show A.units+1+(n-1)<abH;lia) (hr1.get q1 e1) (fK.get q2 e2) w1 w2
    have q:=SeqAt.RcNeAt.tuples (A:=A) p1 p2 dD he;rw[l1,l2,gA] at q;unfold jw;exact q
   |lst es=>
    unfold aW at h2;obtain⟨a2,xs2,rfl,cV,fK⟩:=h2;cases r2;obtain⟨its2,rv2,p2,jX⟩:=I.list cV;exact SeqAt.RcNeAt.tuple_list p1 p2.isList dD
  |lst ds=>
   unfold aW at h1;obtain⟨a1,xs1,rfl,hs1,hr1⟩:=h1;cases r1;obtain⟨its1,rv1,p1,hz1⟩:=I.list hs1;cases d2 with
   |non=>
    unfold aW at h2;subst h2;cases r2;exact SeqAt.RcNeAt.list_none p1.isList dD
   |bl b2=>
    unfold aW at h2;subst h2;cases r2;exact SeqAt.RcNeAt.list_bool b2 p1.isList dD
   |int b2=>
    unfold aW at h2;subst h2;obtain⟨t2,rfl⟩:=r2;exact SeqAt.RcNeAt.list_int b2 t2 p1.isList dD
   |str b2=>
    unfold aW at h2;subst h2;obtain⟨t2,rfl⟩:=r2;exact SeqAt.RcNeAt.list_str b2 t2 p1.isList dD
   |tup es=>
    unfold aW at h2;obtain⟨a2,xs2,rfl,cV,fK⟩:=h2;cases r2;obtain⟨its2,rv2,p2,jX⟩:=I.tuple cV;exact SeqAt.RcNeAt.list_tuple p1.isList p2 dD
   |lst es=>
    unfold aW at h2;obtain⟨a2,xs2,rfl,cV,fK⟩:=h2;cases r2;obtain⟨its2,rv2,p2,jX⟩:=I.list cV;have l1:its1.toArray.size=ds.length:=by rw[ZU,←rv1.length,hr1.length]
    have l2:its2.toArray.size=es.length:=by rw[ZU,←rv2.length,fK.length]
    have k1:xs1.length=ds.length:=hr1.length.symm;have k2:xs2.length=es.length:=fK.length.symm;have he:∀j (h1:j<its1.toArray.size) (h2:j<its2.toArray.size),acx A.in1 s its1.toArray[j] its2.toArray[j] (d9 ds es j):=λj g1 g2=>by
     have q1:ds[j]? = some ds[j]:=ZM (by lia);have q2:es[j]? = some es[j]:=ZM (by lia);have e1:xs1[j]? = some xs1[j]:=ZM (by lia);have e2:xs2[j]? = some xs2[j]:=ZM (by lia);obtain⟨u1,z1,w1⟩:=rv1.get e1;obtain⟨u2,z2,w2⟩:=rv2.get e2;have y1:its1.toArray[j]=u1:=by
      obtain⟨_,q⟩:=Z0.mp z1;simpa using q
     have y2:its2.toArray[j]=u2:=by
      obtain⟨_,q⟩:=Z0.mp z2;simpa using q
     rw[y1,y2];have:d9 ds es j=jw ds[j] es[j]:=by unfold d9;rw[q1,q2]
     rw[this];have dl:=fY q1;unfold eO at hd;exact qm I (n-1) ds[j] es[j] xs1[j] xs2[j] u1 u2 A.in1 (by lia) (by show A.units+1+(n-1)<abH;lia) (hr1.get q1 e1) (fK.get q2 e2) w1 w2
    unfold jw;by_cases hl:ds.length=es.length
    ·have q:=SeqAt.RcNeAt.lists (A:=A) p1.isList p2.isList (by rw[l1,l2,hl]) dD he;rw[l1] at q;have z:=gA ds es;rw[hl,Nat.min_self,beq_self_eq_true,Bool.and_true] at z;rw[hl,z] at q;exact q
    ·rw[qj hl];exact SeqAt.RcNeAt.lists_lengths (A:=A) p1.isList p2.isList (by rw[l1,l2];simpa using hl) dD
def Kq (K:ZQ)(f:Bool->Bool):R2:=λx y H Q=>∃d1 d2,aW K H d1 x/\aW K H d2 y/\eO d1<=30/\Q (.bl (f (jw d1 d2))) H
theorem cC (hu:X.A.units+64<abH):jQ X (abu .Eq) (Kq X.K id):=by
 intro pins s σ H x y v u Q I rx ry h;obtain⟨d1,d2,h1,h2,hd,q⟩:=h;exact Kp I 30 d1 d2 x y v u X.A hd (by lia) h1 h2 rx ry X.prog X.w X.xe _ ⟨.bl _,H,I,rfl,q⟩
theorem i7 (hu:X.A.units+64<abH):jQ X (abu .NotEq) (Kq X.K not):=by
 intro pins s σ H x y v u Q I rx ry h;obtain⟨d1,d2,h1,h2,hd,q⟩:=h;exact Dm I 30 d1 d2 x y v u X.A hd (by lia) h1 h2 rx ry X.prog X.w X.xe _ ⟨.bl _,H,I,rfl,q⟩
end L2
namespace L2
noncomputable def iU (n m:String):Bool:=(n==m)||(n=="bool"&&m=="int")
inductive GB (K:ZQ)(H:Hp):V->String->Prop where
 |non:GB K H .non "NoneType"
 |bl (x:Bool):GB K H (.bl x) "bool"
 |int (i:Int):GB K H (.int i) "int"
 |str (x:Str):GB K H (.str x) "str"
 |lst {a:Z5} {xs:List V} (e:H a=some (.lst xs)):GB K H (.ref a) "list"
 |frz {a:Z5} {o:Obj} {xs:List V} (e:H a=some (.frz o (.lst xs))):GB K H (.ref a) "list"
 |tup {a:Z5} {xs:List V} (e:H a=some (.tup xs)):GB K H (.ref a) "tuple"
 |dK {a:Z5} {cF:List (jI×V)} (e:H a=some (.dK cF)):GB K H (.ref a) "dict"
 |dT {a:Z5} {cF:List (List jI×V)} (e:H a=some (.dT cF)):GB K H (.ref a) "dict"
theorem wK:eU X (.type "range") (λxs H Q=>∃j,xs=[.int j]/\∀p,H p=none->Q (.ref p) (c_ H p (.rng 0 j))):=by
 intro pins s σ H xs us Q I r h;obtain⟨j,rfl,q⟩:=h;obtain⟨u,rfl,rx⟩:=iT r;obtain⟨t,rfl⟩:=rx;refine call_range_1 ⟨.ref s.heap.objs.size,c_ H s.heap.objs.size (.rng 0 j),I.laid (λb u e=>ZP _ e) (Z2 _) ?_,rfl,q _ (I.hok.fresh (Z2 _))⟩;exact⟨_,_,_,Z3 _ rfl⟩
theorem yC {a:Int}{cN:Array ZO}(h:ItemsOf (λi v=>∃t,v=Value.int (a+i*1) t) cN n):bh ((aaA n).map λi=>V.int (a+(i:Nat))) cN.toList:=by
 obtain⟨hs,hi⟩:=h;have gen:∀(l:List ZO) (k:Nat),(∀(i:Nat) v,l[i]? = some v->∃t,v=Value.int (a+((k+i:Nat):Int)*1) t)->bh ((List.range' k l.length).map λi=>V.int (a+(i:Nat))) l:=by
  intro l
  induction l with
  |nil=>intro k _;exact .nil
  |cons v r ih=>
   intro k hk;rw[ZT,List.range'_succ,Z_];refine .cons ?_ (ih (k+1) λi v e=>?_)
   ·obtain⟨t,e⟩:=hk 0 v rfl;exact⟨t,by rw[e];simp⟩
   ·obtain⟨t,e'⟩:=hk (i+1) v (by simpa using e);refine⟨t,?_⟩;rw[e',show k+(i+1)=k+1+i by lia]
 have q:=gen cN.toList 0 (λi v e=>by
  obtain⟨t,e'⟩:=hi i v (by simpa using e);exact⟨t,by rw[e',acd]⟩)
 rw[ZR,hs] at q;rw[List.range_eq_range'];exact q
theorem sO (hc:X.calm=true):eU X (.type "list") (λxs H Q=>∃p lo hi,xs=[.ref p]/\H p=some (.rng lo hi)/\(-(2 ^ 62)<=lo/\lo<2 ^ 62/\ -(2 ^ 62)<=hi/\hi<2 ^ 62)/\(hi-lo).toNat<=2 ^ 20/\
  ∀l,H l=none->Q (.ref l) (c_ H l (.lst ((aaA (hi-lo).toNat).map λi=>V.int (lo+(i:Nat)))))):=by
 intro pins s σ H xs us Q I r h;obtain⟨p,lo,hi,rfl,hp,⟨h1,h2,h3,h4⟩,hz,q⟩:=h;obtain⟨u,rfl,rx⟩:=iT r;cases rx;obtain⟨t,u,v,e⟩:=I.hok p _ hp;refine call_list_range (n:=(hi-lo).toNat) (I.ok.hd hc) (c:=1) (show IsRange s.heap p lo hi 1 t u v from e) (small_one h1 h2 h3 h4) (by rw[rangeSize_one];split<;>lia) (by lia) λh' tk RD c' hk JI FO=>?_;have hl:((aaA (hi-lo).toNat).map λi=>V.int (lo+(i:Nat))).length<=ZY:=by
  rw[ZW,abk,abG];lia
 refine⟨.ref s.heap.objs.size,_,I.laid hk (Z2 _) (show dX X.prog X.w _ _ _ (.lst _) from ⟨hl,RD.toList,c',yC FO,by simpa using JI⟩),rfl,q _ (I.hok.fresh (Z2 _))⟩
def Dn (i j:Int):Prop:=0<j/\j<18446744073709551616
theorem yD (h:n<18446744073709551616):n.log2<9000:=by
 by_cases h0:n=0
 ·subst h0;decide
 ·have:=(Nat.log2_lt h0 (k:=64)).mpr (by lia);lia
theorem ij:jQ X (adj .FloorDiv) (rI Dn λi j=>.int (i / j)):=Ph λi j _ _ _ _ _ hc q=>by
 refine floordiv_int (by have:=hc.1;lia) ?_ (.inl (PyProof.noPylong_of_log2 (yD (by have:=hc.1;have:=hc.2;lia))));rw[Int.fdiv_eq_ediv_of_nonneg _ (by have:=hc.1;lia)];exact q
theorem GC:aaY "list"=some (.type "list"):=by decide+kernel
theorem gD:aaY "tuple"=some (.type "tuple"):=by decide+kernel
theorem Dq:aaY "range"=some (.type "range"):=by decide+kernel
theorem dF:aaY "len"=some (.builtin "len"):=by decide+kernel
theorem Dr:aaY "max"=some (.builtin "max"):=by decide+kernel
theorem Kr:aaY "min"=some (.builtin "min"):=by decide+kernel
theorem Ds:aaY "abs"=some (.builtin "abs"):=by decide+kernel
theorem ji:aaY "sorted"=some (.builtin "sorted"):=by decide+kernel
theorem Ks:aaY "sum"=some (.builtin "sum"):=by decide+kernel
end L2
namespace HT
open L2
section
variable {A:aaD}
theorem getItem_tuple_whole {t sl:Z5}{vl vu:ZO}{lo:Option Int}(ht:IsTup s.heap t items)(hs:s.heap.IsSliceOf sl vl vu .none)(pl:IsPart vl lo)(pu:IsPart vu hi)(hw:sIx items.size 0 lo=0/\sIx items.size items.size hi=items.size)(h:Q (.ref t) s):aac (aar prog w) A (aes (.ref t) (.ref sl)) Q E s:=by
 obtain⟨os,hos,hcs,hds⟩:=id hs;have Rn:s.TypeIs (.ref sl) "slice":=⟨os,hos,hcs⟩;unfold aes
 try with_reducible refine abi ?_
 first|refine ZL (ZN ?_)|skip
 refine ZL (wpAny_sequenceKey ht.typeIs (by decide) ?_);refine ZL (aaK (name:=abN "__getitem__") ht.typeIs abI
  (aaH abI ht.typeIs entry_tuple_getitem ?_ (args_tuple_getitem _ _)))
 show aac _ _ (ac9 (.ref t) >>= _) _ _ s;refine ZL (tupleItemsOf_ ht ?_);refine ZL (aeP Rn ?_);rw[hV (by decide)];refine ZL (jh hs pl pu ?_);obtain⟨w1,w2⟩:=hw;rw[w1,w2];show aac _ _ (if (((0:Nat):Int)==0&&(1:Int)==1&&(items.size-0)==items.size)=true then _ else _) _ _ s;rw[hV (by simp)];have F4:aac (aar prog w) A.in1 (aeC (.ref t)) (λb s'=>b=true/\s'=s) E s:=by
  unfold aeC;exact ZL (aeP ht.typeIs (ZN ⟨by decide,rfl⟩))
 refine ZL (aa6 F4 (λb s' hb=>?_) λ_ _ e=>e);obtain⟨rfl,rfl⟩:=hb;rw[hV rfl];exact ZL (ab0 (ZN ⟨_,rfl,ZN h⟩))
end
end HT
namespace L2
theorem qo (h:H p=none)(o:HO):aQ H (c_ H p o):=λb u q=>by rw[bp (bY q h)];exact q
end L2
namespace HT
open L2
end HT
namespace L2
def wL:V->List V->Hp->VK->Prop:=λx vs H Q=>∃l b xs zs,x=.ref l/\vs=[.ref b]/\H l=some (.lst xs)/\H b=some (.tup zs)/\xs.length+zs.length<=ZY/\Q .non (c_ H l (.lst (xs++zs)))
theorem yE:Qs X "list.extend" wL:=by
 intro pins s σ H x vs v us Q I rx rv h;obtain⟨l,b,xs,zs,rfl,rfl,hH,hB,hz,q⟩:=h;cases rx;obtain⟨u,rfl,ru⟩:=rv.one;cases ru;obtain⟨z,its,n,r,hl,e⟩:=I.lstM hH;obtain⟨z2,its2,r2,_,n2,e2⟩:=I.hok b _ hB;have LO:=r2.length;have hsz:its.toArray.size+its2.toArray.size<=ZY:=by rw[ZU,ZU];lia
 have FR:¬(!its.toArray.isEmpty&&acz (its.toArray.size+its2.toArray.size))=true:=by
  rw[wD hsz,ad6];exact ZV
 refine call_meets F.slot_list_extend ⟨_,e,rfl⟩ F.entry_list_extend (F.args_list_extend_2 _ _)
  (AutoSeq1.list_extend_list_tuple_0 l its.toArray n b its2.toArray n2 FR (by rw[ZU];lia) (by lia)) ⟨e,e2,?_⟩
 refine⟨.non,_,I.lset (its':=its++its2) hH e (by simp) (r.append r2) ?_,rfl,q⟩;rw[ZZ];lia
theorem uU:eU X (.builtin "sorted") (λxs H Q=>∃(p:Z5) (ns:List Int),xs=[.ref p]/\(fS X.K H p (ns.map V.int)\/gz X.K H p (ns.map V.int))/\ns.length<64/\
  ∀(l:Z5) (nY:List Int),H l=none->nY.Perm ns->nY.Pairwise (·<=·)->Q (.ref l) (c_ H l (.lst (nY.map V.int)))):=by
 intro pins s σ H xs us Q I r h;obtain⟨p,ns,rfl,hq,h64,q⟩:=h;obtain⟨u,rfl,rx⟩:=iT r;cases rx;have CK:∃(T:String) (o:Obj) (its:List ZO) (n:Nat),(T="list"\/T="tuple")/\s.heap.get? p=some o/\o.cls=.type T/\o.data=.seq its.toArray n/\abW its ns:=by
  rcases hq with hq|hq
  ·obtain⟨its,rv,pl,hz⟩:=I.list hq;obtain⟨o,e,c,n,d⟩:=pl.isList;exact⟨"list",o,its,n,.inl rfl,e,c,d,dZ rv⟩
  ·obtain⟨its,rv,pl,hz⟩:=I.tuple hq;obtain⟨o,e,c,n,d⟩:=pl;exact⟨"tuple",o,its,n,.inr rfl,e,c,d,dZ rv⟩
 obtain⟨T,o,its,n,hT,ho,hc,hd,hI⟩:=CK;have dw:its.length=ns.length:=hI.length;refine aeX kind_sorted plain_sorted entry_sorted (args_sorted1 _) ?_;unfold Builtin.«sorted»;refine ZL (m:=checkCount "sorted" 1 1 _) (ZN ?_);refine ZL (ac6 p hT ho hc hd (λh1 k1=>?_) (by rw[ZU,abG];lia));refine ZL (wpAny_newList ?_);have LP:(h1.push (aeR "list" its.toArray 0)).get? h1.objs.size=some (aeR "list" its.toArray 0):=Z3 _ rfl;have LQ:(h1.push {cls:=.type "list",data:=.seq (its.toArray.toList).toArray}).get? h1.objs.size=some (aeR "list" its.toArray 0):=by simpa using LP
 refine ZL (abi (aaH slot_list_sort ⟨_,LQ,rfl⟩ entry_list_sort (list_sort_tree LQ hI (by lia) λout nY a1 a2 a3=>⟨_,rfl,?_⟩) (args_list_sort _)));refine ZN ⟨_,rfl,?_⟩;obtain⟨e,he⟩:=sortedHeap_at (out:=out) LQ;have keep:∀b o,h1.get? b=some o->(sortedHeap (h1.push {cls:=.type "list",data:=.seq (its.toArray.toList).toArray}) h1.objs.size its out).get? b=some o:=λb o e=>by
  have hb:=Z9 e;rw[sortedHeap_old (aaq hb) (by rw[abg];exact ab1 hb)];exact ZP _ e
 have I1:aJ X pins σ H {s with heap:=h1}:=I.kept (t':=s.toks) k1;have LO:(nY.map V.int).length<=ZY:=by rw[ZW,a2.length_eq,abG];lia
 exact⟨.ref h1.objs.size,_,I1.laid (t':=s.toks) keep (Z2 _) (show dX X.prog X.w _ _ _ (.lst _) from ⟨LO,out.toList,e,nh a1,by simpa using he⟩),rfl,q _ nY (I1.hok.fresh (Z2 _)) a2 a3⟩
def Dt (K:ZQ):V->Option Int->Option Int->Hp->VK->Prop:=λx lo hi H Q=>∃a xs,x=.ref a/\H a=some (.tup xs)/\∀r H',aQ H H'->H' r=some (.tup (qc xs lo hi))->Q (.ref r) H'
theorem GD:C7 X (Dt X.K):=by
 have base:C7 X (MK X.K):=Kh;intro pins s σ H x v vl vu lo hi sl Q I rx hs pl pu h;obtain⟨a,xs,rfl,sG,q⟩:=h;have hx:gz X.K H a xs:=gz.of sG;by_cases hw:HT.sIx xs.length 0 lo=0/\HT.sIx xs.length xs.length hi=xs.length
 ·cases rx;obtain⟨its,r,ht,hz⟩:=I.tuple hx;have hl:its.toArray.size=xs.length:=by rw[ZU,r.length]
  refine⟨"tuple",_,PyProof.Rows.slot_tuple_getitem.lookup,ht.typeIs,HT.getItem_tuple_whole ht hs pl pu (by rw[hl];exact hw) ⟨.ref a,H,I,rfl,q a H (aQ.refl _) ?_⟩⟩;have e:qc xs lo hi=xs:=by unfold qc;rw[hw.1,hw.2];simp
  rw[e];exact sG
 ·exact base pins s σ H _ v vl vu lo hi sl Q I rx hs pl pu ⟨a,xs,rfl,hx,hw,λp hp=>q p _ (qo hp _) bS⟩
def Du:R2:=λx y H Q=>∃a b xs ys,x=.ref a/\y=.ref b/\H a=some (.tup xs)/\H b=some (.tup ys)/\xs.length+ys.length<=ZY/\∀r H',aQ H H'->H' r=some (.tup (xs++ys))->Q (.ref r) H'
theorem Dv:jQ X (adj .Add) Du:=by
 intro pins s σ H x y v u Q I rx ry h;obtain⟨a,b,xs,ys,rfl,rfl,zU,tF,hz,q⟩:=h;have ha:gz X.K H a xs:=gz.of zU;have hb:gz X.K H b ys:=gz.of tF;by_cases hx:xs=[]
 ·subst hx;cases rx;cases ry;obtain⟨its,r1,p1,_⟩:=I.tuple ha;obtain⟨its2,r2,p2,_⟩:=I.tuple hb;have e1:its=[]:=(bh.nil_iff r1).mpr rfl;subst e1;obtain⟨⟨cls,dd,data,sl⟩,ho,hc,n,hd⟩:=id p1;obtain⟨⟨cls2,JF,data2,F3⟩,ho2,hc2,n2,zV⟩:=id p2;simp only at hc hd hc2 zV;subst hc hd hc2 zV;exact concat_meets ⟨_,ho,rfl⟩ ⟨_,ho2,rfl⟩ noFill_tuple_add seq_tuple_add adS adF (ady _ _)
   (tuple_addW0 a b ([]:List ZO).toArray its2.toArray n n2 dd JF sl F3 (by simp)) ⟨ho,ho2,⟨.ref b,H,I,rfl,q b H (aQ.refl _) (by simpa using tF)⟩⟩
 ·refine Gu pins s σ H _ _ v u Q I rx ry ⟨a,b,xs,ys,rfl,rfl,ha,hb,hx,hz,λe=>?_,λ_ p hp=>q p _ (qo hp _) bS⟩;subst e;exact q a H (aQ.refl _) (by simpa using zU)
end L2
namespace L2
structure Fn (P:ack)(w:acJ)(K:ZQ)(mg:Str->Option ZO)(base:acj)(x:Str)(k:Nat)(ps:List Str)(sp:Sp):Prop where
 ex:∃(f:Z5) (fd:aeh),mg x=some (.ref f)/\aah K (.ref f)=true/\tJ K fd ps []/\kW P w K mg base wF k f fd ps sp
structure Df (K:ZQ)(mg:Str->Option ZO)(x:Str)(st:ad9):Prop where
 ex:∃(f:Z5) (fd:aeh),mg x=some (.ref f)/\F1 K x x st f fd
section
variable {base:acj}
theorem Df.fn (d:Df K mg x st)(S:aV N ps (ag st))(hb:∀(kV dC pm:ZO) (an:Option Z5) (br ct:ZO) (us:List ZO),us.length=ps.length->aaZ (Z1 x x (aw st) (ar st) (ag st) .none kV dC pm an br ct) ⟨us,[]⟩=pure (ps.zip us))(len:∀vs H Q E,sp vs H Q E->vs.length=ps.length)(iJ:∀(f:Z5) (br:ZO) (A:aaD) (outer:List Env) (s:Z8) (H:Hp) (vs:List V) (Q:VK) (E:XK),fX k (A.deeper (aeN x (ag st) s.heap.objs.size f br))->sp vs H Q E->
   ∃t,sJ (o3 wF P w K mg base N x (ag st) f br A outer s H E).nox (ar st) t/\t {nx:=λ_ H'=>Q .non H',rt:=Q} (adD N vs) H):Fn P w K mg base x (k+1) ps sp:=by
 obtain⟨f,fd,m,F⟩:=d.ex;exact⟨f,fd,m,F.kp,F.binds hb,F.ok S len (iJ f)⟩
end
section
variable {p:Pos}{e:abE}{es:List abE}{t:TA}
theorem wM (F:Fn X.prog X.w X.K X.mg X.base x k ps sp)(hr:fX k X.A)(ha:PA X (e::es) t)(hg:Gl X x:=by rfl)(zQ:(x==("__debug__":Str))=false:=by decide)
  (he:aaf (e::es) X.env=(false,ade e X.env)::aaf es X.env:=by rfl) (sH:(acq pos (aaf es X.env)).any (·.1)=false:=by rfl) :
  PE X (.Call (.Name x p) (e::es) [] pos) (H_ sp [] E0 t):=by
 obtain⟨f,fd,hm,hk,hb,G⟩:=F.ex;exact Gn G hr hg hm hk hb .nil MR ha zQ he sH
end
theorem aQ.seqT (e:aQ H H')(h:gz K H a xs):gz K H' a xs:=by
 rcases h with (h|⟨o,h⟩)|h
 ·exact .inl (.inl (e _ _ h))
 ·exact .inl (.inr ⟨o,e _ _ h⟩)
 ·exact .inr h
mutual
theorem aQ.rep {K:ZQ}{H H':Hp}(e:aQ H H'):∀{d:D} {v:V},aW K H d v->aW K H' d v
 | .non,v,h=>by unfold aW at h ⊢;exact h
 | .bl b,v,h=>by unfold aW at h ⊢;exact h
 | .int b,v,h=>by unfold aW at h ⊢;exact h
 | .str b,v,h=>by unfold aW at h ⊢;exact h
 | .tup ds,v,h=>by
  unfold aW at h ⊢;obtain⟨a,xs,r,q,z⟩:=h;exact⟨a,xs,r,e.seqT q,aQ.reps e z⟩
 | .lst ds,v,h=>by
  unfold aW at h ⊢;obtain⟨a,xs,r,q,z⟩:=h;exact⟨a,xs,r,e.seq q,aQ.reps e z⟩
theorem aQ.reps {K:ZQ}{H H':Hp}(e:aQ H H'):∀{ds:List D} {vs:List V},fT K H ds vs->fT K H' ds vs
 | [],vs,h=>by unfold fT at h ⊢;exact h
 |d::ds,vs,h=>by
  unfold fT at h ⊢;obtain⟨x,r,q,p,z⟩:=h;exact⟨x,r,q,aQ.rep e p,aQ.reps e z⟩
end
end L2
namespace L2
inductive U where
 |non|bl (b:Bool)|int (i:Int)|str (x:Str)|tup (xs:List U)|lst (xs:List U)|dct (ks vs:List U)|scr (xs:List U)
instance:Inhabited U:=⟨.non⟩
inductive R (α:Type) where
 |ok (a:α)|exc (c:String) (u:U)|stk
noncomputable def R.bind {α β:Type}:R α->(α->R β)->R β
 | .ok a,f=>f a
 | .exc c u,_=>.exc c u
 | .stk,_=>.stk
noncomputable abbrev Ev:=List (Option U)
inductive SR where
 |nx (ρ:Ev)|rt (u:U) (ρ:Ev)|bk (ρ:Ev)|ct (ρ:Ev)|exc (c:String) (u:U)|stk
end L2
variable {us ks:List L2.U}{u u' row:L2.U}{es:List (List L2.U×Z5×L2.V)}{ρ:L2.Ev}{sg:L2.U->L2.Ev->L2.R L2.Ev}{F:L2.U->L2.U}{y3 y5 y4:Option L2.U}
namespace L2
open Sem (wp)
mutual
noncomputable def tR:U->U->Bool
 | .non,.non=>true
 | .bl a,.bl b=>decide (a=b)
 | .int a,.int b=>decide (a=b)
 | .str a,.str b=>decide (a=b)
 | .tup a,.tup b=>nv a b
 | .lst a,.lst b=>nv a b
 | .dct a b,.dct c d=>nv a c&&nv b d
 | .scr a,.scr b=>nv a b
 |_,_=>false
noncomputable def nv:List U->List U->Bool
 | [],[]=>true
 |x::xs,y::ys=>tR x y&&nv xs ys
 |_,_=>false
end
mutual
theorem yF:∀{a b:U},tR a b=true->a=b
 | .non,b,h=>by cases b<;>first|rfl|(unfold tR at h;cases h)
 | .bl a,b,h=>by cases b<;>unfold tR at h<;>first|(cases h;done)|rw[of_decide_eq_true h]
 | .int a,b,h=>by cases b<;>unfold tR at h<;>first|(cases h;done)|rw[of_decide_eq_true h]
 | .str a,b,h=>by cases b<;>unfold tR at h<;>first|(cases h;done)|rw[of_decide_eq_true h]
 | .tup a,b,h=>by cases b<;>unfold tR at h<;>first|(cases h;done)|rw[kC h]
 | .lst a,b,h=>by cases b<;>unfold tR at h<;>first|(cases h;done)|rw[kC h]
 | .scr a,b,h=>by cases b<;>unfold tR at h<;>first|(cases h;done)|rw[kC h]
 | .dct a c,b,h=>by
  cases b<;>unfold tR at h<;>first|(cases h;done)|skip
  rw[aae] at h;rw[kC h.1,kC h.2]
theorem kC:∀{a b:List U},nv a b=true->a=b
 | [],[],_=>rfl
 | [],_::_,h=>by unfold nv at h;cases h
 |_::_,[],h=>by unfold nv at h;cases h
 |x::xs,y::ys,h=>by
  unfold nv at h;rw[aae] at h;rw[yF h.1,kC h.2]
end
mutual
theorem wN:∀(a:U),tR a a=true
 | .non=>rfl
 | .bl a=>by unfold tR;exact hG rfl
 | .int a=>by unfold tR;exact hG rfl
 | .str a=>by unfold tR;exact hG rfl
 | .tup a=>by unfold tR;exact ik a
 | .lst a=>by unfold tR;exact ik a
 | .scr a=>by unfold tR;exact ik a
 | .dct a b=>by unfold tR;rw[ik a,ik b];rfl
theorem ik:∀(a:List U),nv a a=true
 | []=>by unfold nv;rfl
 |x::xs=>by unfold nv;rw[wN x,ik xs];rfl
end
noncomputable instance Xm:DecidableEq U:=λa b=>if h:tR a b=true then .isTrue (yF h) else .isFalse λe=>h (by rw[e];exact wN b)
mutual
def gE (h:acj):U->ZO->Prop
 | .int i,v=>∃t,v=.int i t
 | .tup us,v=>∃a items,v=.ref a/\h.IsTuple a items/\dG h us items.toList
 |_,_=>False
def dG (h:acj):List U->List ZO->Prop
 | [],vs=>vs=[]
 |u::us,vs=>∃v r,vs=v::r/\gE h u v/\dG h us r
end
mutual
noncomputable def hK:U->Int
 | .int i=>hashInt i
 | .tup us=>reduceHash (abn (wo us))
 |_=>0
noncomputable def wo:List U->List Int
 | []=>[]
 |u::us=>hK u::wo us
end
mutual
noncomputable def CF:U->Nat
 | .tup us=>ny us+1
 |_=>1
noncomputable def ny:List U->Nat
 | []=>0
 |u::us=>CF u+ny us
end
mutual
noncomputable def wO:U->Nat
 | .tup us=>qp us+1
 |_=>0
noncomputable def qp:List U->Nat
 | []=>0
 |u::us=>max (wO u) (qp us)
end
theorem yG {x y:Array ZO}(h1:h.IsTuple a x)(h2:h.IsTuple a y):x=y:=by
 obtain⟨o,e,_,n,d⟩:=h1;obtain⟨o',e',_,n',d'⟩:=h2;rw[e] at e';cases e';rw[d] at d';cases d';rfl
mutual
theorem gE.inj {h:acj}:∀{x y:U} {v:ZO},gE h x v->gE h y v->x=y
 | .int i,y,v,h1,h2=>by
  unfold gE at h1;obtain⟨t,rfl⟩:=h1;cases y<;>unfold gE at h2<;>first|exact h2.elim|skip
  ·obtain⟨u,e⟩:=h2;cases e;rfl
  ·obtain⟨_,_,e,_⟩:=h2;cases e
 | .str i,y,v,h1,h2=>by unfold gE at h1;exact h1.elim
 | .tup us,y,v,h1,h2=>by
  unfold gE at h1;obtain⟨a,its,rfl,q,z⟩:=h1;cases y<;>unfold gE at h2<;>first|exact h2.elim|skip
  ·obtain⟨u,e⟩:=h2;cases e
  ·obtain⟨a',its',e,q',z'⟩:=h2;cases e;have:=yG q q';subst this;rw[dG.inj z z']
 | .non,y,v,h1,h2=>by unfold gE at h1;exact h1.elim
 | .bl _,y,v,h1,h2=>by unfold gE at h1;exact h1.elim
 | .lst _,y,v,h1,h2=>by unfold gE at h1;exact h1.elim
 | .dct _ _,y,v,h1,h2=>by unfold gE at h1;exact h1.elim
 | .scr _,y,v,h1,h2=>by unfold gE at h1;exact h1.elim
theorem dG.inj {h:acj}:∀{x y:List U} {vs:List ZO},dG h x vs->dG h y vs->x=y
 | [],y,vs,h1,h2=>by
  unfold dG at h1;subst h1;cases y with
  |nil=>rfl
  |cons=>unfold dG at h2;obtain⟨_,_,e,_⟩:=h2;cases e
 |u::us,y,vs,h1,h2=>by
  unfold dG at h1;obtain⟨v,r,rfl,p,q⟩:=h1;cases y with
  |nil=>unfold dG at h2;cases h2
  |cons=>
   unfold dG at h2;obtain⟨v',r',e,p',q'⟩:=h2;cases e;rw[gE.inj p p',dG.inj q q']
end
mutual
theorem gE.keep {h h':acj}(k:∀a its,h.IsTuple a its->h'.IsTuple a its):∀{x:U} {v:ZO},gE h x v->gE h' x v
 | .int i,v,h1=>by unfold gE at h1 ⊢;exact h1
 | .str i,v,h1=>by unfold gE at h1;exact h1.elim
 | .tup us,v,h1=>by
  unfold gE at h1 ⊢;obtain⟨a,its,e,q,z⟩:=h1;exact⟨a,its,e,k a its q,dG.keep k z⟩
 | .non,v,h1=>by unfold gE at h1;exact h1.elim
 | .bl _,v,h1=>by unfold gE at h1;exact h1.elim
 | .lst _,v,h1=>by unfold gE at h1;exact h1.elim
 | .dct _ _,v,h1=>by unfold gE at h1;exact h1.elim
 | .scr _,v,h1=>by unfold gE at h1;exact h1.elim
theorem dG.keep {h h':acj}(k:∀a its,h.IsTuple a its->h'.IsTuple a its):∀{x:List U} {vs:List ZO},dG h x vs->dG h' x vs
 | [],vs,h1=>by unfold dG at h1 ⊢;exact h1
 |u::us,vs,h1=>by
  unfold dG at h1 ⊢;obtain⟨v,r,e,p,q⟩:=h1;exact⟨v,r,e,gE.keep k p,dG.keep k q⟩
end
theorem dG.length {h:acj}:∀{us:List U} {vs:List ZO},dG h us vs->us.length=vs.length
 | [],vs,h1=>by unfold dG at h1;subst h1;rfl
 |u::us,vs,h1=>by
  unfold dG at h1;obtain⟨v,r,rfl,p,q⟩:=h1;rw[ZT,ZT,dG.length q]
theorem dG.get {h:acj}:∀{us:List U} {vs:List ZO} {i:Nat} {u:U} {v:ZO},dG h us vs->us[i]? = some u->vs[i]? = some v->gE h u v
 | [],_,_,_,_,_,e,_=>by simp at e
 |w::us,_,i,u,v,h,e1,e2=>by
  unfold dG at h;obtain⟨x,r,rfl,p,q⟩:=h;cases i with
  |zero=>simp at e1 e2;subst e1 e2;exact p
  |succ i=>exact dG.get q (by simpa using e1) (by simpa using e2)
theorem mm:∀{us:List U} {i:Nat} {u:U},us[i]? = some u->wO u<=qp us
 | [],_,_,e=>by simp at e
 |w::us,i,u,e=>by
  unfold qp;cases i with
  |zero=>simp at e;subst e;exact Nat.le_max_left _ _
  |succ i=>exact aaT (mm (us:=us) (by simpa using e)) (Nat.le_max_right _ _)
theorem qr:∀(a b:List U),wo (a++b)=wo a++wo b
 | [],b=>by unfold wo;rfl
 |x::a,b=>by rw[aca,wo,wo,qr a b];rfl
theorem n_:∀(a b:List U),ny (a++b)=ny a+ny b
 | [],b=>by rw[abP];show _=0+_;lia
 |x::a,b=>by rw[aca,ny,ny,n_ a b];lia
theorem Kt:∀(n:Nat) (u:U) (v:ZO) (A:aaD) (E:ZO->Z8->Prop) (s:Z8) (Q:Int->Z8->Prop),wO u<=n->A.units+n<abH->gE s.heap u v->Q (hK u) {s with toks:=s.toks+CF u} ->
  aac (aar prog w) A (pyHash v) Q E s:=by
 intro n
 induction n with
 |zero=>
  intro u v A E s Q hd hu hk h;cases u<;>unfold gE at hk<;>first|exact hk.elim|skip
  ·obtain⟨t,rfl⟩:=hk;unfold hK CF at h;exact wpAny_pyHash_int h
  ·unfold wO at hd;lia
 |succ n ih=>
  intro u v A E s Q hd hu hk h;cases u<;>unfold gE at hk<;>first|exact hk.elim|skip
  ·obtain⟨t,rfl⟩:=hk;unfold hK CF at h;exact wpAny_pyHash_int h
  ·rename_i us;unfold wO at hd;obtain⟨a,items,rfl,ht,hi⟩:=hk;have hT:s.TypeIs (.ref a) "tuple":=let ⟨o,e,c,_⟩:=ht;⟨o,e,c⟩
   obtain⟨o,ho,_,nn,hdat⟩:=ht;unfold pyHash
   first|unfold pyHashByItsType|skip
   first|refine ZL (wpAny_cRoomFor_or (.inr (by lia)) ?_)|skip
   refine ZL (acS hT F.slot_tuple_hash.lookup ?_);show aac _ _ (if (some (Value.builtin "tuple.__hash__")==some Value.none)=true then _ else _) Q E s;rw[hU (by rw[beq_builtin_none];exact ZV)];refine ZL (acS hT F.slot_tuple_hash.lookup ?_);show aac _ _ (callSpecialIfBoundUnlessNone? (.ref a) "__hash__" _ >>= _) Q E s;refine ZL (wpAny_callSpecialIfBoundUnlessNone?_slot hT F.slot_tuple_hash (aaH F.slot_tuple_hash hT F.entry_tuple_hash ?_ (F.args_tuple_hash_1 _)));show aac _ _ (ac9 (.ref a) >>= _) _ _ s;refine ZL (wpAny_tupleItemsOf ho hdat ?_);refine ZL ?_;rw[←aeS];refine aec _
    (λrest (b:Array Int) s'=>∃done left,us=done++left/\dG s.heap left rest/\b.toList=wo done/\s'={s with toks:=s.toks+ny done})
    _ ?_ ?_ _ _ ⟨[],us,rfl,hi,by unfold wo;rfl,by unfold ny;rfl⟩
   ·rintro x rest b s' ⟨done,left,rfl,hl,hb,rfl⟩;cases left with
    |nil=>unfold dG at hl;cases hl
    |cons k ks'=>
     unfold dG at hl;obtain⟨v',r',e,h1,hl'⟩:=hl;cases e;have RE:wO k<=n:=by
      have:=mm (us:=done++k::ks') (i:=done.length) (u:=k) (by simp);lia
     refine ZL (ih k x A.in1 E _ _ RE (by show A.units+1+n<abH;lia) h1 ?_);have e2:wo (done++[k])=wo done++[hK k]:=by rw[qr];unfold wo wo;rfl
     have e3:ny (done++[k])=ny done+CF k:=by rw[n_];show _+(CF k+ny [])=_;unfold ny;lia
     first
      |exact ZN ⟨done++[k],ks',by simp,hl',by simp[hb,e2],by simp[e3,acG]⟩
      |exact ZL (ZN (ZN ⟨done++[k],ks',by simp,hl',by simp[hb,e2],by simp[e3,acG]⟩))
   ·rintro b s' ⟨done,left,rfl,hl,hb,rfl⟩;cases left with
    |cons k ks'=>unfold dG at hl;obtain⟨_,_,e,_⟩:=hl;cases e
    |nil=>
     rw[aaF] at h;show aac _ _ (retInt (abn b.toList)) _ _ _;rw[hb];refine wpAny_ret_mkInt ?_;show aac _ _ (if (decide (-(2:Int) ^ 63<=abn (wo done))&&decide (abn (wo done)<2 ^ 63))=true then _ else _) Q E _;unfold hK CF reduceHash at h;by_cases hr:(decide (-(2:Int) ^ 63<=abn (wo done))&&decide (abn (wo done)<2 ^ 63))=true
     ·rw[hV hr];rw[hV hr] at h;exact ZN (by simpa [acG] using h)
     ·rw[hU hr];rw[hU hr] at h;exact ZL (ab0 (ZN (by simpa [acG] using h)))
theorem Qu:∀(n:Nat) (x y:U) (u v:ZO) (A:aaD),wO x<=n->A.units+n<abH->gE s.heap x u->gE s.heap y v->acx A s u v (decide (x=y)):=by
 intro n
 induction n with
 |zero=>
  intro x y u v A hd hu h1 h2;have dD:A.units<abH:=by lia
  cases x<;>(try (unfold gE at h1;exact h1.elim))
  case int i=>
   unfold gE at h1;obtain⟨t,rfl⟩:=h1;cases y<;>(try (unfold gE at h2;exact h2.elim))
   case int j=>
    unfold gE at h2;obtain⟨t',rfl⟩:=h2;have:=aeO (A:=A) (s:=s) i t j t';have e:decide (U.int i=U.int j)=(i==j):=by rw[acT];simp
    rw[e];exact this
   case tup us=>
    unfold gE at h2;obtain⟨a,its,rfl,ht,_⟩:=h2;rw[hJ (by intro z;cases z)];exact SeqAt.EqAt.int_tuple i t ht dD
  case tup us=>unfold wO at hd;lia
 |succ n ih=>
  intro x y u v A hd hu h1 h2;have dD:A.units<abH:=by lia
  cases x<;>(try (unfold gE at h1;exact h1.elim))
  case int i=>exact ih _ y u v A (by unfold wO;lia) (by lia) h1 h2
  case tup us=>
   unfold wO at hd;have OD:=h1;unfold gE at h1;obtain⟨a,its,rfl,p1,z1⟩:=h1;cases y<;>(try (unfold gE at h2;exact h2.elim))
   case int j=>
    unfold gE at h2;obtain⟨t',rfl⟩:=h2;rw[hJ (by intro z;cases z)];exact SeqAt.EqAt.tuple_int j t' p1 dD
   case tup ws=>
    have JJ:=h2;unfold gE at h2;obtain⟨b,its2,rfl,p2,z2⟩:=h2;by_cases uN:a=b
    ·subst uN;rw[gE.inj OD JJ,hG rfl];exact aeu _
    ·refine aeQ uN ?_;have l1:its.size=us.length:=by rw[z1.length,ZR]
     have l2:its2.size=ws.length:=by rw[z2.length,ZR]
     have he:∀j (g1:j<its.size) (g2:j<its2.size),acx A.in1 s its[j] its2[j] (decide (us[j]? = ws[j]?)):=λj g1 g2=>by
      have q1:us[j]? = some us[j]:=ZM (by lia);have q2:ws[j]? = some ws[j]:=ZM (by lia);have y1:its.toList[j]? = some its[j]:=by rw[aaa];exact aap g1
      have y2:its2.toList[j]? = some its2[j]:=by rw[aaa];exact aap g2
      have e:decide (us[j]? = ws[j]?)=decide (us[j]=ws[j]):=by rw[q1,q2,acT];simp
      rw[e];refine ih us[j] ws[j] its[j] its2[j] A.in1 ?_ (by show A.units+1+n<abH;lia) (z1.get q1 y1) (z2.get q2 y2);have:=mm q1;lia
     have q:=ae8 (A:=A) p1 p2 dD he;rw[l1,l2] at q;have fin:((aaA (min us.length ws.length)).all (λj=>decide (us[j]? = ws[j]?))&&us.length==ws.length)=decide (U.tup us=U.tup ws):=by
      rw[acT,aae,aaI,decide_eq_true_eq];constructor
      ·rintro⟨ha,hl⟩;have hl:us.length=ws.length:=by simpa using hl
       congr 1;refine acA λj=>?_;by_cases hj:j<us.length
       ·exact of_decide_eq_true (ha j (aax.mpr (by lia)))
       ·rw[abo.mpr (by lia),abo.mpr (by lia)]
      ·intro e;cases e;exact⟨λj _=>hG rfl,by simp⟩
     rw[←fin];exact q
theorem GF:∀(n:Nat) (x:U) (v:ZO) (A:aaD) (E:ZO->Z8->Prop) (s:Z8) (Q:Bool->Z8->Prop),wO x<=n->gE s.heap x v->Q true s->aac (aar prog w) A (eqIsQuiet n v) Q E s:=by
 intro n
 induction n with
 |zero=>
  intro x v A E s Q hd hk h;cases x<;>unfold gE at hk<;>first|exact hk.elim|skip
  ·obtain⟨t,rfl⟩:=hk;rw[eqIsQuiet_byValue _ rfl];exact ZN h
  ·unfold wO at hd;lia
 |succ n ih=>
  intro x v A E s Q hd hk h;cases x<;>unfold gE at hk<;>first|exact hk.elim|skip
  ·obtain⟨t,rfl⟩:=hk;rw[eqIsQuiet_byValue _ rfl];exact ZN h
  ·rename_i us;unfold wO at hd;obtain⟨a,items,rfl,ht,hi⟩:=hk;have hT:s.TypeIs (.ref a) "tuple":=let ⟨o,e,c,_⟩:=ht;⟨o,e,c⟩
   obtain⟨o,ho,_,nn,hdat⟩:=ht;unfold eqIsQuiet;refine ZL (acS hT F.slot_tuple_eq.lookup ?_);show aac _ _ (isInstance (.ref a) (.type "tuple") >>= _) _ _ s;refine ZL (adl hT isSubtype_tuple_tuple ?_);simp only[ac7,aau,if_false];refine ZL (abY ho hdat ?_);refine ZL ?_;show aac _ _ (forIn items _ _) _ _ s;rw[←aeS];refine aec _ (λrest r s'=>r.1=none/\s'=s/\∃done left,us=done++left/\dG s.heap left rest) _ ?_ ?_ _ _ ⟨rfl,rfl,[],us,rfl,hi⟩
   ·rintro v rest r s' ⟨hr,rfl,done,left,rfl,hl⟩;cases left with
    |nil=>unfold dG at hl;cases hl
    |cons k ks'=>
     unfold dG at hl;obtain⟨v',r',e,h1,hl'⟩:=hl;cases e;have RE:wO k<=n:=by
      have:=mm (us:=done++k::ks') (i:=done.length) (u:=k) (by simp);lia
     refine ZL (ih k v A E _ _ RE h1 ?_);simp only[ac7,aau,if_false];exact ZN ⟨rfl,rfl,done++[k],ks',by simp,hl'⟩
   ·rintro⟨r1,r2⟩ s' ⟨hr,rfl,_⟩;simp only at hr;subst hr;exact ZN h
def TK (h:acj)(us:List U)(a:Z5):Prop:=qp us<=6/\∃items,h.IsTuple a items/\dG h us items.toList
theorem TK.is (x:TK h us a):wO (.tup us)<=7/\gE h (.tup us) (.ref a):=by
 obtain⟨l,its,t,z⟩:=x;exact⟨by unfold wO;lia,by unfold gE;exact⟨a,its,rfl,t,z⟩⟩
theorem mn {x y:List U}:(U.tup x=U.tup y)↔x=y:=⟨λh=>by cases h;rfl,λh=>by rw[h]⟩
noncomputable def cc (prog:ack)(w:acJ):adK prog w (List U) where
 is:=TK
 hash:=λus=>hK (.tup us)
 draws:=λus=>CF (.tup us)
 room:=λA=>A.units+20<abH
 inj:=λhx hy=>mn.mp (gE.inj hx.is.2 hy.is.2)
 keeps:=λ{h h' k a d o es ep} x ho hd hs=>by
  have kp:∀b its,h.IsTuple b its->h'.IsTuple b its:=λb its h00=>by
   obtain⟨o',e,c,n,z⟩:=h00;have JK:b≠d:=by
    rintro rfl;obtain rfl:o'=o:=aaj (e.symm.trans ho);rw[hd] at z;exact nomatch z
   exact⟨o',(hs.2 b JK).trans e,c,n,z⟩
  obtain⟨l,its,t,z⟩:=x;exact⟨l,its,kp _ _ t,z.keep kp⟩
 pyHash:=λ{A E s k a Q} hu hk h=>Kt 7 (.tup k) (.ref a) A E s Q hk.is.1 (by lia) hk.is.2 h
 eqBool:=λ{A E s x y a b Q} hu hx hy h=>Qu 7 (.tup x) (.tup y) (.ref a) (.ref b) A hx.is.1 (by lia) hx.is.2 hy.is.2 prog w E Q (by
  have e:decide (U.tup x=U.tup y)=decide (x=y):=by rw[acT,decide_eq_true_eq,decide_eq_true_eq];exact mn
  rw[e];exact h)
 quiet:=λ{A E s k a Q} hk h=>GF 8 (.tup k) (.ref a) A E s Q (aaT hk.is.1 (by lia)) hk.is.2 h
def Ku (p:List U×Z5×V)(q:List U×Z5×ZO):Prop:=p.1=q.1/\p.2.1=q.2.1/\bx p.2.2 q.2.2
noncomputable def MW (e:List U×Z5×ZO):DictEntry:=⟨hK (.tup e.1),.ref e.2.1,e.2.2⟩
def MX (a:Z5)(ep:Nat)(es:List (List U×Z5×V))(h:acj):Prop:=(a==abZ)=false/\∃o ds,∃xs:List (List U×Z5×ZO),h.get? a=some o/\o.ExactDict/\o.data=.dict ds ep/\aeF Ku es xs/\ds.toList=xs.map MW
noncomputable def DN (a:Z5)(ep:Nat)(es:List (List U×Z5×V)):HO:=.ext (MX a ep es)
mutual
def KH (H:Hp):U->V->Prop
 | .int i,v=>v=.int i
 | .tup us,v=>∃b ys,v=.ref b/\H b=some (.tup ys)/\us.length<=ZY/\qt H us ys
 |_,_=>False
def qt (H:Hp):List U->List V->Prop
 | [],vs=>vs=[]
 |u::us,vs=>∃v r,vs=v::r/\KH H u v/\qt H us r
end
mutual
theorem KH.to {H H':Hp}(e:∀b ys,H b=some (.tup ys)->H' b=some (.tup ys)):∀{u:U} {v:V},KH H u v->KH H' u v
 | .int i,v,h=>by unfold KH at h ⊢;exact h
 | .tup us,v,h=>by
  unfold KH at h ⊢;obtain⟨b,ys,r,q,l,z⟩:=h;exact⟨b,ys,r,e b ys q,l,qt.to e z⟩
 | .non,v,h=>by unfold KH at h;exact h.elim
 | .bl _,v,h=>by unfold KH at h;exact h.elim
 | .str _,v,h=>by unfold KH at h;exact h.elim
 | .lst _,v,h=>by unfold KH at h;exact h.elim
 | .dct _ _,v,h=>by unfold KH at h;exact h.elim
 | .scr _,v,h=>by unfold KH at h;exact h.elim
theorem qt.to {H H':Hp}(e:∀b ys,H b=some (.tup ys)->H' b=some (.tup ys)):∀{us:List U} {vs:List V},qt H us vs->qt H' us vs
 | [],vs,h=>by unfold qt at h ⊢;exact h
 |u::us,vs,h=>by
  unfold qt at h ⊢;obtain⟨v,r,q,p,z⟩:=h;exact⟨v,r,q,KH.to e p,qt.to e z⟩
end
mutual
theorem KH.is (ok:kT P w H h):∀{u:U} {v:V} {x:ZO},KH H u v->bx v x->gE h u x
 | .int i,v,x,k,r=>by
  unfold KH at k;subst k;obtain⟨t,rfl⟩:=r;unfold gE;exact⟨t,rfl⟩
 | .tup us,v,x,k,r=>by
  unfold KH at k;obtain⟨b,ys,rfl,q,_,z⟩:=k;cases r;obtain⟨_,its,rv,it,_⟩:=ok b _ q;unfold gE;exact⟨b,its.toArray,rfl,it,by simpa using qt.is ok z rv⟩
 | .non,v,x,k,r=>by unfold KH at k;exact k.elim
 | .bl _,v,x,k,r=>by unfold KH at k;exact k.elim
 | .str _,v,x,k,r=>by unfold KH at k;exact k.elim
 | .lst _,v,x,k,r=>by unfold KH at k;exact k.elim
 | .dct _ _,v,x,k,r=>by unfold KH at k;exact k.elim
 | .scr _,v,x,k,r=>by unfold KH at k;exact k.elim
theorem qt.is (ok:kT P w H h):∀{us:List U} {vs:List V} {xs:List ZO},qt H us vs->bh vs xs->dG h us xs
 | [],vs,xs,k,r=>by
  unfold qt at k;subst k;cases r;unfold dG;rfl
 |u::us,vs,xs,k,r=>by
  unfold qt at k;obtain⟨v,vr,rfl,p,z⟩:=k;cases r with
  |cons r1 r2=>
   unfold dG;exact⟨_,_,rfl,KH.is ok p r1,qt.is ok z r2⟩
end
def yH (H:Hp)(us:List U)(b:Z5):Prop:=qp us<=6/\∃ys,H b=some (.tup ys)/\us.length<=ZY/\qt H us ys
theorem yH.tk (ok:kT P w H h)(k:yH H us b):TK h us b:=by
 obtain⟨l,ys,q,_,z⟩:=k;obtain⟨_,its,rv,it,_⟩:=ok b _ q;exact⟨l,its.toArray,it,by simpa using qt.is ok z rv⟩
theorem yH.to (e:∀b ys,H b=some (.tup ys)->H' b=some (.tup ys))(k:yH H us b):yH H' us b:=by
 obtain⟨l,ys,q,n,z⟩:=k;exact⟨l,ys,e b ys q,n,z.to e⟩
structure fA (H:Hp)(a:Z5)(es:List (List U×Z5×V)):Prop where
 ob:(∃ep,H a=some (DN a ep es))\/(es=[]/\H a=some (.dK []))
 nd:(es.map (·.1)).Nodup
 key:∀e∈es,yH H e.1 e.2.1
theorem qu {α β:Type}{R:α->β->Prop}:∀{xs:List α} {ys:List β} {y:β},aeF R xs ys->y∈ys->∃x∈xs,R x y
 |_,_,_,.nil,h=>by cases h
 |x::xs,y'::ys,y,.cons r t,h=>by
  rcases Z4.mp h with e|h
  ·subst e;exact⟨x,ZS,r⟩
  ·obtain⟨x',m,q⟩:=qu t h;exact⟨x',ZX _ m,q⟩
theorem qv:∀{es:List (List U×Z5×V)} {xs:List (List U×Z5×ZO)},aeF Ku es xs->es.map (·.1)=xs.map (·.1)
 |_,_,.nil=>rfl
 |_::_,_::_,.cons r t=>by rw[Z_,Z_,qv t,r.1]
theorem fA.of (ok:kT P w H h)(d:fA H a es):∃xs,aeF Ku es xs/\h.DictOfH (cc P w) a xs:=by
 rcases d.ob with⟨ep,q⟩|⟨e,q⟩
 ·obtain⟨⟨_,o,ds,xs,h1,h2,h3,h4,h5⟩,_⟩:=ok a _ q;refine⟨xs,h4,o,ds,ep,h1,h2,h3,h5,λx hx=>?_,by rw[←qv h4];exact d.nd⟩;obtain⟨e,he,r⟩:=qu h4 hx;have:=(d.key e he).tk ok;rw[r.1,r.2.1] at this;exact this
 ·subst e;obtain⟨_,_,vs,rel,dd⟩:=ok a _ q;cases rel;obtain⟨o,ds,ep,h1,h2,h3,h4,h5,h6⟩:=dd;have e0:ds.toList=[]:=by
   generalize ds.toList=l at h5;cases h5;rfl
  exact⟨[],.nil,o,ds,ep,h1,h2,h3,by rw[e0];rfl,(λx hx=>by cases hx),ad7⟩
theorem fA.lo (ok:kT P w H h)(d:fA H a es):(a==abZ)=false:=by
 rcases d.ob with⟨ep,q⟩|⟨e,q⟩
 ·obtain⟨⟨l,_⟩,_⟩:=ok a _ q;exact l
 ·obtain⟨_,l,_⟩:=ok a _ q;exact l
noncomputable def gQ (es:List (List U×Z5×V))(k:List U):Option V:=(es.find? λe=>decide (e.1=k)).map (·.2.2)
noncomputable def yI (es:List (List U×Z5×V))(k:List U)(b:Z5)(v:V):List (List U×Z5×V):=
 if (gQ es k).isSome then es.map (λe=>if e.1=k then (e.1,e.2.1,v) else e) else es++[(k,b,v)]
theorem jZ (k:List U):∀{es:List (List U×Z5×V)} {xs:List (List U×Z5×ZO)},aeF Ku es xs->oY (gQ es k) ((ae7 xs k).map (·.2))
 |_,_,.nil=>trivial
 |e::es,x::xs,.cons r t=>by
  have ih:=jZ k t;unfold gQ ae7 at ih ⊢;rw[abm,abm];by_cases c:e.1=k
  ·have c':x.1=k:=by rw[←r.1];exact c
   rw[hG c,hG c'];exact r.2.2
  ·have c':¬x.1=k:=by rw[←r.1];exact c
   rw[hJ c,hJ c'];exact ih
theorem Dx (k:List U){u:ZO}(rv:bx v u){xs:List (List U×Z5×ZO)}(p:aeF Ku es xs):aeF Ku (yI es k b v) (storedH xs k b u):=by
 have e:(gQ es k).isSome=(ae7 xs k).isSome:=by
  have:=(jZ k p).isSome_eq;rw[Option.isSome_map] at this;exact this
 unfold yI storedH;rw[e];split
 ·rename_i hh;clear hh e
  induction p with
  |nil=>exact .nil
  | @cons q x es xs r t ih=>
   refine .cons ?_ ih;unfold putAt;dsimp only;by_cases c:q.1=k
   ·have c':x.1=k:=by rw[←r.1];exact c
    rw[hV c,hV c'];exact⟨r.1,r.2.1,rv⟩
   ·have c':¬x.1=k:=by rw[←r.1];exact c
    rw[hU c,hU c'];exact r
 ·rename_i hh;clear hh e
  induction p with
  |nil=>exact .cons ⟨rfl,rfl,rv⟩ .nil
  |cons r t ih=>exact .cons r ih
section
variable {d:V}{r:ZO}{k:List U}{A:aaD}
theorem Dy (hu:A.units+64<abH):(cc X.prog X.w).room A.in1:=by show A.units+1+20<abH;lia
theorem BH (hu:A.units+64<abH)(I:aJ X pins σ H s)(g:fA H a es)(kb:yH H k b)(e:gQ es k=some v)(h:∀w' s',aJ X pins σ H s'->bx v w'->Q w' s') :
  aac (aar X.prog X.w) A (aes (.ref a) (.ref b)) Q E s:=by
 obtain⟨xs,rel,dd⟩:=g.of I.hok;obtain⟨w',hw,zS⟩:=oY.some_of (v:=v) (o:=(ae7 xs k).map (·.2)) (by rw[←e];exact jZ k rel);obtain⟨p,hp,Bs⟩:=Option.map_eq_some_iff.mp hw;refine wpAny_getItem_heap (Dy hu) (kb.tk I.hok) dd hp ?_;rw[Bs];exact h w' _ (I.tok _) zS
theorem fA.typeIs (I:aJ X pins σ H s)(g:fA H a es):s.TypeIs (.ref a) "dict":=by
 obtain⟨xs,rel,dd⟩:=g.of I.hok;exact dd.typeIs
theorem fA.noDict (I:aJ X pins σ H s)(g:fA H a es):∀b,Value.ref a=.ref b->∃ob,s.heap.get? b=some ob/\ob.dict=none:=λb q=>by
 cases q;obtain⟨xs,rel,ob,_,_,h1,h2,_⟩:=g.of I.hok;exact⟨ob,h1,h2.2.1⟩
theorem fA.mut (g:fA H a es):L9 (H a):=by
 rcases g.ob with⟨ep,q⟩|⟨_,q⟩<;>(rw[q];exact True.intro)
end
end L2
namespace L2
noncomputable def kU:jI->U
 | .inl i=>.int i
 | .inr x=>.str x
def BI (H:Hp)(a:Z5)(ks:List U)(xs:List V):Prop:=
 (∃cF:List (jI×V),H a=some (.dK cF)/\ks=cF.map (λp=>kU p.1)/\xs=cF.map (·.2)) \/
 ∃es:List (List U×Z5×V),es≠[]/\fA H a es/\ks=es.map (λp=>.tup p.1)/\xs=es.map (·.2.2)
noncomputable abbrev MY:=BI
theorem BI.at (h:MY H a ks xs):BI H a ks xs:=h
theorem fA.ne (h:fA H a es)(n:es≠[]):∃ep,H a=some (DN a ep es):=by
 rcases h.ob with q|⟨e,_⟩
 ·exact q
 ·exact absurd e n
def GG (K:ZQ)(H:Hp)(a:Z5)(xs:List V):Prop:=(∃o,H a=some (.frz o (.lst xs))) \/
  ∃(o:Obj) (its:Array ZO) (n:Nat),K.lookup a=some o/\o.cls=.type "list"/\o.dict=none/\o.data=.seq its n/\its.size<=ZY/\bh xs its.toList
theorem GG.sq (h:GG K H a xs):fS K H a xs:=by
 rcases h with⟨o,h⟩|h
 ·exact .inl (.inr ⟨o,h⟩)
 ·exact .inr h
theorem GG.to (h:GG K H a xs)(e:∀o y,H a=some (.frz o y)->H' a=some (.frz o y)):GG K H' a xs:=by
 rcases h with⟨o,h⟩|h
 ·exact .inl ⟨o,e _ _ h⟩
 ·exact .inr h
mutual
def Rp (K:ZQ)(H:Hp)(A:Z5->Prop):U->V->Prop
 | .non,v=>v=.non
 | .bl b,v=>v=.bl b
 | .int i,v=>v=.int i
 | .str x,v=>v=.str x
 | .tup us,v=>∃a xs,v=.ref a/\H a=some (.tup xs)/\us.length<=ZY/\aK K H A us xs
 | .lst us,v=>∃a xs,v=.ref a/\¬A a/\H a=some (.lst xs)/\us.length<=ZY/\aK K H A us xs
 | .dct ks us,v=>∃a xs,v=.ref a/\¬A a/\BI H a ks xs/\us.length<=ZY/\aK K H A us xs
 | .scr us,v=>∃a xs,v=.ref a/\GG K H a xs/\us.length<=ZY/\aK K H A us xs
def aK (K:ZQ)(H:Hp)(A:Z5->Prop):List U->List V->Prop
 | [],xs=>xs=[]
 |u::us,xs=>∃x r,xs=x::r/\Rp K H A u x/\aK K H A us r
end
def j0 (K:ZQ)(H:Hp)(A:Z5->Prop):U->Z5->Prop
 | .lst us,a=>∃xs,H a=some (.lst xs)/\us.length<=ZY/\aK K H A us xs
 | .dct ks us,a=>∃xs,MY H a ks xs/\us.length<=ZY/\aK K H A us xs
 |_,_=>False
def Pk (K:ZQ)(H:Hp)(A:Z5->Prop):U->V->Prop
 | .non,v=>v=.non
 | .bl b,v=>v=.bl b
 | .int i,v=>v=.int i
 | .str x,v=>v=.str x
 | .tup us,v=>∃a xs,v=.ref a/\H a=some (.tup xs)/\us.length<=ZY/\aK K H A us xs
 | .lst us,v=>∃a xs,v=.ref a/\H a=some (.lst xs)/\us.length<=ZY/\aK K H A us xs
 | .dct ks us,v=>∃a xs,v=.ref a/\BI H a ks xs/\us.length<=ZY/\aK K H A us xs
 | .scr us,v=>∃a xs,v=.ref a/\GG K H a xs/\us.length<=ZY/\aK K H A us xs
def Mu:Option HO->Prop
 |some (.lst _)=>True
 |some (.dK _)=>True
 |some (.dT _)=>True
 |some (.ext _)=>True
 |_=>False
theorem Mu.ex {o:Option HO}(h:Mu o):∃x,o=.some x:=by
 cases o with
 |none=>exact h.elim
 |some x=>exact⟨x,rfl⟩
def fg (A:Z5->Prop)(H H':Hp):Prop:=∀b o,¬A b->H b=some o->H' b=some o
theorem fg.refl:fg A H H:=λ_ _ _ h=>h
theorem fg.trans (a:fg A H H1)(b:fg A H1 H2):fg A H H2:=λc o n h=>b c o n (a c o n h)
theorem fg.same (h:aQ H H'):fg A H H':=λb o _ e=>h b o e
section
variable {A':Z5->Prop}
theorem BI.ex (h:BI H a ks xs):∃o,H a=some o:=by
 rcases h with⟨k,h,_⟩|⟨k,n,h,_⟩
 ·exact⟨_,h⟩
 ·obtain⟨ep,q⟩:=h.ne n;exact⟨_,q⟩
theorem BI.to (h:BI H a ks xs)(e:∀o,H a=some o->H' a=some o)(t:∀b ys,H b=some (.tup ys)->H' b=some (.tup ys)):BI H' a ks xs:=by
 rcases h with⟨k,h,z⟩|⟨k,n,h,z⟩
 ·exact .inl ⟨k,e _ h,z⟩
 ·exact .inr ⟨k,n,⟨h.ob.imp (fun⟨ep,q⟩=>⟨ep,e _ q⟩) (λq=>⟨q.1,e _ q.2⟩),h.nd,λy hy=>(h.key y hy).to t⟩,z⟩
mutual
theorem Rp.re (m:∀b,A b->Mu (H b))(e:fg A H H')(n:∀b,A' b->A b\/H b=none):∀{u:U} {v:V},Rp K H A u v->Rp K H' A' u v
 | .non,v,h=>by unfold Rp at h ⊢;exact h
 | .bl b,v,h=>by unfold Rp at h ⊢;exact h
 | .int b,v,h=>by unfold Rp at h ⊢;exact h
 | .str b,v,h=>by unfold Rp at h ⊢;exact h
 | .tup us,v,h=>by
  unfold Rp at h ⊢;obtain⟨a,xs,r,q,l,z⟩:=h;exact⟨a,xs,r,e a _ (λz=>by have:=m a z;rw[q] at this;exact this) q,l,aK.re m e n z⟩
 | .lst us,v,h=>by
  unfold Rp at h ⊢;obtain⟨a,xs,r,na,q,l,z⟩:=h;refine⟨a,xs,r,λy=>?_,e a _ na q,l,aK.re m e n z⟩;rcases n a y with y|y
  ·exact na y
  ·rw[q] at y;cases y
 | .scr us,v,h=>by
  unfold Rp at h ⊢;obtain⟨a,xs,r,q,l,z⟩:=h;exact⟨a,xs,r,q.to λo y w=>e a _ (λz=>by have:=m a z;rw[w] at this;exact this) w,l,aK.re m e n z⟩
 | .dct ks us,v,h=>by
  unfold Rp at h ⊢;obtain⟨a,xs,r,na,q,l,z⟩:=h;refine⟨a,xs,r,λy=>?_,q.to (λo w=>e a o na w) (λb ys w=>e b _ (λy=>by have:=m b y;rw[w] at this;exact this) w),l,aK.re m e n z⟩;obtain⟨o,w⟩:=q.ex;rcases n a y with y|y
  ·exact na y
  ·rw[w] at y;cases y
theorem aK.re (m:∀b,A b->Mu (H b))(e:fg A H H')(n:∀b,A' b->A b\/H b=none):∀{us:List U} {vs:List V},aK K H A us vs->aK K H' A' us vs
 | [],vs,h=>by unfold aK at h ⊢;exact h
 |u::us,vs,h=>by
  unfold aK at h ⊢;obtain⟨x,r,q,p,z⟩:=h;exact⟨x,r,q,Rp.re m e n p,aK.re m e n z⟩
end
mutual
theorem Rp.mono (n:∀b,A' b->A b):∀{u:U} {v:V},Rp K H A u v->Rp K H A' u v
 | .non,v,h=>by unfold Rp at h ⊢;exact h
 | .bl b,v,h=>by unfold Rp at h ⊢;exact h
 | .int b,v,h=>by unfold Rp at h ⊢;exact h
 | .str b,v,h=>by unfold Rp at h ⊢;exact h
 | .tup us,v,h=>by
  unfold Rp at h ⊢;obtain⟨a,xs,r,q,l,z⟩:=h;exact⟨a,xs,r,q,l,aK.mono n z⟩
 | .lst us,v,h=>by
  unfold Rp at h ⊢;obtain⟨a,xs,r,na,q,l,z⟩:=h;exact⟨a,xs,r,λy=>na (n a y),q,l,aK.mono n z⟩
 | .scr us,v,h=>by
  unfold Rp at h ⊢;obtain⟨a,xs,r,q,l,z⟩:=h;exact⟨a,xs,r,q,l,aK.mono n z⟩
 | .dct ks us,v,h=>by
  unfold Rp at h ⊢;obtain⟨a,xs,r,na,q,l,z⟩:=h;exact⟨a,xs,r,λy=>na (n a y),q,l,aK.mono n z⟩
theorem aK.mono (n:∀b,A' b->A b):∀{us:List U} {vs:List V},aK K H A us vs->aK K H A' us vs
 | [],vs,h=>by unfold aK at h ⊢;exact h
 |u::us,vs,h=>by
  unfold aK at h ⊢;obtain⟨x,r,q,p,z⟩:=h;exact⟨x,r,q,Rp.mono n p,aK.mono n z⟩
end
mutual
theorem Rp.same (e:aQ H H'):∀{u:U} {v:V},Rp K H A u v->Rp K H' A u v
 | .non,v,h=>by unfold Rp at h ⊢;exact h
 | .bl b,v,h=>by unfold Rp at h ⊢;exact h
 | .int b,v,h=>by unfold Rp at h ⊢;exact h
 | .str b,v,h=>by unfold Rp at h ⊢;exact h
 | .tup us,v,h=>by
  unfold Rp at h ⊢;obtain⟨a,xs,r,q,l,z⟩:=h;exact⟨a,xs,r,e a _ q,l,aK.same e z⟩
 | .lst us,v,h=>by
  unfold Rp at h ⊢;obtain⟨a,xs,r,na,q,l,z⟩:=h;exact⟨a,xs,r,na,e a _ q,l,aK.same e z⟩
 | .scr us,v,h=>by
  unfold Rp at h ⊢;obtain⟨a,xs,r,q,l,z⟩:=h;exact⟨a,xs,r,q.to λo y w=>e a _ w,l,aK.same e z⟩
 | .dct ks us,v,h=>by
  unfold Rp at h ⊢;obtain⟨a,xs,r,na,q,l,z⟩:=h;exact⟨a,xs,r,na,q.to (λo w=>e a o w) (λb ys w=>e b _ w),l,aK.same e z⟩
theorem aK.same (e:aQ H H'):∀{us:List U} {vs:List V},aK K H A us vs->aK K H' A us vs
 | [],vs,h=>by unfold aK at h ⊢;exact h
 |u::us,vs,h=>by
  unfold aK at h ⊢;obtain⟨x,r,q,p,z⟩:=h;exact⟨x,r,q,Rp.same e p,aK.same e z⟩
end
theorem aK.length:∀{us:List U} {vs:List V},aK K H A us vs->us.length=vs.length
 | [],_,h=>by unfold aK at h;subst h;rfl
 |u::us,_,h=>by
  unfold aK at h;obtain⟨x,r,rfl,_,q⟩:=h;rw[ZT,ZT,aK.length q]
theorem aK.get:∀{us:List U} {vs:List V} {i:Nat} {u:U},aK K H A us vs->us[i]? = some u->∃v,vs[i]? = some v/\Rp K H A u v
 | [],_,_,_,_,e=>by simp at e
 |w::us,_,i,u,h,e=>by
  unfold aK at h;obtain⟨x,r,rfl,p,q⟩:=h;cases i with
  |zero=>simp at e;subst e;exact⟨x,by simp,p⟩
  |succ i=>
   obtain⟨v,a,b⟩:=aK.get q (i:=i) (by simpa using e);exact⟨v,by simpa using a,b⟩
theorem aK.nil:aK K H A [] []:=by unfold aK;rfl
theorem aK.cons (h:Rp K H A u v)(t:aK K H A us vs):aK K H A (u::us) (v::vs):=by unfold aK;exact⟨v,vs,rfl,h,t⟩
theorem aK.append:∀{us ws:List U} {vs xs:List V},aK K H A us vs->aK K H A ws xs->aK K H A (us++ws) (vs++xs)
 | [],ws,vs,xs,h,t=>by unfold aK at h;subst h;exact t
 |u::us,ws,vs,xs,h,t=>by
  unfold aK at h;obtain⟨x,r,rfl,p,q⟩:=h;exact aK.cons p (aK.append q t)
theorem aK.take:∀{us:List U} {vs:List V} (n:Nat),aK K H A us vs->aK K H A (us.take n) (vs.take n)
 | [],vs,n,h=>by unfold aK at h;subst h;simp;exact aK.nil
 |u::us,vs,0,h=>by simp;exact aK.nil
 |u::us,vs,n+1,h=>by
  unfold aK at h;obtain⟨x,r,rfl,p,q⟩:=h;exact aK.cons p (aK.take n q)
theorem aK.drop:∀{us:List U} {vs:List V} (n:Nat),aK K H A us vs->aK K H A (us.drop n) (vs.drop n)
 | [],vs,n,h=>by unfold aK at h;subst h;simp;exact aK.nil
 |u::us,vs,0,h=>h
 |u::us,vs,n+1,h=>by
  unfold aK at h;obtain⟨x,r,rfl,p,q⟩:=h;exact aK.drop n q
theorem aK.set:∀{us:List U} {vs:List V} (n:Nat) {u:U} {v:V},Rp K H A u v->aK K H A us vs->aK K H A (us.set n u) (vs.set n v)
 | [],vs,n,_,_,_,h=>by unfold aK at h;subst h;simp;exact aK.nil
 |u::us,vs,0,_,_,p',h=>by
  unfold aK at h;obtain⟨x,r,rfl,p,q⟩:=h;exact aK.cons p' q
 |u::us,vs,n+1,_,_,p',h=>by
  unfold aK at h;obtain⟨x,r,rfl,p,q⟩:=h;exact aK.cons p (aK.set n p' q)
theorem Rp.pk (h:Rp K H A u v):Pk K H A u v:=by
 cases u<;>(unfold Rp at h;unfold Pk)
 case lst us=>obtain⟨a,xs,r,na,q⟩:=h;exact⟨a,xs,r,q⟩
 case dct ks us=>obtain⟨a,xs,r,na,q⟩:=h;exact⟨a,xs,r,q⟩
 all_goals exact h
theorem Pk.same (e:aQ H H')(h:Pk K H A u v):Pk K H' A u v:=by
 cases u<;>(unfold Pk at h ⊢)
 case tup us=>obtain⟨a,xs,r,q,l,z⟩:=h;exact⟨a,xs,r,e a _ q,l,z.same e⟩
 case lst us=>obtain⟨a,xs,r,q,l,z⟩:=h;exact⟨a,xs,r,e a _ q,l,z.same e⟩
 case scr us=>obtain⟨a,xs,r,q,l,z⟩:=h;exact⟨a,xs,r,q.to λo y w=>e a _ w,l,z.same e⟩
 case dct ks us=>obtain⟨a,xs,r,q,l,z⟩:=h;exact⟨a,xs,r,q.to (λo w=>e a o w) (λb ys w=>e b _ w),l,z.same e⟩
 all_goals exact h
theorem j0.pk (h:j0 K H A u a):Pk K H A u (.ref a):=by
 cases u<;>(unfold j0 at h;unfold Pk)
 case lst us=>obtain⟨xs,q,l,z⟩:=h;exact⟨a,xs,rfl,q,l,z⟩
 case dct ks us=>obtain⟨xs,q,l,z⟩:=h;exact⟨a,xs,rfl,q.at,l,z⟩
 all_goals exact h.elim
theorem j0.rp (h:j0 K H A u a)(n:∀b,A' b->A b)(na:¬A' a):Rp K H A' u (.ref a):=by
 cases u<;>(unfold j0 at h;unfold Rp)
 case lst us=>obtain⟨xs,q,l,z⟩:=h;exact⟨a,xs,rfl,na,q,l,z.mono n⟩
 case dct ks us=>obtain⟨xs,q,l,z⟩:=h;exact⟨a,xs,rfl,na,q.at,l,z.mono n⟩
 all_goals exact h.elim
theorem j0.re (m:∀b,A b->Mu (H b))(e:fg A H H')(n:∀b,A' b->A b\/H b=none)(ea:∀o,H a=some o->H' a=some o)(h:j0 K H A u a):j0 K H' A' u a:=by
 cases u<;>(unfold j0 at h ⊢)
 case lst us=>obtain⟨xs,q,l,z⟩:=h;exact⟨xs,ea _ q,l,z.re m e n⟩
 case dct ks us=>obtain⟨xs,q,l,z⟩:=h;exact⟨xs,q.to ea (λb ys w=>e b _ (λy=>by have:=m b y;rw[w] at this;exact this) w),l,z.re m e n⟩
 all_goals exact h.elim
theorem j0.mu (h:j0 K H A u a):Mu (H a):=by
 cases u<;>(unfold j0 at h)
 case lst us=>obtain⟨xs,q,_⟩:=h;rw[q];trivial
 case dct ks us=>
  obtain⟨xs,q,_⟩:=h;rcases q with⟨k,q,_⟩|⟨k,n,q,_⟩
  ·rw[q];trivial
  ·obtain⟨ep,q⟩:=q.ne n;rw[q];trivial
 all_goals exact h.elim
end
structure Pkg where
 A0:Z5->Prop
 B:Hp
 a0:Z5
structure Gm where
 own:List Bool
 io:Bool
 W:Hp->Prop
noncomputable def Gm.is (G:Gm)(i:Nat):Bool:=G.own.getD i false
structure cH (K:ZQ)(G:Gm)(Z:Pkg)(A:Z5->Prop)(ρ:Ev)(σ:St)(H:Hp):Prop where
 slot:∀i u,ρ[i]? = some (some u)->∃v,σ[i]? = some (some v)/\if G.is i=true then (∃a,v=.ref a/\A a/\Z.B a=none/\(¬Z.A0 a\/(G.io=true/\i=0))/\j0 K H A u a) else Rp K H A u v
 dis:∀i j u w a,G.is i=true->G.is j=true->i≠j->ρ[i]? = some (some u)->ρ[j]? = some (some w)->σ[i]? = some (some (.ref a))->σ[j]? = some (some (.ref a))->False
 mu:∀a,A a->Mu (H a)
 sup:∀a,Z.A0 a->A a
 out:∀a,A a->Z.A0 a\/Z.B a=none
 bas:∀a o,Z.B a=some o->H a=some o
 io0:G.io=true->σ[0]? = some (some (.ref Z.a0))/\G.is 0=true
 len:ρ.length=σ.length
section
variable {A':Z5->Prop}{G:Gm}{Z:Pkg}{ρ':Ev}
theorem cH.same (r:cH K G Z A ρ σ H)(e:aQ H H'):cH K G Z A ρ σ H' where
 slot:=λi u h=>by
  obtain⟨v,h1,h2⟩:=r.slot i u h;refine⟨v,h1,?_⟩;by_cases c:G.is i=true
  ·rw[hV c] at h2 ⊢;obtain⟨a,e1,e2,e3,e4,e5⟩:=h2;exact⟨a,e1,e2,e3,e4,e5.re r.mu (fg.same e) (λb z=>.inl z) λo w=>e a o w⟩
  ·rw[hU c] at h2 ⊢;exact h2.same e
 dis:=r.dis
 mu:=λa h=>by
  have m:=r.mu a h;obtain⟨o,q⟩:=m.ex;rw[e a o q,←q];exact m
 sup:=r.sup
 out:=r.out
 bas:=λa o h=>e a o (r.bas a o h)
 io0:=r.io0
 len:=r.len
theorem cH.add (r:cH K G Z A ρ σ H)(e:aQ H H')(n:H a=none)(m:Mu (H' a)):cH K G Z (λb=>A b\/b=a) ρ σ H' where
 slot:=λi u h=>by
  have q:∀b,(A b\/b=a)->A b\/H b=none:=λb z=>by
   rcases z with z|z
   ·exact .inl z
   ·subst z;exact .inr n
  obtain⟨v,h1,h2⟩:=r.slot i u h;refine⟨v,h1,?_⟩;by_cases c:G.is i=true
  ·rw[hV c] at h2 ⊢;obtain⟨b,e1,e2,e3,e4,e5⟩:=h2;exact⟨b,e1,.inl e2,e3,e4,e5.re r.mu (fg.same e) q λo w=>e b o w⟩
  ·rw[hU c] at h2 ⊢;exact h2.re r.mu (fg.same e) q
 dis:=r.dis
 mu:=λb h=>by
  rcases h with h|h
  ·exact (r.same e).mu b h
  ·subst h;exact m
 sup:=λb h=>.inl (r.sup b h)
 out:=λb h=>by
  rcases h with h|h
  ·exact r.out b h
  ·subst h;refine .inr ?_;cases q:Z.B b with
   |none=>rfl
   |some o=>rw[r.bas b o q] at n;cases n
 bas:=λa o h=>e a o (r.bas a o h)
 io0:=r.io0
 len:=r.len
theorem cH.notA (r:cH K G Z A ρ σ H)(n:H a=none):¬A a:=λz=>by
 have:=r.mu a z;rw[n] at this;exact this
theorem cH.notB (r:cH K G Z A ρ σ H)(n:H a=none):Z.B a=none:=by
 cases q:Z.B a with
 |none=>rfl
 |some o=>rw[r.bas a o q] at n;cases n
theorem cH.val (r:cH K G Z A ρ σ H)(c:G.is i=false)(h:ρ[i]? = some (some u)):∃v,σ[i]? = some (some v)/\Rp K H A u v:=by
 obtain⟨v,h1,h2⟩:=r.slot i u h;rw[hU (by rw[c];exact ZV)] at h2;exact⟨v,h1,h2⟩
theorem cH.own (r:cH K G Z A ρ σ H)(c:G.is i=true)(h:ρ[i]? = some (some u)):∃a,σ[i]? = some (some (.ref a))/\A a/\Z.B a=none/\(¬Z.A0 a\/(G.io=true/\i=0))/\j0 K H A u a:=by
 obtain⟨v,h1,h2⟩:=r.slot i u h;rw[hV c] at h2;obtain⟨a,rfl,z⟩:=h2;exact⟨a,h1,z⟩
end
end L2
variable {Z:L2.Pkg}{G:L2.Gm}
namespace L2
inductive Md where
 |S|O|P
 deriving DecidableEq
def yJ (K:ZQ)(G:Gm)(Z:Pkg)(m:Md)(A:Z5->Prop)(ρ:Ev)(σ:St)(H:Hp)(u:U)(v:V):Prop:=match m with
 | .S=>Rp K H A u v
 | .P=>Pk K H A u v
 | .O=>∃a,v=.ref a/\¬A a/\Z.B a=none/\cH K G Z (λb=>A b\/b=a) ρ σ H/\j0 K H (λb=>A b\/b=a) u a
def CG (K:ZQ)(m:Md)(A:Z5->Prop)(H H':Hp)(u:U)(v:V):Prop:=match m with
 | .S=>Rp K H' A u v
 | .P=>Pk K H' A u v
 | .O=>∃a,v=.ref a/\H a=none/\j0 K H' (λb=>A b\/b=a) u a
def GH (K:ZQ)(G:Gm)(Z:Pkg)(A:Z5->Prop)(b:Bool)(m:Md)(ρ:Ev)(σ:St)(H:Hp):R (U×Ev)->VK->Prop
 | .ok (u,ρ'),Q=>∀v H',cH K G Z A ρ' σ H'->fg A H H'->(b=false->ρ'=ρ/\aQ H H')->yJ K G Z m A ρ' σ H' u v->Q v H'
 |_,_=>False
def tD (K:ZQ)(G:Gm)(b:Bool)(m:Md)(g:Ev->R (U×Ev)):TE:=λσ H Q=>∃Z A ρ,cH K G Z A ρ σ H/\GH K G Z A b m ρ σ H (g ρ) Q
structure DE (X:Cx)(G:Gm)(e:abE)(b:Bool)(m:Md)(g:Ev->R (U×Ev)):Prop where
 un:PE X e (tD X.K G b m g)
def GI (K:ZQ)(G:Gm)(Z:Pkg)(A:Z5->Prop)(b:Bool)(ρ:Ev)(σ:St)(H:Hp):R (Bool×Ev)->(Bool->Hp->Prop)->Prop
 | .ok (c,ρ'),Q=>∀H',cH K G Z A ρ' σ H'->fg A H H'->(b=false->ρ'=ρ/\aQ H H')->Q c H'
 |_,_=>False
def CH (K:ZQ)(G:Gm)(b:Bool)(g:Ev->R (Bool×Ev)):TT:=λσ H Q=>∃Z A ρ,cH K G Z A ρ σ H/\GI K G Z A b ρ σ H (g ρ) Q
structure DT (X:Cx)(G:Gm)(e:abE)(b:Bool)(g:Ev->R (Bool×Ev)):Prop where
 un:PT X e (CH X.K G b g)
def yK (K:ZQ)(H:Hp)(A:Z5->Prop):List U->List V->Prop
 | [],vs=>vs=[]
 |u::us,vs=>∃x r,vs=x::r/\Pk K H A u x/\yK K H A us r
def GJ (K:ZQ)(p:Bool)(A:Z5->Prop)(H:Hp)(us:List U)(vs:List V):Prop:=if p=true then yK K H A us vs else aK K H A us vs
def GK (K:ZQ)(G:Gm)(Z:Pkg)(A:Z5->Prop)(b p:Bool)(ρ:Ev)(σ:St)(H:Hp):R (List U×Ev)->(List V->Hp->Prop)->Prop
 | .ok (us,ρ'),Q=>∀vs H',cH K G Z A ρ' σ H'->fg A H H'->(b=false->ρ'=ρ/\aQ H H')->GJ K p A H' us vs->Q vs H'
 |_,_=>False
def Qv (K:ZQ)(G:Gm)(b p:Bool)(g:Ev->R (List U×Ev)):TA:=λσ H Q=>∃Z A ρ,cH K G Z A ρ σ H/\GK K G Z A b p ρ σ H (g ρ) Q
structure DA (X:Cx)(G:Gm)(es:List abE)(b p:Bool)(g:Ev->R (List U×Ev)):Prop where
 un:PA X es (Qv X.K G b p g)
section
variable {e:abE}{t t':TE}
theorem PE.to (h:PE X e t)(i:∀σ H Q,t' σ H Q->t σ H Q):PE X e t':=λpins s σ H Q I q=>h pins s σ H Q I (i _ _ _ q)
theorem PT.to {t t':TT}(h:PT X e t)(i:∀σ H Q,t' σ H Q->t σ H Q):PT X e t':=λpins s σ H Q I q=>h pins s σ H Q I (i _ _ _ q)
theorem PW.to {t t':TT}(h:PW X e t)(i:∀σ H Q,t' σ H Q->t σ H Q):PW X e t':=λwhole pins s σ H Q I q=>h whole pins s σ H Q I (i _ _ _ q)
theorem PA.to {es:List abE}{t t':TA}(h:PA X es t)(i:∀σ H Q,t' σ H Q->t σ H Q):PA X es t':=λpos pins s σ H Q I q=>h pos pins s σ H Q I (i _ _ _ q)
theorem PS.to {t t':TS}(h:PS X st t)(i:∀D σ H,t' D σ H->t D σ H):PS X st t':=λpins s σ H D I q=>h pins s σ H D I (i _ _ _ q)
theorem sJ.to {st:List ad9}{t t':TS}(h:sJ X st t)(i:∀D σ H,t' D σ H->t D σ H):sJ X st t':=λpins s σ H D I q=>h pins s σ H D I (i _ _ _ q)
theorem PG.to {t t':TG}(h:PG X e t)(i:∀v σ H Q,t' v σ H Q->t v σ H Q):PG X e t':=λpins s σ H v u Q I r q=>h pins s σ H v u Q I r (i _ _ _ _ q)
end
section
variable {A':Z5->Prop}{ρ':Ev}{m:Md}{b:Bool}
theorem yJ.rp (h:yJ K G Z m A ρ σ H u v)(n:m≠.P):Rp K H A u v:=by
 cases m with
 |S=>exact h
 |O=>
  obtain⟨a,rfl,na,_,_,t⟩:=h;exact t.rp (λb z=>.inl z) na
 |P=>exact absurd rfl n
theorem yJ.pk (h:yJ K G Z m A ρ σ H u v):Pk K H A u v:=by
 by_cases c:m=.P
 ·subst c;exact h
 ·exact (h.rp c).pk
theorem CG.e (r:cH K G Z A ρ σ H)(s:aQ H H')(h:CG K m A H H' u v):yJ K G Z m A ρ σ H' u v:=by
 cases m with
 |S=>exact h
 |P=>exact h
 |O=>
  obtain⟨a,rfl,n,t⟩:=h;exact⟨a,rfl,r.notA n,r.notB n,r.add s n t.mu,t⟩
theorem yJ.later (r:cH K G Z A ρ σ H)(h:yJ K G Z m A ρ σ H u v)(x:fg A H H')(s:b=false->ρ'=ρ/\aQ H H')(c:m=.P->b=false):Pk K H' A u v:=by
 by_cases d:m=.P
 ·exact h.pk.same (s (c d)).2
 ·exact ((h.rp d).re r.mu x λb z=>.inl z).pk
theorem yJ.laterS (r:cH K G Z A ρ σ H)(h:yJ K G Z m A ρ σ H u v)(x:fg A H H')(d:m≠.P):Rp K H' A u v:=(h.rp d).re r.mu x λb z=>.inl z
theorem two {b1 b2:Bool}{ρ1 ρ2:Ev}(h1:b1=false->ρ1=ρ/\aQ H H1)(h2:b2=false->ρ2=ρ1/\aQ H1 H2):(b1||b2)=false->ρ2=ρ/\aQ H H2:=λh=>by
 rw[aa_] at h;obtain⟨a,b⟩:=h1 h.1;obtain⟨c,d⟩:=h2 h.2;exact⟨c.trans a,b.trans d⟩
theorem o8 {b1:Bool}{ρ1:Ev}(h1:b1=false->ρ1=ρ/\aQ H H1)(h2:aQ H1 H2):b1=false->ρ1=ρ/\aQ H H2:=λh=>⟨(h1 h).1,(h1 h).2.trans h2⟩
end
noncomputable def ah (i:Nat):Ev->R (U×Ev):=λρ=>match ρ[i]? with
 |some (some u)=>.ok (u,ρ)
 |_=>.stk
noncomputable def gC (u:U):Ev->R (U×Ev):=λρ=>.ok (u,ρ)
section
variable {e a b:abE}{es:List abE}
theorem MZ {b:Bool}{m:Md}(h:PE X e (JW i))(c:G.is i=false):DE X G e false .S (ah i):=by
 refine⟨h.to λσ H Q ⟨Z,A,ρ,r,f⟩=>?_⟩;unfold ah at f;split at f
 ·rename_i u hu;obtain⟨v,h1,h2⟩:=r.val c hu;exact⟨v,h1,f v H r fg.refl (λ_=>⟨rfl,aQ.refl _⟩) h2⟩
 ·exact f.elim
theorem aj (i:Nat)(hN:X.N[i]? = some x:=by rfl)(hv:F9 X.env.scope x:=by first|exact Or.inl rfl|exact Or.inr (Or.inl rfl)|exact Or.inr (Or.inr rfl))(hd:(x==("__debug__":Str))=false:=by decide)
  (sv:(x==("__classdict__":Str))=false:=by decide) (c:G.is i=false:=by rfl):DE X G (.Name x pos) false .S (ah i):=MZ (b:=false) (m:=.S) (lG hN hv hd sv) c
theorem ir (i:Nat)(hN:X.N[i]? = some x:=by rfl)(hv:F9 X.env.scope x:=by first|exact Or.inl rfl|exact Or.inr (Or.inl rfl)|exact Or.inr (Or.inr rfl))(hd:(x==("__debug__":Str))=false:=by decide)
  (sv:(x==("__classdict__":Str))=false:=by decide) (c:G.is i=true:=by rfl):DE X G (.Name x pos) false .P (ah i):=by
 refine⟨(lG hN hv hd sv).to λσ H Q ⟨Z,A,ρ,r,f⟩=>?_⟩;unfold ah at f;split at f
 ·rename_i u hu;obtain⟨a,h1,_,_,_,h2⟩:=r.own c hu;exact⟨.ref a,h1,f _ H r fg.refl (λ_=>⟨rfl,aQ.refl _⟩) h2.pk⟩
 ·exact f.elim
theorem Dz (h:PE X e (tC v))(r:∀K H A,Rp K H A u v):DE X G e false .S (gC u):=by
 refine⟨h.to λσ H Q ⟨Z,A,ρ,q,f⟩=>?_⟩;exact f v H q fg.refl (λ_=>⟨rfl,aQ.refl _⟩) (r _ _ _)
theorem ak {i j pos}:DE X G (.Constant (.int i) j pos) false .S (gC (.int i)):=Dz JX λ_ _ _=>by unfold Rp;rfl
theorem qw {i j pos}:DE X G (.Constant (.bool i) j pos) false .S (gC (.bl i)):=Dz Mp λ_ _ _=>by unfold Rp;rfl
theorem fZ {j pos}:DE X G (.Constant .none j pos) false .S (gC .non):=Dz JY λ_ _ _=>by unfold Rp;rfl
theorem dU {i j pos}:DE X G (.Constant (.str i) j pos) false .S (gC (.str i)):=Dz JZ λ_ _ _=>by unfold Rp;rfl
theorem DB {i:Int}{tk:Tok}(hg:Gl X x)(hm:X.mg x=some (.int i tk))(hd:(x==("__debug__":Str))=false:=by decide):DE X G (.Name x pos) false .S (gC (.int i)):=Dz (v:=.int i) (F_ hg hm ⟨_,rfl⟩ hd) λ_ _ _=>by unfold Rp;rfl
noncomputable def aG (p:U->U->R U)(g1 g2:Ev->R (U×Ev)):Ev->R (U×Ev):=λρ=>(g1 ρ).bind λx=>(g2 x.2).bind λy=>(p x.1 y.1).bind λz=>.ok (z,y.2)
def fU (K:ZQ)(r:R2)(m:Md)(p:U->U->R U):Prop:=∀A H x y u w z Q,Pk K H A u x->Pk K H A w y->(∀a,A a->Mu (H a))->p u w=.ok z->(∀v H',aQ H H'->CG K m A H H' z v->Q v H')->r x y H Q
variable {b1 b2 b3:Bool}{m1 m2 m3 mr:Md}{g1 g2 g3:Ev->R (U×Ev)}
theorem mq {p:U->U->R U}(hp:fU X.K r mr p)(hm:m1=.P->b2=false){Q:VK}(h:tD X.K G (b1||b2) mr (aG p g1 g2) σ H Q) :
  Mz r (tD X.K G b1 m1 g1) (tD X.K G b2 m2 g2) σ H Q:=by
 obtain⟨Z,A,ρ,q,f⟩:=h;unfold aG at f;refine⟨Z,A,ρ,q,?_⟩;cases e1:g1 ρ with
 |stk=>rw[e1] at f;exact f.elim
 |exc=>rw[e1] at f;exact f.elim
 |ok x=>
  obtain⟨u,ρ1⟩:=x;rw[e1] at f;intro v1 H1 q1 x1 s1 sI;refine⟨Z,A,ρ1,q1,?_⟩;cases e2:g2 ρ1 with
  |stk=>simp only[R.bind,e2] at f;exact f.elim
  |exc=>simp only[R.bind,e2] at f;exact f.elim
  |ok y=>
   obtain⟨w,ρ2⟩:=y;simp only[R.bind,e2] at f;intro v2 H2 q2 x2 s2 uM;cases e3:p u w with
   |stk=>rw[e3] at f;exact f.elim
   |exc=>rw[e3] at f;exact f.elim
   |ok z=>
    rw[e3] at f;refine hp A H2 v1 v2 u w z Q (sI.later q1 x2 s2 hm) uM.pk q2.mu e3 λv H' sm vm=>?_;exact f v H' (q2.same sm) ((x1.trans x2).trans (fg.same sm)) (o8 (two s1 s2) sm) (vm.e q2 sm)
theorem a_ {op:Operator}{p:U->U->R U}(ho:jQ X (adj op) r)(hp:fU X.K r mr p)(ha:DE X G a b1 m1 g1)(hb:DE X G b b2 m2 g2)(hm:m1=.P->b2=false:=by first|exact λ_=>rfl|exact λh=>nomatch h) :
  DE X G (.BinOp a op b pos) (b1||b2) mr (aG p g1 g2):=⟨(MA ho ha.un hb.un).to λ_ _ _=>mq hp hm⟩
theorem Kv {p:U->U->R U}(ho:jQ X (abu op) r)(hp:fU X.K r mr p)(ha:DE X G a b1 m1 g1)(hb:DE X G b b2 m2 g2)(hk:ac2 op b=false)(hm:m1=.P->b2=false:=by first|exact λ_=>rfl|exact λh=>nomatch h) :
  DE X G (.Compare a [op] [b] pos) (b1||b2) mr (aG p g1 g2):=⟨(Gi ho ha.un hb.un hk).to λ_ _ _=>mq hp hm⟩
theorem aH {p:U->U->R U}(ho:F0 X r)(hp:fU X.K r mr p)(ha:DE X G a b1 m1 g1)(hb:DE X G b b2 m2 g2)(hs:Ac b)(hm:m1=.P->b2=false:=by first|exact λ_=>rfl|exact λh=>nomatch h) :
  DE X G (.Subscript a b pos) (b1||b2) mr (aG p g1 g2):=⟨(MM ho ha.un hb.un hs).to λ_ _ _=>mq hp hm⟩
noncomputable def gB (g:Ev->R (U×Ev)):Ev->R (Bool×Ev):=λρ=>(g ρ).bind λx=>match x.1 with
 | .bl c=>.ok (c,x.2)
 |_=>.stk
theorem nA {g:Ev->R (U×Ev)}{m:Md}{Q:Bool->Hp->Prop}(h:CH X.K G b1 (gB g) σ H Q):tD X.K G b1 m g σ H λx H'=>∃k,x=.bl k/\Q k H':=by
 obtain⟨Z,A,ρ,q,f⟩:=h;refine⟨Z,A,ρ,q,?_⟩;unfold gB at f;cases e1:g ρ with
 |stk=>rw[e1] at f;exact f.elim
 |exc=>rw[e1] at f;exact f.elim
 |ok x=>
  obtain⟨u,ρ1⟩:=x;rw[e1] at f;intro v H1 q1 x1 s1 vm;cases u with
  |bl c=>
   have e:v=.bl c:=by have:=vm.pk;unfold Pk at this;exact this
   exact⟨c,e,f H1 q1 x1 s1⟩
  |_=>exact f.elim
theorem qx (h:DE X G e b1 m1 g1)(he:∀whole,isTrue e X.env whole=(do let v ←whole;standAt e.pos;holding [v] (truthy v)):=by intro _;rfl):DT X G e b1 (gB g1):=⟨(J0 h.un he).to λ_ _ _ h=>nA h⟩
theorem aO {p:U->U->R U}(ho:jQ X (abu op) r)(hp:fU X.K r mr p)(ha:DE X G a b1 m1 g1)(hb:DE X G b b2 m2 g2)(hk:ac2 op b=false)(hm:m1=.P->b2=false:=by first|exact λ_=>rfl|exact λh=>nomatch h) :
  DT X G (.Compare a [op] [b] pos) (b1||b2) (gB (aG p g1 g2)):=⟨(Gj ho ha.un hb.un hk).to λ_ _ _ h=>mq hp hm (nA (m:=mr) h)⟩
end
end L2
namespace L2
section
variable {A':Z5->Prop}{ρ':Ev}{b p:Bool}{m:Md}{α:Type}
theorem GH.bind {x:R α}{k:α->R (U×Ev)}{Q:VK}(f:GH K G Z A b m ρ σ H (x.bind k) Q):∃a,x=.ok a/\GH K G Z A b m ρ σ H (k a) Q:=by
 cases x with
 |ok a=>exact⟨a,rfl,f⟩
 |exc=>exact f.elim
 |stk=>exact f.elim
theorem GI.bind {x:R α}{k:α->R (Bool×Ev)}{Q:Bool->Hp->Prop}(f:GI K G Z A b ρ σ H (x.bind k) Q):∃a,x=.ok a/\GI K G Z A b ρ σ H (k a) Q:=by
 cases x with
 |ok a=>exact⟨a,rfl,f⟩
 |exc=>exact f.elim
 |stk=>exact f.elim
theorem GK.bind {x:R α}{k:α->R (List U×Ev)}{Q:List V->Hp->Prop}(f:GK K G Z A b p ρ σ H (x.bind k) Q):∃a,x=.ok a/\GK K G Z A b p ρ σ H (k a) Q:=by
 cases x with
 |ok a=>exact⟨a,rfl,f⟩
 |exc=>exact f.elim
 |stk=>exact f.elim
theorem Pk.bl {c:Bool}(h:Pk K H A (.bl c) v):v=.bl c:=by unfold Pk at h;exact h
theorem Pk.int {i:Int}(h:Pk K H A (.int i) v):v=.int i:=by unfold Pk at h;exact h
theorem Pk.str {i:Str}(h:Pk K H A (.str i) v):v=.str i:=by unfold Pk at h;exact h
theorem qy {c:Bool}:Rp K H A (.bl c) (.bl c):=by unfold Rp;rfl
theorem eP {c:Int}:Rp K H A (.int c) (.int c):=by unfold Rp;rfl
theorem yJ.ofS (h:Rp K H A u v):yJ K G Z .S A ρ σ H u v:=h
theorem qz:Rp K H A .non .non:=by unfold Rp;rfl
theorem Kw {c:Str}:Rp K H A (.str c) (.str c):=by unfold Rp;rfl
theorem aK.pks:∀{us:List U} {vs:List V},aK K H A us vs->yK K H A us vs
 | [],_,h=>by unfold aK at h;unfold yK;exact h
 |u::us,_,h=>by
  unfold aK at h;unfold yK;obtain⟨x,r,e,z,q⟩:=h;exact⟨x,r,e,z.pk,aK.pks q⟩
end
section
variable {e a b:abE}{es rest:List abE}{b1 b2 b3:Bool}{m1 m2 m3 mr:Md}{g1 g2 g3:Ev->R (U×Ev)}{h1 h2:Ev->R (Bool×Ev)}
noncomputable def nB (g1 g2:Ev->R (Bool×Ev)):Ev->R (Bool×Ev):=λρ=>(g1 ρ).bind λx=>if x.1=true then g2 x.2 else .ok (false,x.2)
noncomputable def CI (g1 g2:Ev->R (Bool×Ev)):Ev->R (Bool×Ev):=λρ=>(g1 ρ).bind λx=>if x.1=true then .ok (true,x.2) else g2 x.2
noncomputable def BJ (g1:Ev->R (Bool×Ev)):Ev->R (Bool×Ev):=λρ=>(g1 ρ).bind λx=>.ok (!x.1,x.2)
structure DW (X:Cx)(G:Gm)(e:abE)(b:Bool)(g:Ev->R (Bool×Ev)):Prop where
 un:PW X e (CH X.K G b g)
theorem DW.dt (h:DW X G e b1 h1):DT X G e b1 h1:=⟨PW.pt h.un⟩
theorem DC {Q:Bool->Hp->Prop}(h:CH X.K G (b1||b2) (nB h1 h2) σ H Q):Mq (CH X.K G b1 h1) (CH X.K G b2 h2) σ H Q:=by
 obtain⟨Z,A,ρ,q,f⟩:=h;obtain⟨⟨k,ρ1⟩,e1,f⟩:=f.bind;refine⟨Z,A,ρ,q,?_⟩;rw[e1];intro H1 q1 x1 s1;cases k with
 |true=>
  rw[hV rfl] at f ⊢;refine⟨Z,A,ρ1,q1,?_⟩;dsimp only at f;cases e2:h2 ρ1 with
  |ok y=>rw[e2] at f;exact λH2 q2 x2 s2=>f H2 q2 (x1.trans x2) (two s1 s2)
  |exc=>rw[e2] at f;exact f.elim
  |stk=>rw[e2] at f;exact f.elim
 |false=>
  rw[hU ZV] at f ⊢;exact f H1 q1 x1 λz=>s1 (aa_.mp z).1
theorem GL {Q:Bool->Hp->Prop}(h:CH X.K G (b1||b2) (CI h1 h2) σ H Q):Wb (CH X.K G b1 h1) (CH X.K G b2 h2) σ H Q:=by
 obtain⟨Z,A,ρ,q,f⟩:=h;obtain⟨⟨k,ρ1⟩,e1,f⟩:=f.bind;refine⟨Z,A,ρ,q,?_⟩;rw[e1];intro H1 q1 x1 s1;cases k with
 |false=>
  rw[hU ZV] at f ⊢;refine⟨Z,A,ρ1,q1,?_⟩;dsimp only at f;cases e2:h2 ρ1 with
  |ok y=>rw[e2] at f;exact λH2 q2 x2 s2=>f H2 q2 (x1.trans x2) (two s1 s2)
  |exc=>rw[e2] at f;exact f.elim
  |stk=>rw[e2] at f;exact f.elim
 |true=>
  rw[hV rfl] at f ⊢;exact f H1 q1 x1 λz=>s1 (aa_.mp z).1
theorem jx (ha:DT X G a b1 h1):DW X G (.BoolOp .And [a] pos) b1 h1:=⟨Ga ha.un⟩
theorem uW (ha:DT X G a b1 h1):DW X G (.BoolOp .Or [a] pos) b1 h1:=⟨J1 ha.un⟩
theorem jy (ha:DT X G a b1 h1)(hb:DW X G (.BoolOp .And (b::rest) pos) b2 h2):DW X G (.BoolOp .And (a::b::rest) pos) (b1||b2) (nB h1 h2):=⟨(J2 ha.un hb.un).to λ_ _ _=>DC⟩
theorem qA (ha:DT X G a b1 h1)(hb:DW X G (.BoolOp .Or (b::rest) pos) b2 h2):DW X G (.BoolOp .Or (a::b::rest) pos) (b1||b2) (CI h1 h2):=⟨(Mr ha.un hb.un).to λ_ _ _=>GL⟩
theorem uX (ha:DT X G a b1 h1):DT X G (.UnaryOp .Not a pos) b1 (BJ h1):=⟨(J3 ha.un).to λσ H Q h=>by
 obtain⟨Z,A,ρ,q,f⟩:=h;obtain⟨⟨k,ρ1⟩,e1,f⟩:=f.bind;refine⟨Z,A,ρ,q,?_⟩;rw[e1];exact λH1 q1 x1 s1=>f H1 q1 x1 s1⟩
noncomputable def Qw (g1 g2:Ev->R (U×Ev)):Ev->R (U×Ev):=λρ=>(gB g1 ρ).bind λx=>if x.1=true then g2 x.2 else .ok (.bl false,x.2)
noncomputable def Xn (g1 g2:Ev->R (U×Ev)):Ev->R (U×Ev):=λρ=>(gB g1 ρ).bind λx=>if x.1=true then .ok (.bl true,x.2) else g2 x.2
noncomputable def Qx (g1:Ev->R (U×Ev)):Ev->R (U×Ev):=λρ=>(gB g1 ρ).bind λx=>.ok (.bl (!x.1),x.2)
noncomputable def Qy (h:Ev->R (Bool×Ev))(g1 g2:Ev->R (U×Ev)):Ev->R (U×Ev):=λρ=>(h ρ).bind λx=>if x.1=true then g1 x.2 else g2 x.2
theorem DF (XO:m1≠.P:=by decide)(JG:m2≠.P:=by decide)(hc:DT X G c b1 h1)(ha:DE X G a b2 m1 g1)(hb:DE X G b b3 m2 g2):DE X G (.IfExp c a b pos) (b1||(b2||b3)) .S (Qy h1 g1 g2):=⟨(CM hc.un ha.un hb.un).to λσ H Q h=>by
 obtain⟨Z,A,ρ,q,f⟩:=h;obtain⟨⟨k,ρ1⟩,e1,f⟩:=f.bind;refine⟨Z,A,ρ,q,?_⟩;rw[e1];intro H1 q1 x1 s1;cases k with
 |true=>
  rw[hV rfl] at f ⊢;refine⟨Z,A,ρ1,q1,?_⟩;dsimp only at f;cases e2:g1 ρ1 with
  |ok y=>rw[e2] at f;exact λv2 H2 q2 x2 s2 uM=>f v2 H2 q2 (x1.trans x2) (two s1 λz=>s2 (aa_.mp z).1) (uM.rp XO)
  |exc=>rw[e2] at f;exact f.elim
  |stk=>rw[e2] at f;exact f.elim
 |false=>
  rw[hU ZV] at f ⊢;refine⟨Z,A,ρ1,q1,?_⟩;dsimp only at f;cases e2:g2 ρ1 with
  |ok y=>rw[e2] at f;exact λv2 H2 q2 x2 s2 uM=>f v2 H2 q2 (x1.trans x2) (two s1 λz=>s2 (aa_.mp z).2) (uM.rp JG)
  |exc=>rw[e2] at f;exact f.elim
  |stk=>rw[e2] at f;exact f.elim⟩
noncomputable def qB (p p':U->U->R U)(g1 g2 g3:Ev->R (U×Ev)):Ev->R (U×Ev):=λρ=>(g1 ρ).bind λx=>(g2 x.2).bind λy=>(p x.1 y.1).bind λz=>match z with
 | .bl k=>if k=true then (g3 y.2).bind λw=>(p' y.1 w.1).bind λz'=>.ok (z',w.2) else .ok (.bl false,y.2)
 |_=>.stk
theorem yL {p p':U->U->R U}(hp:fU X.K r .S p)(Bq:fU X.K r' .S p')(n1:m1≠.P)(n2:m2≠.P){Q:VK}(h:tD X.K G (b1||(b2||b3)) .S (qB p p' g1 g2 g3) σ H Q) :
  C1 r r' (tD X.K G b1 m1 g1) (tD X.K G b2 m2 g2) (tD X.K G b3 m3 g3) σ H Q:=by
 obtain⟨Z,A,ρ,q,f⟩:=h;obtain⟨⟨u,ρ1⟩,e1,f⟩:=f.bind;obtain⟨⟨w,ρ2⟩,e2,f⟩:=f.bind;obtain⟨z,e3,f⟩:=f.bind;refine⟨Z,A,ρ,q,?_⟩;rw[e1];intro v1 H1 q1 x1 s1 sI;refine⟨Z,A,ρ1,q1,?_⟩;dsimp only at e2;rw[e2];intro v2 H2 q2 x2 s2 uM;refine hp A H2 v1 v2 u w z _ (sI.laterS q1 x2 n1).pk uM.pk q2.mu e3 λv H3 sm vm=>?_;cases z with
 |bl k=>
  refine⟨k,(show Rp X.K H3 A (.bl k) v from vm).pk.bl,?_⟩;have q3:=q2.same sm;cases k with
  |false=>
   rw[hU ZV];exact f _ H3 q3 ((x1.trans x2).trans (fg.same sm)) (λz=>by
    obtain⟨a,b⟩:=aa_.mp z;exact o8 (two s1 s2) sm (by rw[a,(aa_.mp b).1];rfl)) (yJ.ofS qy)
  |true=>
   rw[hV rfl];dsimp only at f;rw[hV rfl] at f;obtain⟨⟨w3,ρ3⟩,e4,f⟩:=f.bind;obtain⟨z',e5,f⟩:=f.bind;refine⟨Z,A,ρ2,q3,?_⟩;rw[e4];intro v4 H4 q4 x4 s4 XQ;refine Bq A H4 v2 v4 w w3 z' Q ((uM.rp n2).same sm |>.re q3.mu x4 (λb z=>.inl z)).pk XQ.pk q4.mu e5 λv5 H5 JL XR=>?_;refine f v5 H5 (q4.same JL) (((x1.trans x2).trans (fg.same sm)).trans (x4.trans (fg.same JL))) ?_ (XR.e q4 JL);intro z;obtain⟨a,b⟩:=aa_.mp z;obtain⟨b,c⟩:=aa_.mp b;exact o8 (two (o8 (two s1 s2) sm) s4) JL (by rw[a,b,c];rfl)
 |_=>exact f.elim
theorem wQ {LH:CmpOp}{p p':U->U->R U}(ho:jQ X (abu op) r)(hp:fU X.K r .S p)(FJ:jQ X (abu LH) r')(Bq:fU X.K r' .S p')(ha:DE X G a b1 m1 g1)(hb:DE X G b b2 m2 g2)(hc:DE X G c b3 m3 g3)(n1:m1≠.P:=by decide)(n2:m2≠.P:=by decide)(hm:lastMarks [op,LH] [b,c]=false:=by with_unfolding_all rfl):DT X G (.Compare a [op,LH] [b,c] pos) (b1||(b2||b3)) (gB (qB p p' g1 g2 g3)):=⟨(C2 ho FJ ha.un hb.un hc.un hm).to λ_ _ _ h=>yL hp Bq n1 n2 (nA (m:=.S) h)⟩
noncomputable def Xo (p:U->R U)(g:Ev->R (U×Ev)):Ev->R (U×Ev):=λρ=>(g ρ).bind λx=>(p x.1).bind λz=>.ok (z,x.2)
noncomputable def aq:Ev->R (List U×Ev):=λρ=>.ok ([],ρ)
noncomputable def af (g:Ev->R (U×Ev))(ga:Ev->R (List U×Ev)):Ev->R (List U×Ev):=λρ=>(g ρ).bind λx=>(ga x.2).bind λy=>.ok (x.1::y.1,y.2)
variable {ga:Ev->R (List U×Ev)}{p:Bool}
theorem ai:DA X G [] false p aq:=⟨p8.to λσ H Q ⟨Z,A,ρ,q,f⟩=>f [] H q fg.refl (λ_=>⟨rfl,aQ.refl _⟩) (by unfold GJ;split;exact rfl;exact aK.nil)⟩
theorem ae (ha:DE X G e b1 m1 g1)(hr:DA X G es b2 p ga)(hm:m1=.P->(p=true/\b2=false):=by first|exact λ_=>⟨rfl,rfl⟩|exact λh=>nomatch h)
  (hs:aaf (e::es) X.env=(false,ade e X.env)::aaf es X.env:=by rfl):DA X G (e::es) (b1||b2) p (af g1 ga):=⟨(md ha.un hr.un hs).to λσ H Q h=>by
 obtain⟨Z,A,ρ,q,f⟩:=h;obtain⟨⟨u,ρ1⟩,e1,f⟩:=f.bind;obtain⟨⟨us,ρ2⟩,e2,f⟩:=f.bind;refine⟨Z,A,ρ,q,?_⟩;rw[e1];intro v1 H1 q1 x1 s1 sI;refine⟨Z,A,ρ1,q1,?_⟩;dsimp only at e2;rw[e2];intro vs H2 q2 x2 s2 uM;refine f (v1::vs) H2 q2 (x1.trans x2) (two s1 s2) ?_;unfold GJ at uM ⊢;cases p with
 |true=>
  rw[hV rfl] at uM ⊢;exact⟨v1,vs,rfl,sI.later q1 x2 s2 (λz=>(hm z).2),uM⟩
 |false=>
  rw[hU ZV] at uM ⊢;exact aK.cons (sI.laterS q1 x2 λz=>ZV (hm z).1) uM⟩
theorem GJ.pks (h:GJ K p A H us vs):yK K H A us vs:=by
 unfold GJ at h;cases p with
 |true=>rw[hV rfl] at h;exact h
 |false=>rw[hU ZV] at h;exact h.pks
theorem GJ.rps (h:GJ K false A H us vs):aK K H A us vs:=by
 unfold GJ at h;rw[hU ZV] at h;exact h
noncomputable def aP (ga:Ev->R (List U×Ev)):Ev->R (U×Ev):=λρ=>(ga ρ).bind λx=>if x.1.length<=ZY then .ok (.tup x.1,x.2) else .stk
noncomputable def bT (ga:Ev->R (List U×Ev)):Ev->R (U×Ev):=λρ=>(ga ρ).bind λx=>if x.1.length<=ZY then .ok (.lst x.1,x.2) else .stk
theorem de {p:Z5}(h:H p=none)(o:HO):aQ H (c_ H p o):=λb u q=>by rw[bp (bY q h)];exact q
theorem tT {a:Z5}(h:aK K H A us vs)(n:H a=none)(l:us.length<=ZY):Rp K (c_ H a (.tup vs)) A (.tup us) (.ref a):=by
 unfold Rp;exact⟨a,vs,rfl,bS,l,h.same (de n _)⟩
theorem bZ {a:Z5}(m:∀b,A b->Mu (H b))(h:aK K H A us vs)(n:H a=none)(l:us.length<=ZY):j0 K (c_ H a (.lst vs)) (λb=>A b\/b=a) (.lst us) a:=
 ⟨vs,bS,l,h.re m (fg.same (de n _)) λb z=>by
  rcases z with z|z
  ·exact .inl z
  ·subst z;exact .inr n⟩
theorem aT {x1}(h:DA X G es b1 false ga):DE X G (.Tuple es x1 pos) b1 .S (aP ga):=⟨(Kd h.un).to λσ H Q h=>by
 obtain⟨Z,A,ρ,q,f⟩:=h;obtain⟨⟨us,ρ1⟩,e1,f⟩:=f.bind;refine⟨Z,A,ρ,q,?_⟩;rw[e1];intro vs H1 q1 x1 s1 sI;dsimp only at f;split at f
 ·rename_i l;refine⟨by rw[←sI.rps.length];exact l,λa n=>?_⟩;exact f _ _ (q1.same (de n _)) (x1.trans (fg.same (de n _))) (o8 s1 (de n _)) (yJ.ofS (tT sI.rps n l))
 ·exact f.elim⟩
theorem cg (h:DA X G es b1 false ga):DE X G (.List es pos) b1 .O (bT ga):=⟨(C3 h.un).to λσ H Q h=>by
 obtain⟨Z,A,ρ,q,f⟩:=h;obtain⟨⟨us,ρ1⟩,e1,f⟩:=f.bind;refine⟨Z,A,ρ,q,?_⟩;rw[e1];intro vs H1 q1 x1 s1 sI;dsimp only at f;split at f
 ·rename_i l;refine⟨by rw[←sI.rps.length];exact l,λa n=>?_⟩;exact f _ _ (q1.same (de n _)) (x1.trans (fg.same (de n _))) (o8 s1 (de n _)) (CG.e q1 (de n _) ⟨a,rfl,n,bZ q1.mu sI.rps n l⟩)
 ·exact f.elim⟩
noncomputable def gR (p:List U->R U)(ga:Ev->R (List U×Ev)):Ev->R (U×Ev):=λρ=>(ga ρ).bind λx=>(p x.1).bind λz=>.ok (z,x.2)
def kX (K:ZQ)(r:List V->Hp->VK->Prop)(m:Md)(p:List U->R U):Prop:=∀A H vs us z Q,yK K H A us vs->(∀a,A a->Mu (H a))->p us=.ok z->(∀v H',aQ H H'->CG K m A H H' z v->Q v H')->r vs H Q
theorem pM {r:List V->Hp->VK->Prop}{f:List U->R U}(hp:kX X.K r mr f){Q:VK}(h:tD X.K G b1 mr (gR f ga) σ H Q):Qq r (Qv X.K G b1 p ga) σ H Q:=by
 obtain⟨Z,A,ρ,q,f⟩:=h;obtain⟨⟨us,ρ1⟩,e1,f⟩:=f.bind;obtain⟨z,e2,f⟩:=f.bind;refine⟨Z,A,ρ,q,?_⟩;rw[e1];intro vs H1 q1 x1 s1 sI;exact hp A H1 vs us z Q sI.pks q1.mu e2 λv H' sm vm=>f v H' (q1.same sm) (x1.trans (fg.same sm)) (o8 s1 sm) (vm.e q1 sm)
theorem aZ {id:String}{p1:Pos}{r:List V->Hp->VK->Prop}{f:List U->R U}(hc:eU X (.builtin id) r)(hp:kX X.K r mr f)(hg:Gl X x)(hm:X.mg x=none)(hv:aaY x=some (.builtin id))(ha:DA X G (e::es) b1 true ga)(hn:x≠"__name__":=by decide)(zQ:(x==("__debug__":Str))=false:=by decide)
  (he:aaf (e::es) X.env=(false,ade e X.env)::aaf es X.env:=by rfl) (sH:(acq pos (aaf es X.env)).any (·.1)=false:=by rfl):DE X G (.Call (.Name x p1) (e::es) [] pos) b1 mr (gR f ga):=⟨(p9 hc hg hm hv ha.un hn zQ he sH).to λ_ _ _=>pM hp⟩
theorem fm {T:String}{p1:Pos}{r:List V->Hp->VK->Prop}{f:List U->R U}(hc:eU X (.type T) r)(hp:kX X.K r mr f)(hg:Gl X x)(hm:X.mg x=none)(hv:aaY x=some (.type T))(ha:DA X G (e::es) b1 true ga)(hn:x≠"__name__":=by decide)(zQ:(x==("__debug__":Str))=false:=by decide)
  (he:aaf (e::es) X.env=(false,ade e X.env)::aaf es X.env:=by rfl) (sH:(acq pos (aaf es X.env)).any (·.1)=false:=by rfl):DE X G (.Call (.Name x p1) (e::es) [] pos) b1 mr (gR f ga):=⟨(jg hc hg hm hv ha.un hn zQ he sH).to λ_ _ _=>pM hp⟩
end
end L2
namespace L2
section
variable {A':Z5->Prop}{ρ':Ev}{b p:Bool}{m:Md}{α:Type}
theorem j0.mono (n:∀b,A' b->A b)(h:j0 K H A u a):j0 K H A' u a:=by
 cases u<;>(unfold j0 at h ⊢)
 case lst us=>obtain⟨xs,q,l,z⟩:=h;exact⟨xs,q,l,z.mono n⟩
 case dct ks us=>obtain⟨xs,q,l,z⟩:=h;exact⟨xs,q,l,z.mono n⟩
 all_goals exact h.elim
theorem cY {α:Type}{l:List (Option α)}{x:Option α}{y:α}(h:(l.set i x)[j]? = some (some y)):(i=j/\x=some y)\/(i≠j/\l[j]? = some (some y)):=by
 by_cases e:i=j
 ·subst e;rw[List.getElem?_set_self'] at h;refine .inl ⟨rfl,?_⟩;cases q:l[i]? with
  |none=>rw[q] at h;cases h
  |some w=>rw[q] at h;exact aaj h
 ·rw[aav e] at h;exact .inr ⟨e,h⟩
theorem pN {α:Type}{l l':List (Option α)}{x:α}{β:Type}{k:List (Option β)}{y:Option β}{z:β}(hl:k.length=l.length)(h:(k.set i y)[i]? = some (some z)):(l.set i (some x))[i]? = some (some x):=by
 have:i<l.length:=by
  have:=(Z0.mp h).1;rw[aa5] at this;lia
 rw[ab7 this]
theorem cH.set (r:cH K G Z A ρ σ H)(c:G.is i=false)(h:Rp K H A u v):cH K G Z A (ρ.set i (some u)) (σ.set i (some v)) H where
 slot:=λj w hj=>by
  rcases cY hj with⟨rfl,e⟩|⟨ne,e⟩
  ·cases e;refine⟨v,pN (l':=σ) r.len hj,?_⟩;rw[hU (by rw[c];exact ZV)];exact h
  ·rw[aav ne];exact r.slot j w e
 dis:=λj k w w' a cj ck ne hj hk sj sk=>by
  rcases cY hj with⟨rfl,_⟩|⟨n1,e1⟩
  ·rw[c] at cj;cases cj
  ·rcases cY hk with⟨rfl,_⟩|⟨n2,e2⟩
   ·rw[c] at ck;cases ck
   ·rw[aav n1] at sj;rw[aav n2] at sk;exact r.dis j k w w' a cj ck ne e1 e2 sj sk
 mu:=r.mu
 sup:=r.sup
 out:=r.out
 bas:=r.bas
 io0:=λh0=>by
  obtain⟨a,b⟩:=r.io0 h0;refine⟨?_,b⟩;have:i≠0:=λz=>by subst z;rw[b] at c;cases c
  rw[aav this];exact a
 len:=by rw[aa5,aa5];exact r.len
theorem cH.drop (r:cH K G Z A ρ σ H)(i:Nat):cH K G Z A (ρ.set i none) σ H where
 slot:=λj w hj=>by
  rcases cY hj with⟨rfl,e⟩|⟨ne,e⟩
  ·cases e
  ·exact r.slot j w e
 dis:=λj k w w' a cj ck ne hj hk sj sk=>by
  rcases cY hj with⟨rfl,e⟩|⟨n1,e1⟩
  ·cases e
  ·rcases cY hk with⟨rfl,e⟩|⟨n2,e2⟩
   ·cases e
   ·exact r.dis j k w w' a cj ck ne e1 e2 sj sk
 mu:=r.mu
 sup:=r.sup
 out:=r.out
 bas:=r.bas
 io0:=r.io0
 len:=by rw[aa5];exact r.len
theorem cH.setO (r:cH K G Z A ρ σ H)(c:G.is i=true)(hi:G.io=true->i≠0)(na:¬A a)(nb:Z.B a=none)(r':cH K G Z (λb=>A b\/b=a) ρ σ H)(h:j0 K H (λb=>A b\/b=a) u a) :
  cH K G Z (λb=>A b\/b=a) (ρ.set i (some u)) (σ.set i (some (.ref a))) H where
 slot:=λj w hj=>by
  rcases cY hj with⟨rfl,e⟩|⟨ne,e⟩
  ·cases e;refine⟨.ref a,pN (l':=σ) r.len hj,?_⟩;rw[hV c];exact⟨a,rfl,.inr rfl,nb,.inl λz=>na (r.sup a z),h⟩
  ·rw[aav ne];exact r'.slot j w e
 dis:=λj k w w' b cj ck ne hj hk sj sk=>by
  have key:∀k w',G.is k=true->i≠k->ρ[k]? = some (some w')->σ[k]? ≠ some (some (.ref a)):=λk w' ck _ e q=>by
   obtain⟨b,h1,h2,_⟩:=r.own ck e;rw[h1] at q;cases q;exact na h2
  rcases cY hj with⟨rfl,e1⟩|⟨n1,e1⟩
  ·rcases cY hk with⟨rfl,_⟩|⟨n2,e2⟩
   ·exact ne rfl
   ·rw[pN (l':=σ) r.len hj] at sj;cases sj;rw[aav n2] at sk;exact key k w' ck n2 e2 sk
  ·rcases cY hk with⟨rfl,e2⟩|⟨n2,e2⟩
   ·rw[pN (l':=σ) r.len hk] at sk;cases sk;rw[aav n1] at sj;exact key j w cj n1 e1 sj
   ·rw[aav n1] at sj;rw[aav n2] at sk;exact r.dis j k w w' b cj ck ne e1 e2 sj sk
 mu:=r'.mu
 sup:=r'.sup
 out:=r'.out
 bas:=r'.bas
 io0:=λh0=>by
  obtain⟨a,b⟩:=r.io0 h0;exact⟨by rw[aav (hi h0)];exact a,b⟩
 len:=by rw[aa5,aa5];exact r.len
theorem cH.put (r:cH K G Z A ρ σ H){w:U}(c:G.is i=true)(h:ρ[i]? = some (some u))(ha:σ[i]? = some (some (.ref a)))(e:∀b o,b≠a->H b=some o->H' b=some o)(t:j0 K H' A w a) :
  cH K G Z A (ρ.set i (some w)) σ H':=by
 obtain⟨a',h1,h2,h3,h4,h5⟩:=r.own c h;rw[ha] at h1;cases h1;have x:fg A H H':=λb o nb z=>e b o (λq=>nb (q▸h2)) z;exact {
  slot:=λj y hj=>by
   rcases cY hj with⟨rfl,q⟩|⟨ne,q⟩
   ·cases q;refine⟨.ref a,ha,?_⟩;rw[hV c];exact⟨a,rfl,h2,h3,h4,t⟩
   ·obtain⟨v,s1,s2⟩:=r.slot j y q;refine⟨v,s1,?_⟩;by_cases cj:G.is j=true
    ·rw[hV cj] at s2 ⊢;obtain⟨b,e1,e2,e3,e4,e5⟩:=s2;refine⟨b,e1,e2,e3,e4,e5.re r.mu x (λb z=>.inl z) λo z=>e b o (λq'=>?_) z⟩;subst q' e1;exact r.dis i j u y b c cj ne h q ha s1
    ·rw[hU cj] at s2 ⊢;exact s2.re r.mu x λb z=>.inl z
  dis:=λj k y y' b cj ck ne hj hk sj sk=>by
   have f:∀j y,(ρ.set i (some w))[j]? = some (some y)->∃y',ρ[j]? = some (some y'):=λj y hj=>by
    rcases cY hj with⟨rfl,q⟩|⟨ne,q⟩
    ·exact⟨u,h⟩
    ·exact⟨y,q⟩
   obtain⟨y1,hj⟩:=f j y hj;obtain⟨y2,hk⟩:=f k y' hk;exact r.dis j k y1 y2 b cj ck ne hj hk sj sk
  mu:=λb z=>by
   by_cases q:b=a
   ·subst q;exact t.mu
   ·have m:=r.mu b z;obtain⟨o,z⟩:=m.ex;rw[e b o q z,←z];exact m
  sup:=r.sup
  out:=r.out
  bas:=λb o z=>e b o (λq=>by subst q;rw[h3] at z;cases z) (r.bas b o z)
  io0:=r.io0
  len:=by rw[aa5];exact r.len}
end
def M5 (K:ZQ)(m:Md)(A:Z5->Prop)(H:Hp):R U->VK->Prop
 | .ok u,Q=>∀v H',aQ H H'->CG K m A H H' u v->Q v H'
 |_,_=>False
noncomputable def yM {α:Type}(n:Nat)(g:List U->R α)(us:List U):R α:=if us.length=n then g us else .stk
def gr (K:ZQ)(n:Nat)(f:List U->R U)(m:Md):Sp:=λvs H Q _=>∃us A,aK K H A us vs/\(∀a,A a->Mu (H a))/\M5 K m A H (yM n f us) Q
def DH (K:ZQ)(n:Nat)(f:List U->R (U×U)):Sp:=λvs H Q _=>∃u0 us a0 vs' A,vs=.ref a0::vs'/\A a0/\j0 K H A u0 a0/\aK K H A us vs'/\(∀a,A a->Mu (H a))/\match yM n f (u0::us) with
 | .ok (u,w)=>∀v H',(∀b o,b≠a0->H b=some o->H' b=some o)->j0 K H' A w a0->Rp K H' A u v->Q v H'
 |_=>False
section
variable {e a b:abE}{es rest:List abE}{p1:Pos}{b1 b2 b3:Bool}{m1 m2 m3 mr:Md}{g1 g2 g3:Ev->R (U×Ev)}{h1 h2:Ev->R (Bool×Ev)}{ga:Ev->R (List U×Ev)}
noncomputable def fh (n:Nat)(f:List U->R U)(ga:Ev->R (List U×Ev)):Ev->R (U×Ev):=λρ=>(ga ρ).bind λx=>(yM n f x.1).bind λz=>.ok (z,x.2)
theorem aE {f:List U->R U}(F:Fn X.prog X.w X.K X.mg X.base x k ps (gr X.K n f mr))(hr:fX k X.A)(ha:DA X G (e::es) b1 false ga)(hg:Gl X x:=by rfl)(zQ:(x==("__debug__":Str))=false:=by decide)(he:aaf (e::es) X.env=(false,ade e X.env)::aaf es X.env:=by rfl)(sH:(acq pos (aaf es X.env)).any (·.1)=false:=by rfl):DE X G (.Call (.Name x p1) (e::es) [] pos) b1 mr (fh n f ga):=⟨(wM F hr ha.un hg zQ he sH).to λσ H Q h=>by
 obtain⟨Z,A,ρ,q,f⟩:=h;obtain⟨⟨us,ρ1⟩,e1,f⟩:=f.bind;obtain⟨z,e2,f⟩:=f.bind;refine⟨Z,A,ρ,q,?_⟩;rw[e1];intro vs H1 q1 x1 s1 sI;show gr _ _ _ _ _ _ _ _;rw[aaF];refine⟨us,A,sI.rps,q1.mu,?_⟩;dsimp only at e2;rw[e2];exact λv H' sm vm=>f v H' (q1.same sm) (x1.trans (fg.same sm)) (o8 s1 sm) (vm.e q1 sm)⟩
noncomputable def live (ρ:Ev)(i:Nat):Bool:=match ρ[i]? with
 |some (some _)=>true
 |_=>false
theorem Af (h:live ρ i=true):∃u,ρ[i]? = some (some u):=by
 unfold live at h;split at h
 ·rename_i u hu;exact⟨u,hu⟩
 ·cases h
noncomputable def wq (n i:Nat)(f:List U->R (U×U))(ga:Ev->R (List U×Ev)):Ev->R (U×Ev):=λρ=>if live ρ i=true then (ga ρ).bind λx=>match x.2[i]? with
 |some (some u0)=>(yM n f (u0::x.1)).bind λz=>.ok (z.1,x.2.set i (some z.2))
 |_=>.stk
 else .stk
theorem fB {y:Str}{p2:Pos}{f:List U->R (U×U)}(F:Fn X.prog X.w X.K X.mg X.base x k ps (DH X.K n f))(hr:fX k X.A)(ha:DA X G es b1 false ga)(hN:X.N[i]? = some y:=by rfl)(hv:F9 X.env.scope y:=by first|exact Or.inl rfl|exact Or.inr (Or.inl rfl)|exact Or.inr (Or.inr rfl))(c:G.is i=true:=by rfl)(hd:(y==("__debug__":Str))=false:=by decide)(sv:(y==("__classdict__":Str))=false:=by decide)(hs:aaf (.Name y p2::es) X.env=(false,ade (.Name y p2) X.env)::aaf es X.env:=by rfl)(hg:Gl X x:=by rfl)(zQ:(x==("__debug__":Str))=false:=by decide)(sH:(acq pos (aaf es X.env)).any (·.1)=false:=by rfl):DE X G (.Call (.Name x p1) (.Name y p2::es) [] pos) true .S (wq n i f ga):=⟨(wM F hr (md (lG hN hv hd sv) ha.un hs) hg zQ hs sH).to λσ H Q h=>by
 obtain⟨Z,A,ρ,q,f⟩:=h;unfold wq at f;split at f
 ·rename_i hl;obtain⟨u00,hu0⟩:=Af hl;obtain⟨a0,h0,_⟩:=q.own c hu0;obtain⟨⟨us,ρ1⟩,e1,f⟩:=f.bind;dsimp only at f;split at f
  ·rename_i u0 hu;obtain⟨⟨z,w⟩,e2,f⟩:=f.bind;refine⟨.ref a0,h0,Z,A,ρ,q,?_⟩;rw[e1];intro vs H1 q1 x1 s1 sI;obtain⟨a0',k1,k2,_,_,k3⟩:=q1.own c hu;rw[h0] at k1;cases k1;show DH _ _ _ _ _ _ _;rw[aaF];refine⟨u0,us,a0,vs,A,rfl,k2,k3,sI.rps,q1.mu,?_⟩;rw[e2];intro v H' em tp rp;exact f v H' (q1.put c hu h0 em tp) (x1.trans λb o nb z=>em b o (λy=>nb (y▸k2)) z) (λz=>nomatch z) rp
  ·exact f.elim
 ·exact f.elim⟩
def DJ (K:ZQ)(T:String)(r:V->List V->Hp->VK->Prop)(p:U->List U->R (U×U)):Prop:=∀A H a u vs us z w Q,j0 K H A u a->A a->aK K H A us vs->(∀a,A a->Mu (H a))->p u us=.ok (z,w)->
 (∀v H',(∀b o,b≠a->H b=some o->H' b=some o)->j0 K H' A w a->Rp K H' A z v->Q v H')->r (.ref a) vs H Q
noncomputable def BK:U->String->Bool
 | .lst _,T=>T=="list"
 |_,_=>false
theorem Kx {a:Z5}{T:String}(h:j0 K H A u a)(t:BK u T=true):Qr K T (.ref a) H:=by
 cases u<;>(unfold BK at t;unfold j0 at h)
 case lst us=>
  obtain⟨xs,q,_⟩:=h;exact .inl ⟨by simpa using t,xs,.inl (.inl q)⟩
 all_goals cases t
noncomputable def gM (T:String)(i:Nat)(p:U->List U->R (U×U))(ga:Ev->R (List U×Ev)):Ev->R (U×Ev):=λρ=>match ρ[i]? with
 |some (some u1)=>if BK u1 T=true then (ga ρ).bind λx=>match x.2[i]? with
  |some (some u0)=>(p u0 x.1).bind λz=>.ok (z.1,x.2.set i (some z.2))
  |_=>.stk
  else .stk
 |_=>.stk
theorem DK {T:String}{r:V->List V->Hp->VK->Prop}{p:U->List U->R (U×U)}(hp:DJ X.K T r p)(c:G.is i=true){Q:VK}(h:tD X.K G true .S (gM T i p ga) σ H Q) :
  We X.K T r (JW i) (Qv X.K G b1 false ga) σ H Q:=by
 obtain⟨Z,A,ρ,q,f⟩:=h;unfold gM at f;split at f
 ·rename_i u1 kS;split at f
  ·rename_i ht;obtain⟨a0,h0,_,_,_,t0⟩:=q.own c kS;obtain⟨⟨us,ρ1⟩,e1,f⟩:=f.bind;dsimp only at f;split at f
   ·rename_i u0 hu;obtain⟨⟨z,w⟩,e2,f⟩:=f.bind;refine⟨.ref a0,h0,Kx t0 ht,Z,A,ρ,q,?_⟩;rw[e1];intro vs H1 q1 x1 s1 sI;obtain⟨a0',k1,k2,_,_,k3⟩:=q1.own c hu;rw[h0] at k1;cases k1;exact hp A H1 a0 u0 vs us z w Q k3 k2 sI.rps q1.mu e2 λv H' em tp rp=>f v H' (q1.put c hu h0 em tp) (x1.trans λb o nb z=>em b o (λy=>nb (y▸k2)) z) (λz=>nomatch z) rp
   ·exact f.elim
  ·exact f.elim
 ·exact f.elim
theorem lJ {T id:String}{y name:Str}{p2 gI:Pos}{r:V->List V->Hp->VK->Prop}{p:U->List U->R (U×U)}(pa:PlainAttrs T)(slot:Slot T name id)(Rq:typeOf (.builtin id)=pure (.type "method_descriptor"))(hm:Ia X id r)(hp:DJ X.K T r p)(ha:DA X G (e::es) b1 false ga)(hN:X.N[i]? = some y:=by rfl)(hv:F9 X.env.scope y:=by first|exact Or.inl rfl|exact Or.inr (Or.inl rfl)|exact Or.inr (Or.inr rfl))(c:G.is i=true:=by rfl)(hd:(y==("__debug__":Str))=false:=by decide)(sv:(y==("__classdict__":Str))=false:=by decide)(yf:adG (.Name y p2) name X.env (ade (.Name y p2) X.env)=ade (.Name y p2) X.env:=by rfl)(FK:((acq pos (aaf (e::es) X.env)).all (λx=> !x.1)&&(backToKw pos (aet [] X.env)).all (λx=>x.1.isSome)
   && decide ((e::es).length+([]:List aeb).length+(if ([]:List aeb).isEmpty then 0 else 1)<30))=true:=by rfl)(yg:(gI.endLine==pos.line)=true:=by rfl)(hs:aaf (e::es) X.env=(false,ade e X.env)::aaf es X.env:=by rfl)(sC:(acq pos (aaf es X.env)).any (·.1)=false:=by rfl) :
  DE X G (.Call (.Attribute (.Name y p2) name gI) (e::es) [] pos) true .S (gM T i p ga):=⟨(Ib pa slot Rq hm (lG hN hv hd sv) ha.un yf FK yg hs sC).to λ_ _ _=>DK hp c⟩
def DL (K:ZQ)(r:V->Option Int->Option Int->Hp->VK->Prop)(m:Md)(p:U->Option Int->Option Int->R U):Prop:=∀A H x u lo hi z Q,Pk K H A u x->(∀a,A a->Mu (H a))->p u lo hi=.ok z->(∀v H',aQ H H'->CG K m A H H' z v->Q v H')->r x lo hi H Q
def Qz (K:ZQ)(G:Gm)(Z:Pkg)(A:Z5->Prop)(b:Bool)(ρ:Ev)(σ:St)(H:Hp):R (Option Int×Ev)->(Option Int->Hp->Prop)->Prop
 | .ok (c,ρ'),Q=>∀H',cH K G Z A ρ' σ H'->fg A H H'->(b=false->ρ'=ρ/\aQ H H')->Q c H'
 |_,_=>False
def Xp (K:ZQ)(G:Gm)(b:Bool)(g:Ev->R (Option Int×Ev)):TO:=λσ H Q=>∃Z A ρ,cH K G Z A ρ σ H/\Qz K G Z A b ρ σ H (g ρ) Q
structure DO (X:Cx)(G:Gm)(e:Option abE)(b:Bool)(g:Ev->R (Option Int×Ev)):Prop where
 un:PO X e (Xp X.K G b g)
noncomputable def Ag:Ev->R (Option Int×Ev):=λρ=>.ok (none,ρ)
noncomputable def wR (g:Ev->R (U×Ev)):Ev->R (Option Int×Ev):=λρ=>(g ρ).bind λx=>match x.1 with
 | .int i=>.ok (some i,x.2)
 |_=>.stk
theorem PO.to {e:Option abE}{t t':TO}(h:PO X e t)(i:∀σ H Q,t' σ H Q->t σ H Q):PO X e t':=λpins s σ H Q I q=>h pins s σ H Q I (i _ _ _ q)
theorem GN:DO X G none false Ag:=⟨Gq.to λσ H Q ⟨Z,A,ρ,q,f⟩=>f H q fg.refl λ_=>⟨rfl,aQ.refl _⟩⟩
theorem GO (h:DE X G e b1 m1 g1):DO X G (some e) b1 (wR g1):=⟨(Gs h.un).to λσ H Q h00=>by
 obtain⟨Z,A,ρ,q,f⟩:=h00;refine⟨Z,A,ρ,q,?_⟩;unfold wR at f;cases e1:g1 ρ with
 |stk=>rw[e1] at f;exact f.elim
 |exc=>rw[e1] at f;exact f.elim
 |ok x=>
  obtain⟨u,ρ1⟩:=x;rw[e1] at f;intro v H1 q1 x1 s1 vm;cases u with
  |int c=>exact⟨c,vm.pk.int,f H1 q1 x1 s1⟩
  |_=>exact f.elim⟩
noncomputable def Pl (p:U->Option Int->Option Int->R U)(g:Ev->R (U×Ev))(lo hi:Ev->R (Option Int×Ev)):Ev->R (U×Ev):=λρ=>(g ρ).bind λx=>(lo x.2).bind λl=>(hi l.2).bind λh=>(p x.1 l.1 h.1).bind λz=>.ok (z,h.2)
theorem DM {r:V->Option Int->Option Int->Hp->VK->Prop}{p:U->Option Int->Option Int->R U}{lo hi:Option abE}{p2:Pos}{gl gh:Ev->R (Option Int×Ev)}(hr:C7 X r)(hp:DL X.K r mr p)(he:DE X G e b1 m1 g1)(hl:DO X G lo b2 gl)(hu:DO X G hi b3 gh)
  (hm:m1=.P->(b2||b3)=false:=by first|exact λ_=>rfl|exact λh=>nomatch h):DE X G (.Subscript e (.Slice lo hi none p2) pos) (b1||(b2||b3)) mr (Pl p g1 gl gh):=⟨(C8 hr he.un hl.un hu.un).to λσ H Q h=>by
 obtain⟨Z,A,ρ,q,f⟩:=h;obtain⟨⟨u,ρ1⟩,e1,f⟩:=f.bind;obtain⟨⟨l,ρ2⟩,e2,f⟩:=f.bind;obtain⟨⟨h,ρ3⟩,e3,f⟩:=f.bind;obtain⟨z,e4,f⟩:=f.bind;dsimp only at e2 e3 e4 f;refine⟨Z,A,ρ,q,?_⟩;rw[e1];intro v1 H1 q1 x1 s1 sI;refine⟨Z,A,ρ1,q1,?_⟩;rw[e2];intro H2 q2 x2 s2;refine⟨Z,A,ρ2,q2,?_⟩;rw[e3];intro H3 q3 x3 s3;exact hp A H3 v1 u l h z Q (sI.later q1 (x2.trans x3) (two s2 s3) hm) q3.mu e4 λv H' sm vm=>f v H' (q3.same sm) ((x1.trans (x2.trans x3)).trans (fg.same sm)) (o8 (two s1 (two s2 s3)) sm) (vm.e q3 sm)⟩
end
end L2
namespace L2
def QA (K:ZQ)(G:Gm)(sg:U->Ev->R Ev):TG:=λv σ H Q=>∃Z A ρ u,cH K G Z A ρ σ H/\Rp K H A u v/\match sg u ρ with
 | .ok ρ'=>∀σ',cH K G Z A ρ' σ' H->(∀i,G.is i=true->σ'[i]? = σ[i]?)->Q σ' H
 |_=>False
structure DG (X:Cx)(G:Gm)(tg:abE)(sg:U->Ev->R Ev):Prop where
 un:PG X tg (QA X.K G sg)
def QB (K:ZQ)(G:Gm)(sg:List U->Ev->R Ev):Gb:=λvs σ H Q=>∃Z A ρ us,cH K G Z A ρ σ H/\aK K H A us vs/\match sg us ρ with
 | .ok ρ'=>∀σ',cH K G Z A ρ' σ' H->(∀i,G.is i=true->σ'[i]? = σ[i]?)->Q σ' H
 |_=>False
structure Pm (X:Cx)(G:Gm)(tgs:List abE)(sg:List U->Ev->R Ev):Prop where
 un:HY X tgs (QB X.K G sg)
noncomputable def cb (i:Nat):U->Ev->R Ev:=λu ρ=>.ok (ρ.set i (some u))
noncomputable def df:List U->Ev->R Ev:=λus ρ=>match us with
 | []=>.ok ρ
 |_=>.stk
noncomputable def aF (s:U->Ev->R Ev)(t:List U->Ev->R Ev):List U->Ev->R Ev:=λus ρ=>match us with
 |u::r=>(s u ρ).bind λρ1=>t r ρ1
 |_=>.stk
noncomputable def dg (n:Nat)(t:List U->Ev->R Ev):U->Ev->R Ev:=λu ρ=>match u with
 | .tup us=>if us.length=n then t us ρ else .stk
 |_=>.stk
theorem HY.to {es:List abE}{t t':Gb}(h:HY X es t)(i:∀v σ H Q,t' v σ H Q->t v σ H Q):HY X es t':=λpins s σ H v u Q I r q=>h pins s σ H v u Q I r (i _ _ _ _ q)
theorem aD (hN:X.N.Nodup)(hi:X.N[i]? = some x:=by rfl)(hx:FZ X.env.scope x:=by first|exact Or.inl rfl|exact Or.inr rfl)(c:G.is i=false:=by rfl)(hf:X.fn x=true\/X.env.scope.names.lookup x=some .local:=by first|exact .inl rfl|exact .inr rfl|assumption):DG X G (.Name x pos) (cb i):=⟨(Gd hN hi hx hf).to λv σ H Q ⟨Z,A,ρ,u,q,r,f⟩=>f _ (q.set c r) λj cj=>by
  have:i≠j:=λz=>by subst z;rw[c] at cj;cases cj
  rw[aav this]⟩
theorem dH:Pm X G [] df:=⟨Ge.to λvs σ H Q h00=>by
 obtain⟨Z,A,ρ,us,q,r,f⟩:=h00;unfold df at f;cases us with
 |nil=>unfold aK at r;exact⟨r,f σ q λ_ _=>rfl⟩
 |cons=>exact f.elim⟩
theorem aL {e:abE}{es:List abE}{s:U->Ev->R Ev}{t:List U->Ev->R Ev}(h1:DG X G e s)(h2:Pm X G es t)
  (hs:(acv (e::es) X.env).map (·.2)=assign e X.env::(acv es X.env).map (·.2):=by rfl):Pm X G (e::es) (aF s t):=⟨(CO h1.un h2.un hs).to λvs σ H Q h00=>by
 obtain⟨Z,A,ρ,us,q,r,f⟩:=h00;unfold aF at f;cases us with
 |nil=>exact f.elim
 |cons u us=>
  unfold aK at r;obtain⟨v,vr,rfl,r1,r2⟩:=r;dsimp only at f;refine⟨v,vr,rfl,Z,A,ρ,u,q,r1,?_⟩;cases e1:s u ρ with
  |ok ρ1=>
   rw[e1] at f;simp only[R.bind] at f;intro σ1 q1 o1;refine⟨Z,A,ρ1,us,q1,r2,?_⟩;cases e2:t us ρ1 with
   |ok ρ2=>rw[e2] at f;exact λσ2 q2 o2=>f σ2 q2 λi c=>(o2 i c).trans (o1 i c)
   |exc=>rw[e2] at f;exact f.elim
   |stk=>rw[e2] at f;exact f.elim
  |exc=>rw[e1] at f;exact f.elim
  |stk=>rw[e1] at f;exact f.elim⟩
theorem fi {es:List abE}{t:List U->Ev->R Ev}(hc:X.calm=true)(h:Pm X G es t)(hn:(acv es X.env).length=n:=by rfl)(i4:(acv es X.env).findIdx? (·.1)=none:=by rfl):DG X G (.Tuple es k pos) (dg n t):=⟨(J6 hc h.un hn i4).to λv σ H Q h00=>by
 obtain⟨Z,A,ρ,u,q,r,f⟩:=h00;unfold dg at f;cases u with
 |tup us=>
  unfold Rp at r;obtain⟨a,xs,rfl,sq,l,rs⟩:=r;dsimp only at f;by_cases hl:us.length=n
  ·rw[hV hl] at f;exact⟨a,xs,rfl,gz.of sq,by rw[←rs.length];exact hl,Z,A,ρ,us,q,rs,f⟩
  ·rw[hU hl] at f;exact f.elim
 |_=>exact f.elim⟩
def Xq (K:ZQ)(Z:Pkg)(m:Md)(H:Hp)(u:U)(v:V):Prop:=match m with
 | .S=>Rp K H Z.A0 u v
 | .O=>∃a,v=.ref a/\Z.B a=none/\¬Z.A0 a/\j0 K H (λb=>Z.A0 b\/b=a) u a
 | .P=>False
def qC (K:ZQ)(G:Gm)(Z:Pkg)(m:Md):SR->lF->Prop
 | .nx ρ',D=>∀A' σ' H',cH K G Z A' ρ' σ' H'->D.nx σ' H'
 | .bk ρ',D=>∀A' σ' H',cH K G Z A' ρ' σ' H'->D.bk σ' H'
 | .ct ρ',D=>∀A' σ' H',cH K G Z A' ρ' σ' H'->D.ct σ' H'
 | .rt u ρ',D=>∀A' σ' H' v,cH K G Z A' ρ' σ' H'->Xq K Z m H' u v->D.rt v H'
 | .exc _ _,_=>∀H',(∀a o,Z.B a=some o->H' a=some o)->G.W H'
 | .stk,_=>False
def L_ (K:ZQ)(G:Gm)(m:Md)(g:Ev->SR):TS:=λD σ H=>∃Z A ρ,cH K G Z A ρ σ H/\qC K G Z m (g ρ) D
structure DS (X:Cx)(G:Gm)(m:Md)(st:ad9)(g:Ev->SR):Prop where
 un:PS X st (L_ X.K G m g)
structure yN (X:Cx)(G:Gm)(m:Md)(st:List ad9)(g:Ev->SR):Prop where
 un:sJ X st (L_ X.K G m g)
noncomputable def bM:Ev->SR:=.nx
noncomputable def aI (g1 g2:Ev->SR):Ev->SR:=λρ=>match g1 ρ with
 | .nx ρ'=>g2 ρ'
 |r=>r
noncomputable def SR.of {α:Type}:R α->(α->SR)->SR
 | .ok a,f=>f a
 |_,_=>.stk
section
variable {m:Md}{α:Type}
theorem qC.of {x:R α}{k:α->SR}{D:lF}(f:qC K G Z m (SR.of x k) D):∃a,x=.ok a/\qC K G Z m (k a) D:=by
 cases x with
 |ok a=>exact⟨a,rfl,f⟩
 |exc=>exact f.elim
 |stk=>exact f.elim
end
section
variable {e a b:abE}{OG rest:List ad9}{es:List abE}{p1:Pos}{b1 b2 b3:Bool}{m m1 m2 m3 mr:Md}{g1 g2 g3:Ev->R (U×Ev)}{h1 h2:Ev->R (Bool×Ev)}{ga:Ev->R (List U×Ev)}{s1 s2:Ev->SR}
theorem bu:yN X G m [] bM:=⟨zY.to λD σ H ⟨Z,A,ρ,q,f⟩=>f A σ H q⟩
theorem au (h:DS X G m st s1):yN X G m [st] s1:=⟨zZ h.un⟩
theorem ao (ha:DS X G m st s1)(hb:yN X G m rest s2):yN X G m (st::rest) (aI s1 s2):=⟨(CN ha.un hb.un).to λD σ H h00=>by
 obtain⟨Z,A,ρ,q,f⟩:=h00;refine⟨Z,A,ρ,q,?_⟩;unfold aI at f;cases e:s1 ρ with
 |nx ρ1=>rw[e] at f;exact λA1 σ1 H1 q1=>⟨Z,A1,ρ1,q1,f⟩
 |rt=>rw[e] at f;exact f
 |bk=>rw[e] at f;exact f
 |ct=>rw[e] at f;exact f
 |exc=>rw[e] at f;exact f
 |stk=>rw[e] at f;exact f⟩
noncomputable def Ky:Ev->SR:=.bk
noncomputable def M6:Ev->SR:=.ct
noncomputable def lj (g:Ev->R (U×Ev)):Ev->SR:=λρ=>SR.of (g ρ) λx=>.nx x.2
theorem kD (h:DE X G e b1 m1 g1)(hs:ad_ e none pos.line X.env=pure false:=by rfl):DS X G m (.Expr e pos) (lj g1):=⟨(z9 h.un hs).to λD σ H h00=>by
 obtain⟨Z,A,ρ,q,f⟩:=h00;obtain⟨⟨u,ρ1⟩,e1,f⟩:=f.of;refine⟨Z,A,ρ,q,?_⟩;rw[e1];exact λv H1 q1 _ _ _=>f A σ H1 q1⟩
noncomputable def bB (g:Ev->R (U×Ev)):Ev->SR:=λρ=>SR.of (g ρ) λx=>.rt x.1 x.2
theorem aX (h:DE X G e b1 m1 g1)(hn:m1≠.P:=by decide):DS X G .S (.Return (some e) pos) (bB g1):=⟨(yq h.un).to λD σ H h00=>by
 obtain⟨Z,A,ρ,q,f⟩:=h00;obtain⟨⟨u,ρ1⟩,e1,f⟩:=f.of;refine⟨Z,A,ρ,q,?_⟩;rw[e1];exact λv H1 q1 _ _ vm=>f A σ H1 v q1 ((vm.rp hn).mono q1.sup)⟩
theorem uY (h:DE X G e b1 .O g1):DS X G .O (.Return (some e) pos) (bB g1):=⟨(yq h.un).to λD σ H h00=>by
 obtain⟨Z,A,ρ,q,f⟩:=h00;obtain⟨⟨u,ρ1⟩,e1,f⟩:=f.of;refine⟨Z,A,ρ,q,?_⟩;rw[e1];intro v H1 q1 _ _ vm;obtain⟨a,rfl,na,nb,_,t⟩:=vm;exact f A σ H1 _ q1 ⟨a,rfl,nb,λz=>na (q1.sup a z),t.mono λb z=>z.imp (q1.sup b) id⟩⟩
theorem Ah (hm:m≠.P:=by decide)(hi:G.io=true->i≠0)(hN:X.N[i]? = some x:=by rfl)(hv:F9 X.env.scope x:=by first|exact Or.inl rfl|exact Or.inr (Or.inl rfl)|exact Or.inr (Or.inr rfl))(hd:(x==("__debug__":Str))=false:=by decide)(sv:(x==("__classdict__":Str))=false:=by decide)(c:G.is i=true:=by rfl):DS X G m (.Return (some (.Name x p1)) pos) (bB (ah i)):=⟨(yq (lG hN hv hd sv)).to λD σ H h00=>by
 obtain⟨Z,A,ρ,q,f⟩:=h00;obtain⟨⟨u,ρ1⟩,e1,f⟩:=f.of;unfold ah at e1;split at e1
 ·rename_i u' hu;cases e1;obtain⟨a,h1,h2,h3,h4,h5⟩:=q.own c hu;have na:¬Z.A0 a:=by
   rcases h4 with h4|⟨h4,h6⟩
   ·exact h4
   ·exact absurd h6 (hi h4)
  refine⟨.ref a,h1,f A σ H _ q ?_⟩;cases m with
  |S=>exact h5.rp q.sup na
  |O=>exact⟨a,rfl,h3,na,h5.mono λb z=>by
    rcases z with z|z
    ·exact q.sup b z
    ·subst z;exact h2⟩
  |P=>exact absurd rfl hm
 ·cases e1⟩
noncomputable def bj (i:Nat)(g:Ev->R (U×Ev)):Ev->SR:=λρ=>SR.of (g ρ) λx=>.nx (x.2.set i (some x.1))
theorem wU (c:G.is i=false)(hn:m1≠.P)(hi:∀σ H Q,tD X.K G b1 m1 g1 σ H Q->te σ H Q){D:lF}(h:L_ X.K G m (bj i g1) D σ H):CP te (wz i) D σ H:=by
 obtain⟨Z,A,ρ,q,f⟩:=h;obtain⟨⟨u,ρ1⟩,e1,f⟩:=f.of;refine hi _ _ _ ⟨Z,A,ρ,q,?_⟩;rw[e1];exact λv H1 q1 _ _ vm=>f A _ H1 (q1.set c (vm.rp hn))
theorem tU (c:G.is i=true)(h0:G.io=true->i≠0)(hi:∀σ H Q,tD X.K G b1 .O g1 σ H Q->te σ H Q){D:lF}(h:L_ X.K G m (bj i g1) D σ H):CP te (wz i) D σ H:=by
 obtain⟨Z,A,ρ,q,f⟩:=h;obtain⟨⟨u,ρ1⟩,e1,f⟩:=f.of;refine hi _ _ _ ⟨Z,A,ρ,q,?_⟩;rw[e1];intro v H1 q1 _ _ vm;obtain⟨a,rfl,na,nb,r,t⟩:=vm;exact f _ _ H1 (q1.setO c h0 na nb r t)
theorem bO (hN:X.N.Nodup)(h:DE X G e b1 m1 g1)(hi:X.N[i]? = some x:=by rfl)(hx:FZ X.env.scope x:=by first|exact Or.inl rfl|exact Or.inr rfl)(c:G.is i=false:=by rfl)(hn:m1≠.P:=by decide)(hs:ad_ e (some (.Name x p1)) pos.line X.env=pure false:=by rfl)(hf:X.fn x=true\/X.env.scope.names.lookup x=some .local:=by first|exact .inl rfl|exact .inr rfl|assumption):DS X G m (.Assign [.Name x p1] e pos) (bj i g1):=⟨(CS hN hi hx h.un hs hf).to λ_ _ _=>wU c hn λ_ _ _ h=>h⟩
theorem gu (hN:X.N.Nodup)(h:DE X G e b1 .O g1)(h0:G.io=true->i≠0:=by decide)(hi:X.N[i]? = some x:=by rfl)(hx:FZ X.env.scope x:=by first|exact Or.inl rfl|exact Or.inr rfl)(c:G.is i=true:=by rfl)(hs:ad_ e (some (.Name x p1)) pos.line X.env=pure false:=by rfl)(hf:X.fn x=true\/X.env.scope.names.lookup x=some .local:=by first|exact .inl rfl|exact .inr rfl|assumption):DS X G m (.Assign [.Name x p1] e pos) (bj i g1):=⟨(CS hN hi hx h.un hs hf).to λ_ _ _=>tU c h0 λ_ _ _ h=>h⟩
noncomputable def M7 (i j:Nat):Ev->SR:=λρ=>match ρ[j]? with
 |some (some u)=>.nx ((ρ.set j none).set i (some u))
 |_=>.stk
noncomputable def BL (sg:U->Ev->R Ev)(g:Ev->R (U×Ev)):Ev->SR:=λρ=>SR.of (g ρ) λx=>SR.of (sg x.1 x.2) .nx
theorem DP (h:DE X G e b1 m1 g1)(hg:DG X G tg sg)(hn:m1≠.P:=by decide)(hs:aei [tg] e pos.line X.env=pure false:=by rfl)(hw:aej [tg] e X.env=pure none:=by rfl)(h1:(acv [tg] X.env).map (·.2)=[assign tg X.env]:=by rfl):DS X G m (.Assign [tg] e pos) (BL sg g1):=⟨(CQ h.un hg.un hs hw h1).to λD σ H h00=>by
 obtain⟨Z,A,ρ,q,f⟩:=h00;obtain⟨⟨u,ρ1⟩,e1,f⟩:=f.of;obtain⟨ρ2,e2,f⟩:=f.of;refine⟨Z,A,ρ,q,?_⟩;rw[e1];intro v H1 q1 _ _ vm;refine⟨Z,A,ρ1,u,q1,vm.rp hn,?_⟩;dsimp only at e2;rw[e2];exact λσ' q' _=>f A σ' H1 q'⟩
noncomputable def Kz (i j:Nat)(ga:Ev->R (List U×Ev)):Ev->SR:=λρ=>SR.of (ga ρ) λx=>match x.1 with
 | [u,w]=>.nx ((x.2.set i (some u)).set j (some w))
 |_=>.stk
theorem KA {y:Str}{a b:abE}{px py pt:Pos}{kt k2 pt2}(hc:X.calm=true)(hN:X.N.Nodup)(ha:DA X G [a,b] b1 false ga)(hi:X.N[i]? = some x:=by rfl)(hj:X.N[j]? = some y:=by rfl)(tE:i≠j:=by decide)(hx:X.env.scope.names.lookup x=some .local:=by rfl)(hy:X.env.scope.names.lookup y=some .local:=by rfl)(ci:G.is i=false:=by rfl)(cj:G.is j=false:=by rfl)(hw:aej [.Tuple [.Name x px,.Name y py] kt pt] (.Tuple [a,b] k2 pt2) X.env=pure (some [x,y]):=by rfl)(hs:aei [.Tuple [.Name x px,.Name y py] kt pt] (.Tuple [a,b] k2 pt2) pos.line X.env=pure false:=by rfl) :
  DS X G m (.Assign [.Tuple [.Name x px,.Name y py] kt pt] (.Tuple [a,b] k2 pt2) pos) (Kz i j ga):=⟨(J8 hc hN hi hj tE hx hy ha.un hw hs).to λD σ H h00=>by
 obtain⟨Z,A,ρ,q,f⟩:=h00;obtain⟨⟨us,ρ1⟩,e1,f⟩:=f.of;refine⟨Z,A,ρ,q,?_⟩;rw[e1];intro vs H1 q1 _ _ vm;dsimp only at f;split at f
 ·rename_i u w;have r:=vm.rps;unfold aK at r;obtain⟨v,vr,rfl,r1,r2⟩:=r;unfold aK at r2;obtain⟨v2,vr2,rfl,r3,r4⟩:=r2;unfold aK at r4;subst r4;exact⟨v,v2,rfl,f A _ H1 ((q1.set ci r1).set cj r3)⟩
 ·exact f.elim⟩
noncomputable def kE (h:Ev->R (Bool×Ev))(s1 s2:Ev->SR):Ev->SR:=λρ=>SR.of (h ρ) λx=>if x.1=true then s1 x.2 else s2 x.2
theorem dB {a b:List ad9}(hc:DT X G c b1 h1)(ha:yN X G m a s1)(hb:yN X G m b s2):DS X G m (.If c a b pos) (kE h1 s1 s2):=⟨(HX hc.un ha.un hb.un).to λD σ H h00=>by
 obtain⟨Z,A,ρ,q,f⟩:=h00;obtain⟨⟨k,ρ1⟩,e1,f⟩:=f.of;refine⟨Z,A,ρ,q,?_⟩;rw[e1];intro H1 q1 _ _;cases k with
 |true=>rw[hV rfl] at f ⊢;exact⟨Z,A,ρ1,q1,f⟩
 |false=>rw[hU ZV] at f ⊢;exact⟨Z,A,ρ1,q1,f⟩⟩
noncomputable def lK (h:Ev->R (Bool×Ev))(s:Ev->SR):Nat->Ev->SR
 |0,_=>.stk
 |n+1,ρ=>SR.of (h ρ) λx=>if x.1=true then match s x.2 with
   | .nx ρ2=>lK h s n ρ2
   | .ct ρ2=>lK h s n ρ2
   | .bk ρ2=>.nx ρ2
   |r=>r
  else .nx x.2
theorem DQ (hp:afe (aar X.prog X.w) X.A X.env X.xe)(hc:DT X G c b1 h1)(hb:yN X G m body s1):DS X G m (.While c body [] pos) (lK h1 s1 n):=⟨(CT hp hc.un hb.un).to λD σ H h00=>by
 obtain⟨Z,A,ρ,q,f⟩:=h00;refine⟨λk σ H=>∃A ρ,cH X.K G Z A ρ σ H/\qC X.K G Z m (lK h1 s1 k ρ) D,⟨n,A,ρ,q,f⟩,?_⟩;rintro k σ H ⟨A,ρ,q,f⟩;cases k with
 |zero=>exact f.elim
 |succ k=>
  unfold lK at f;obtain⟨⟨t,ρ1⟩,e1,f⟩:=f.of;refine⟨Z,A,ρ,q,?_⟩;rw[e1];intro H1 q1 _ _;cases t with
  |false=>rw[hU ZV] at f ⊢;exact f A σ H1 q1
  |true=>
   rw[hV rfl] at f ⊢;refine⟨λσ H=>∃A ρ,cH X.K G Z A ρ σ H/\qC X.K G Z m (lK h1 s1 k ρ) D,λσ' H' z=>⟨k,aed k,z⟩,Z,A,ρ1,q1,?_⟩;dsimp only at f;cases e2:s1 ρ1 with
   |nx ρ2=>rw[e2] at f;exact λA2 σ2 H2 q2=>⟨A2,ρ2,q2,f⟩
   |ct ρ2=>rw[e2] at f;exact λA2 σ2 H2 q2=>⟨A2,ρ2,q2,f⟩
   |bk ρ2=>rw[e2] at f;exact f
   |rt=>rw[e2] at f;exact f
   |exc=>rw[e2] at f;exact f
   |stk=>rw[e2] at f;exact f⟩
end
end L2
namespace L2
def Wk (K:ZQ)(p:Bool)(A:Z5->Prop)(us:List U)(J:It)(H1:Hp):Prop:=us.length<=ZY/\
 ∀H A',(if p=true then aQ H1 H else fg A H1 H)->(∀b,A' b->A b\/H1 b=none)->(∀(i:Nat) (u:U),us[i]? = some u->J.go i H/\∀x H',J.yld i H x H'->aQ H H'/\Rp K H' A' u x)/\J.stop us.length H
def QC (K:ZQ)(G:Gm)(b p:Bool)(gi:Ev->R (List U×Ev)):TI:=λσ H R=>∃Z A ρ,cH K G Z A ρ σ H/\match gi ρ with
 | .ok (us,ρ')=>∀J H1,cH K G Z A ρ' σ H1->fg A H H1->(b=false->ρ'=ρ/\aQ H H1)->Wk K p A us J H1->R J H1
 |_=>False
structure DI (X:Cx)(G:Gm)(tg iter:abE)(b p:Bool)(gi:Ev->R (List U×Ev)):Prop where
 un:PI X tg iter (QC X.K G b p gi)
section
variable {e a b:abE}{es:List abE}{p1:Pos}{b1 b2 b3:Bool}{m m1 m2 m3 mr:Md}{g1 g2 g3:Ev->R (U×Ev)}{h1 h2:Ev->R (Bool×Ev)}{ga:Ev->R (List U×Ev)}{s1 s2:Ev->SR}
theorem PI.to {t t':TI}(h:PI X tg e t)(i:∀σ H Q,t' σ H Q->t σ H Q):PI X tg e t':=λpins s σ H Q I q=>h pins s σ H Q I (i _ _ _ q)
theorem PI.or {t t':TI}(h:PI X tg e t)(h':PI X tg e t'):PI X tg e (λσ H R=>t σ H R\/t' σ H R):=λpins s σ H Q I q=>by
 rcases q with q|q
 ·exact h pins s σ H Q I q
 ·exact h' pins s σ H Q I q
noncomputable def M8:Md->Bool
 | .P=>true
 |_=>false
noncomputable def cy (g:Ev->R (U×Ev)):Ev->R (List U×Ev):=λρ=>(g ρ).bind λx=>match x.1 with
 | .lst us=>.ok (us,x.2)
 | .tup us=>.ok (us,x.2)
 | .scr us=>.ok (us,x.2)
 |_=>.stk
theorem GP (q:cH K G Z A ρ σ H1)(h:yJ K G Z m1 A ρ σ H1 (.lst us) v):∃a,v=.ref a/\(∃xs,fS K H1 a xs)/\Wk K (M8 m1) A us (Pf K a) H1:=by
 have hp:=h.pk;unfold Pk at hp;obtain⟨a,xs,rfl,rd,l,rs⟩:=hp;refine⟨a,rfl,⟨xs,fS.of rd⟩,l,λH A' hs ha=>?_⟩;have st:H a=some (.lst xs)/\∀(i:Nat) (u:U),us[i]? = some u->∃x,xs[i]? = some x/\Rp K H A' u x:=by
  cases hm:M8 m1 with
  |true=>
   rw[hm,hV rfl] at hs;refine⟨hs a _ rd,λi u hu=>?_⟩;obtain⟨x,h1,h2⟩:=rs.get hu;exact⟨x,h1,h2.re q.mu (fg.same hs) ha⟩
  |false=>
   rw[hm,hU ZV] at hs;have hn:m1≠.P:=λz=>by subst z;cases hm
   have hr:=h.rp hn;unfold Rp at hr;obtain⟨a',xs',e,na,rd',_,rs'⟩:=hr;cases e;refine⟨hs a _ na rd,λi u hu=>?_⟩;obtain⟨x,h1,h2⟩:=rs.get hu;exact⟨x,h1,h2.re q.mu hs ha⟩
 obtain⟨rd2,get⟩:=st;refine⟨λi u hu=>?_,⟨xs,fS.of rd2,by rw[←rs.length];exact Z2 _⟩⟩;obtain⟨x,h1,h2⟩:=get i u hu;refine⟨⟨xs,x,fS.of rd2,h1⟩,λy H' yl=>?_⟩;obtain⟨e,yl⟩:=yl;have e2:=yl xs (fS.of rd2);rw[h1] at e2;cases e2;subst e;exact⟨aQ.refl _,h2⟩
theorem KC {p:Bool}(q:cH K G Z A ρ σ H1)(h:Pk K H1 A (.tup us) v):∃a,v=.ref a/\(∃xs,gz K H1 a xs)/\Wk K p A us (Qg K a) H1:=by
 unfold Pk at h;obtain⟨a,xs,rfl,sq,l,rs⟩:=h;refine⟨a,rfl,⟨xs,gz.of sq⟩,l,λH A' hs ha=>?_⟩;have ex:fg A H1 H:=by
  cases p with
  |true=>rw[hV rfl] at hs;exact fg.same hs
  |false=>rw[hU ZV] at hs;exact hs
 have LS:gz K H a xs:=gz.of (ex a _ (λz=>by have:=q.mu a z;rw[sq] at this;exact this) sq);refine⟨λi u hu=>?_,⟨xs,LS,by rw[←rs.length];exact Z2 _⟩⟩;obtain⟨x,h1,h2⟩:=rs.get hu;refine⟨⟨xs,x,LS,h1⟩,λy H' yl=>?_⟩;obtain⟨e,yl⟩:=yl;have e2:=yl xs LS;rw[h1] at e2;cases e2;subst e;exact⟨aQ.refl _,h2.re q.mu ex ha⟩
theorem KD {p:Bool}(q:cH K G Z A ρ σ H1)(h:Pk K H1 A (.scr us) v):∃a,v=.ref a/\(∃xs,fS K H1 a xs)/\Wk K p A us (Pf K a) H1:=by
 unfold Pk at h;obtain⟨a,xs,rfl,sq,l,rs⟩:=h;refine⟨a,rfl,⟨xs,sq.sq⟩,l,λH A' hs ha=>?_⟩;have ex:fg A H1 H:=by
  cases p with
  |true=>rw[hV rfl] at hs;exact fg.same hs
  |false=>rw[hU ZV] at hs;exact hs
 have LS:fS K H a xs:=(sq.to λo y w=>ex a _ (λz=>by have:=q.mu a z;rw[w] at this;exact this) w).sq;refine⟨λi u hu=>?_,⟨xs,LS,by rw[←rs.length];exact Z2 _⟩⟩;obtain⟨x,h1,h2⟩:=rs.get hu;refine⟨⟨xs,x,LS,h1⟩,λy H' yl=>?_⟩;obtain⟨e,yl⟩:=yl;have e2:=yl xs LS;rw[h1] at e2;cases e2;subst e;exact⟨aQ.refl _,h2.re q.mu ex ha⟩
theorem bz (h:DE X G e b1 m1 g1):DI X G tg e b1 (M8 m1) (cy g1):=⟨((Gf h.un).or (J_ h.un)).to λσ H RR h00=>by
 obtain⟨Z,A,ρ,q,f⟩:=h00;unfold cy at f;cases e1:g1 ρ with
 |stk=>rw[e1] at f;exact f.elim
 |exc=>rw[e1] at f;exact f.elim
 |ok y=>
  obtain⟨u,ρ1⟩:=y;rw[e1] at f;cases u with
  |lst us=>
   refine .inl ⟨Z,A,ρ,q,?_⟩;rw[e1];intro v H1 q1 x1 s1 vm;obtain⟨a,e,l,wk⟩:=GP q1 vm;exact⟨a,e,l,f _ H1 q1 x1 s1 wk⟩
  |tup us=>
   refine .inr ⟨Z,A,ρ,q,?_⟩;rw[e1];intro v H1 q1 x1 s1 vm;obtain⟨a,e,l,wk⟩:=KC (p:=M8 m1) q1 vm.pk;exact⟨a,e,l,f _ H1 q1 x1 s1 wk⟩
  |scr us=>
   refine .inl ⟨Z,A,ρ,q,?_⟩;rw[e1];intro v H1 q1 x1 s1 vm;obtain⟨a,e,l,wk⟩:=KD (p:=M8 m1) q1 vm.pk;exact⟨a,e,l,f _ H1 q1 x1 s1 wk⟩
  |_=>exact f.elim⟩
noncomputable def cz (lo:Int)(n:Nat):List U:=(aaA n).map λi=>.int (lo+(i:Nat))
theorem DR {lo:Int}{p:Bool}(h:n<=ZY):Wk K p A (cz lo n) (Pg lo n) H1:=by
 have hl:(cz lo n).length=n:=by unfold cz;rw[ZW,abk]
 refine⟨by rw[hl];exact h,λH A' _ _=>⟨λi u hu=>?_,by rw[hl];exact Z2 _⟩⟩;unfold cz at hu;rw[aay] at hu;cases e:(aaA n)[i]? with
 |none=>rw[e] at hu;cases hu
 |some j=>
  rw[e] at hu;obtain⟨l1,l2⟩:=Z0.mp e;rw[abk] at l1;rw[List.getElem_range] at l2;subst l2;cases hu;refine⟨l1,λx H' y=>?_⟩;obtain⟨rfl,rfl⟩:=y;exact⟨aQ.refl _,eP⟩
noncomputable def mw (ga:Ev->R (List U×Ev)):Ev->R (List U×Ev):=λρ=>(ga ρ).bind λx=>match x.1 with
 | [.int j]=>if -1000000<=j/\j<=1000000 then .ok (cz 0 j.toNat,x.2) else .stk
 |_=>.stk
theorem jj {a:abE}(ha:DA X G [a] b1 false ga)(hm:X.mg "range"=none)(hg:Gl X "range":=by rfl)(hs:aaf [a] X.env=[(false,ade a X.env)]:=by rfl):DI X G tg (.Call (.Name "range" p1) [a] [] pos) b1 false (mw ga):=⟨(By hg hm ha.un hs).to λσ H RR h00=>by
 obtain⟨Z,A,ρ,q,f⟩:=h00;unfold mw at f;cases e1:ga ρ with
 |stk=>rw[e1] at f;exact f.elim
 |exc=>rw[e1] at f;exact f.elim
 |ok y=>
  obtain⟨us,ρ1⟩:=y;rw[e1] at f;dsimp only[L2.R.bind] at f;refine⟨Z,A,ρ,q,?_⟩;rw[e1];intro vs H1 q1 x1 s1 vm;split at f
  ·rename_i XS ρ' e2;split at e2
   ·rename_i j;split at e2
    ·rename_i hl;cases e2;have r:=vm.rps;unfold aK at r;obtain⟨v,vr,rfl,r1,r2⟩:=r;unfold aK at r2;subst r2;unfold Rp at r1;subst r1;exact⟨j,rfl,by lia,by lia,f _ H1 q1 x1 s1 (DR (by have:ZY=16777216:=rfl;lia))⟩
    ·cases e2
   ·cases e2
  ·exact f.elim⟩
noncomputable def iu (sg:U->Ev->R Ev)(s:Ev->SR):List U->Ev->SR
 | [],ρ=>.nx ρ
 |u::us,ρ=>SR.of (sg u ρ) λρ1=>match s ρ1 with
   | .nx ρ2=>iu sg s us ρ2
   | .ct ρ2=>iu sg s us ρ2
   | .bk ρ2=>.nx ρ2
   |r=>r
noncomputable def jk (gi:Ev->R (List U×Ev))(sg:U->Ev->R Ev)(s:Ev->SR):Ev->SR:=λρ=>SR.of (gi ρ) λx=>iu sg s x.1 x.2
open Classical in
noncomputable def Pkg.lp (Z:Pkg)(A:Z5->Prop)(H:Hp):Pkg:={Z with B:=λb=>if A b/\Z.B b=none then none else H b}
theorem kF {b:Z5}(h1:A b)(h2:Z.B b=none):(Z.lp A H).B b=none:=by
 unfold Pkg.lp;dsimp only;exact hV ⟨h1,h2⟩
theorem iV {b:Z5}(h:¬(A b/\Z.B b=none)):(Z.lp A H).B b=H b:=by
 unfold Pkg.lp;dsimp only;exact hU h
theorem qD {b:Z5}(h:(Z.lp A H).B b=none):(A b/\Z.B b=none)\/H b=none:=by
 by_cases c:A b/\Z.B b=none
 ·exact .inl c
 ·rw[iV c] at h;exact .inr h
theorem cH.lp (q:cH K G Z A ρ σ H):cH K G (Z.lp A H) A ρ σ H where
 slot:=λi u h=>by
  obtain⟨v,h1,h2⟩:=q.slot i u h;refine⟨v,h1,?_⟩;by_cases c:G.is i=true
  ·rw[hV c] at h2 ⊢;obtain⟨a,e1,e2,e3,e4,e5⟩:=h2;exact⟨a,e1,e2,kF e2 e3,e4,e5⟩
  ·rw[hU c] at h2 ⊢;exact h2
 dis:=q.dis
 mu:=q.mu
 sup:=q.sup
 out:=λa h=>(q.out a h).imp id λz=>kF h z
 bas:=λa o h=>by
  by_cases c:A a/\Z.B a=none
  ·rw[kF c.1 c.2] at h;cases h
  ·rw[iV c] at h;exact h
 io0:=q.io0
 len:=q.len
theorem cH.unlp {A':Z5->Prop}{ρ':Ev}{σ':St}(q:cH K G Z A ρ σ H)(q':cH K G (Z.lp A H) A' ρ' σ' H'):cH K G Z A' ρ' σ' H':=by
 have sub:∀a,(Z.lp A H).B a=none->Z.B a=none:=λa h=>by
  rcases qD h with z|h
  ·exact z.2
  ·cases e:Z.B a with
   |none=>rfl
   |some o=>rw[q.bas a o e] at h;cases h
 exact {
  slot:=λi u h=>by
   obtain⟨v,h1,h2⟩:=q'.slot i u h;refine⟨v,h1,?_⟩;by_cases c:G.is i=true
   ·rw[hV c] at h2 ⊢;obtain⟨a,e1,e2,e3,e4,e5⟩:=h2;exact⟨a,e1,e2,sub a e3,e4,e5⟩
   ·rw[hU c] at h2 ⊢;exact h2
  dis:=q'.dis
  mu:=q'.mu
  sup:=q'.sup
  out:=λa h=>(q'.out a h).imp id (sub a)
  bas:=λa o h=>q'.bas a o (by
   rw[iV (λz=>by rw[h] at z;exact nomatch z.2)];exact q.bas a o h)
  io0:=q'.io0
  len:=q'.len}
theorem qC.lp {r:SR}{D:lF}(q:cH K G Z A ρ σ H)(f:qC K G Z m r D):qC K G (Z.lp A H) m r D:=by
 cases r with
 |nx=>exact λA' σ' H' q'=>f A' σ' H' (q.unlp q')
 |bk=>exact λA' σ' H' q'=>f A' σ' H' (q.unlp q')
 |ct=>exact λA' σ' H' q'=>f A' σ' H' (q.unlp q')
 |rt u ρ'=>
  intro A' σ' H' v q' vm;refine f A' σ' H' v (q.unlp q') ?_;cases m with
  |S=>exact vm
  |P=>exact vm
  |O=>
   obtain⟨a,e,nb,na,t⟩:=vm;refine⟨a,e,?_,na,t⟩;rcases qD nb with z|h
   ·exact z.2
   ·cases e:Z.B a with
    |none=>rfl
    |some o=>rw[q.bas a o e] at h;cases h
 |exc=>exact λH' hb=>f H' λa o h=>hb a o (by
   rw[iV (λz=>by rw[h] at z;exact nomatch z.2)];exact q.bas a o h)
 |stk=>exact f.elim
theorem gT {gi:Ev->R (List U×Ev)}(hp:afe (aar X.prog X.w) X.A X.env X.xe)(hc:X.calm=true)(hi:DI X G tg iter b1 false gi)(hg:DG X G tg sg)(hb:yN X G m body s1)(hs:∀x,abj iter X.env x=pure x:=by intro _;rfl):DS X G m (.For tg iter body [] pos) (jk gi sg s1):=⟨(Ae hp hc hi.un hg.un hb.un hs).to λD σ H h00=>by
 obtain⟨Z,A,ρ,q,f⟩:=h00;obtain⟨⟨us,ρ1⟩,e1,f⟩:=f.of;refine⟨Z,A,ρ,q,?_⟩;rw[e1];intro J H1 q1 x1 yi wk;dsimp only at f;obtain⟨hz,wk⟩:=wk;refine⟨λi k σ H=>i+k=us.length/\∃A' ρ',cH X.K G (Z.lp A H1) A' ρ' σ H/\qC X.K G (Z.lp A H1) m (iu sg s1 (us.drop i) ρ') D,⟨us.length,by lia,A,ρ1,q1.lp,by rw[ad8];exact f.lp q1⟩,?_⟩;rintro i k σ H ⟨hk,A',ρ',q',f'⟩;have ex:fg A H1 H:=λb o nb z=>q'.bas b o (by
  rw[iV (λy=>nb y.1)];exact z)
 have nw:∀b,A' b->A b\/H1 b=none:=λb z=>by
  rcases q'.out b z with y|y
  ·exact .inl (q1.sup b y)
  ·rcases qD y with w|h
   ·exact .inl w.1
   ·exact .inr h
 obtain⟨w1,w2⟩:=wk H A' (by rw[hU ZV];exact ex) nw;by_cases yp:i<us.length
 ·have eu:us[i]? = some us[i]:=ZM yp;obtain⟨go,yl⟩:=w1 i _ eu;rw[aa8 yp] at f';unfold iu at f';obtain⟨ρ2,e2,f2⟩:=f'.of;refine .inr ⟨go,λσ H=>∃A' ρ',cH X.K G (Z.lp A H1) A' ρ' σ H/\qC X.K G (Z.lp A H1) m (iu sg s1 (us.drop (i+1)) ρ') D,λσ' H' z=>⟨k-1,by lia,by lia,z⟩,λx H' y=>?_⟩;obtain⟨sm,rp⟩:=yl x H' y;refine⟨Z.lp A H1,A',ρ',us[i],q'.same sm,rp,?_⟩;rw[e2];intro σ2 q2 _;refine⟨Z.lp A H1,A',ρ2,q2,?_⟩;cases e3:s1 ρ2 with
  |nx ρ3=>rw[e3] at f2;exact λA3 σ3 H3 q3=>⟨A3,ρ3,q3,f2⟩
  |ct ρ3=>rw[e3] at f2;exact λA3 σ3 H3 q3=>⟨A3,ρ3,q3,f2⟩
  |bk ρ3=>rw[e3] at f2;exact f2
  |rt=>rw[e3] at f2;exact f2
  |exc=>rw[e3] at f2;exact f2
  |stk=>rw[e3] at f2;exact f2
 ·have e:i=us.length:=by lia
  subst e;rw[adm] at f';exact .inl ⟨w2,f' A' σ H q'⟩⟩
end
end L2
namespace L2
noncomputable def jz (js:List (Option Nat))(ρ:Ev):Ev:=js.map λo=>match o with
 |none=>none
 |some j=>match ρ[j]? with
  |some v=>v
  |none=>none
noncomputable def o9 (G:Gm)(js:List (Option Nat)):Gm:=⟨js.map λo=>match o with
 |none=>false
 |some j=>G.is j,false,λ_=>False⟩
noncomputable def mx:List (Option Nat)->Bool
 | []=>true
 |none::r=>mx r
 |some j::r=> !(r.contains (some j))&&mx r
theorem qE:∀{js:List (Option Nat)} {i k j:Nat},mx js=true->js[i]? = some (some j)->js[k]? = some (some j)->i=k
 | [],_,_,_,_,h,_=>by simp at h
 |none::r,i,k,j,ok,h1,h2=>by
  unfold mx at ok;cases i with
  |zero=>simp at h1
  |succ i=>
   cases k with
   |zero=>simp at h2
   |succ k=>exact congrArg (·+1) (qE (j:=j) ok (by simpa using h1) (by simpa using h2))
 |some j'::r,i,k,j,ok,h1,h2=>by
  unfold mx at ok;rw[aae] at ok;have nm:∀n:Nat,r[n]? ≠ some (some j'):=λn h=>by
   have:=aaV h;simp at ok;exact ok.1 this
  cases i with
  |zero=>
   cases k with
   |zero=>rfl
   |succ k=>simp at h1 h2;subst h1;exact absurd h2 (nm k)
  |succ i=>
   cases k with
   |zero=>simp at h1 h2;subst h2;exact absurd h1 (nm i)
   |succ k=>exact congrArg (·+1) (qE (j:=j) ok.2 (by simpa using h1) (by simpa using h2))
theorem my (h:(jz js ρ)[i]? = some (some u)):∃j,js[i]? = some (some j)/\ρ[j]? = some (some u):=by
 unfold jz at h;rw[aay] at h;cases e:js[i]? with
 |none=>rw[e] at h;cases h
 |some o=>
  rw[e] at h;cases o with
  |none=>cases h
  |some j=>
   refine⟨j,rfl,?_⟩;have h:=aaj h;dsimp only at h;split at h
   ·rename_i v hv;rw[hv,h]
   ·cases h
theorem mB (h:js[i]? = some (some j))(hv:σ[j]? = some (some v)):(tQ js σ)[i]? = some (some v):=by
 unfold tQ;rw[aay,h];dsimp only[Option.map];rw[hv]
theorem qF (h:js[i]? = some (some j)):(o9 G js).is i=G.is j:=by
 unfold o9 Gm.is;dsimp only;rw[adL,aay,h];rfl
theorem Ai (js:List (Option Nat))(ρ:Ev)(σ:St):(jz js ρ).length=(tQ js σ).length:=by
 unfold jz tQ;rw[ZW,ZW]
section
variable {ρi:Ev}
theorem Aj (q:cH K G Z A ρ σ H)(ok:mx js=true):cH K (o9 G js) ⟨λ_=>False,λ_=>none,0⟩ A (jz js ρ) (tQ js σ) H where
 slot:=λi u h=>by
  obtain⟨j,h1,h2⟩:=my h;obtain⟨v,h3,h4⟩:=q.slot j u h2;refine⟨v,mB h1 h3,?_⟩;rw[qF h1];by_cases c:G.is j=true
  ·rw[hV c] at h4 ⊢;obtain⟨a,e1,e2,_,_,e5⟩:=h4;exact⟨a,e1,e2,rfl,.inl id,e5⟩
  ·rw[hU c] at h4 ⊢;exact h4
 dis:=λi k u w a ci ck ne hi hk si sk=>by
  obtain⟨j,h1,h2⟩:=my hi;obtain⟨j',OD,JJ⟩:=my hk;rw[qF h1] at ci;rw[qF OD] at ck;obtain⟨b,e1,_⟩:=q.own ci h2;obtain⟨b',yj,_⟩:=q.own ck JJ;rw[mB h1 e1] at si;rw[mB OD yj] at sk;cases si;cases sk;exact q.dis j j' u w a ci ck (λz=>ne (by subst z;exact qE ok h1 OD)) h2 JJ e1 yj
 mu:=q.mu
 sup:=λ_ h=>h.elim
 out:=λ_ _=>.inr rfl
 bas:=λ_ _ h=>by cases h
 io0:=λh=>by cases h
 len:=Ai js ρ σ
def GQ (G:Gm)(js:List (Option Nat))(ρ:Ev)(σ:St)(a:Z5):Prop:=∃(i j:Nat) (u:U),js[i]? = some (some j)/\G.is j=true/\ρ[j]? = some (some u)/\σ[j]? = some (some (.ref a))
open Classical in
noncomputable def KG (G:Gm)(js:List (Option Nat))(A:Z5->Prop)(ρ:Ev)(σ:St)(H:Hp):Pkg:=⟨λa=>A a/\¬GQ G js ρ σ a,λa=>if GQ G js ρ σ a then none else H a,0⟩
theorem qG (h:GQ G js ρ σ a):(KG G js A ρ σ H).B a=none:=by
 unfold KG;dsimp only;exact hV h
theorem mC (h:¬GQ G js ρ σ a):(KG G js A ρ σ H).B a=H a:=by
 unfold KG;dsimp only;exact hU h
theorem KI (q:cH K G Z A ρ σ H)(ok:mx js=true):cH K (o9 G js) (KG G js A ρ σ H) A (jz js ρ) (tQ js σ) H where
 slot:=λi u h=>by
  obtain⟨j,h1,h2⟩:=my h;obtain⟨v,h3,h4⟩:=q.slot j u h2;refine⟨v,mB h1 h3,?_⟩;rw[qF h1];by_cases c:G.is j=true
  ·rw[hV c] at h4 ⊢;obtain⟨a,e1,e2,_,_,e5⟩:=h4;subst e1;have cp:GQ G js ρ σ a:=⟨i,j,u,h1,c,h2,h3⟩;exact⟨a,rfl,e2,qG cp,.inl λz=>z.2 cp,e5⟩
  ·rw[hU c] at h4 ⊢;exact h4
 dis:=(Aj q ok).dis
 mu:=q.mu
 sup:=λ_ h=>h.1
 out:=λa h=>by
  by_cases c:GQ G js ρ σ a
  ·exact .inr (qG c)
  ·exact .inl ⟨h,c⟩
 bas:=λa o h=>by
  by_cases c:GQ G js ρ σ a
  ·rw[qG c] at h;cases h
  ·rw[mC c] at h;exact h
 io0:=λh=>by cases h
 len:=Ai js ρ σ
noncomputable def j1:List (Option Nat)->Nat->Option Nat
 | [],_=>none
 |o::r,j=>if o=some j then some 0 else (j1 r j).map (·+1)
theorem tV:∀{js:List (Option Nat)} {i j:Nat},j1 js j=some i->js[i]? = some (some j)
 | [],_,_,h=>by cases h
 |o::r,i,j,h=>by
  unfold j1 at h;split at h
  ·rename_i e;cases h;rw[e];rfl
  ·cases e:j1 r j with
   |none=>rw[e] at h;cases h
   |some k=>
    rw[e] at h;cases h;rw[aa1];exact tV e
theorem qH:∀{js:List (Option Nat)} {i j:Nat},j1 js j=none->js[i]? ≠ some (some j)
 | [],_,_,_=>by simp
 |o::r,i,j,h=>by
  unfold j1 at h;split at h
  ·cases h
  ·rename_i ne;cases e:j1 r j with
   |some k=>rw[e] at h;cases h
   |none=>
    cases i with
    |zero=>intro z;exact ne (aaj z)
    |succ i=>rw[aa1];exact qH e
noncomputable def wb (G:Gm)(js:List (Option Nat))(ρi ρ:Ev):Ev:=ρ.mapIdx λj x=>if (G.is j&&x.isSome)=true then (match j1 js j with
 |some i=>(ρi[i]?).getD none
 |none=>x) else x
theorem yO (h:(wb G js ρi ρ)[j]? = some (some u)):∃u0,ρ[j]? = some (some u0)/\((G.is j=true/\∃i,j1 js j=some i/\ρi[i]? = some (some u))\/(u0=u/\(G.is j=false\/j1 js j=none))):=by
 unfold wb at h;rw[List.getElem?_mapIdx] at h;cases e:ρ[j]? with
 |none=>rw[e] at h;cases h
 |some x=>
  rw[e] at h;have h:=aaj h;cases x with
  |none=>simp at h
  |some u0=>
   refine⟨u0,rfl,?_⟩;dsimp only at h;by_cases c:G.is j=true
   ·rw[hV (by rw[c];rfl)] at h;split at h
    ·rename_i i hi;refine .inl ⟨c,i,hi,?_⟩;cases e2:ρi[i]? with
     |none=>rw[e2] at h;cases h
     |some y=>rw[e2] at h;simp at h;rw[h]
    ·rename_i hi;exact .inr ⟨aaj h,.inr hi⟩
   ·have c:G.is j=false:=ac5.mpr c;rw[hU (by rw[c];exact ZV)] at h;exact .inr ⟨aaj h,.inl c⟩
theorem cH.wb {σ4:St}(q:cH K G Z A ρ σ H)(ok:mx js=true)(q':cH K (o9 G js) (KG G js A ρ σ H) A ρi σ4 H')(ho:∀i,(o9 G js).is i=true->σ4[i]? = (tQ js σ)[i]?):cH K G Z A (L2.wb G js ρi ρ) σ H'/\fg A H H':=by
 have OE:∀a,GQ G js ρ σ a->A a/\Z.B a=none:=λa h00=>by
  obtain⟨i,j,u,h1,h2,h3,h4⟩:=h00;obtain⟨b,e1,e2,e3,_⟩:=q.own h2 h3;rw[h4] at e1;cases e1;exact⟨e2,e3⟩
 have ex:fg A H H':=λb o nb z=>q'.bas b o (by rw[mC λc=>nb (OE b c).1];exact z);refine⟨{
  slot:=λj u h=>?_
  dis:=λi k u w a ci ck ne hi hk si sk=>by
   obtain⟨u1,h1,_⟩:=yO hi;obtain⟨u2,h2,_⟩:=yO hk;exact q.dis i k u1 u2 a ci ck ne h1 h2 si sk
  mu:=q'.mu
  sup:=q.sup
  out:=q.out
  bas:=λa o h=>q'.bas a o (by
   rw[mC λc=>by rw[(OE a c).2] at h;cases h];exact q.bas a o h)
  io0:=q.io0
  len:=by unfold L2.wb;rw[List.length_mapIdx];exact q.len},ex⟩
 obtain⟨u0,h0,hh⟩:=yO h;rcases hh with⟨c,i,hi,hu⟩|⟨rfl,hc⟩
 ·have hj:=tV hi;obtain⟨a,e1,e2,e3,e4,_⟩:=q.own c h0;have ci:(o9 G js).is i=true:=by rw[qF hj];exact c
  obtain⟨a',k1,k2,_,_,k5⟩:=q'.own ci hu;rw[ho i ci,mB hj e1] at k1;cases k1;refine⟨.ref a,e1,?_⟩;rw[hV c];exact⟨a,rfl,e2,e3,e4,k5⟩
 ·obtain⟨v,h1,h2⟩:=q.slot j u0 h0;refine⟨v,h1,?_⟩;by_cases c:G.is j=true
  ·rw[hV c] at h2 ⊢;obtain⟨a,rfl,e2,e3,e4,e5⟩:=h2;have hc:j1 js j=none:=by
    rcases hc with hc|hc
    ·rw[c] at hc;cases hc
    ·exact hc
   have nc:¬GQ G js ρ σ a:=λh00=>by
    obtain⟨i,j',u,z1,z2,z3,z4⟩:=h00;have ne:j≠j':=λz=>by subst z;exact qH hc z1
    exact q.dis j j' u0 u a c z2 ne h0 z3 h1 z4
   exact⟨a,rfl,e2,e3,e4,e5.re q.mu ex (λb z=>.inl z) λo z=>q'.bas a o (by rw[mC nc];exact z)⟩
  ·rw[hU c] at h2 ⊢;exact h2.re q.mu ex λb z=>.inl z
end
noncomputable def Ma (f:U->R (Option U)):List U->R (List U)
 | []=>.ok []
 |u::us=>(f u).bind λo=>(Ma f us).bind λr=>.ok (match o with
  |some y=>y::r
  |none=>r)
noncomputable def Mb (js:List (Option Nat))(sg:U->Ev->R Ev)(gt:Ev->R (Bool×Ev))(ge:Ev->R (U×Ev))(ρ:Ev)(u:U):R (Option U):=
 (sg u (jz js ρ)).bind λρi=>(gt ρi).bind λc=>if c.1=true then (ge ρi).bind λy=>.ok (some y.1) else .ok none
noncomputable def d_ (gi:Ev->R (List U×Ev))(js:List (Option Nat))(sg:U->Ev->R Ev)(gt:Ev->R (Bool×Ev))(ge:Ev->R (U×Ev)):Ev->R (U×Ev):=λρ=>
 (gi ρ).bind λx=>(Ma (Mb js sg gt ge x.2) x.1).bind λys=>.ok (.lst ys,x.2)
noncomputable def nC (G:Gm)(js:List (Option Nat))(sg:U->Ev->R Ev)(gt:Ev->R (Bool×Ev))(ge:Ev->R (U×Ev)):List U->Ev->R (List U×Ev)
 | [],ρ=>.ok ([],ρ)
 |u::us,ρ=>(sg u (jz js ρ)).bind λρi=>(gt ρi).bind λc=>if c.1=true then (ge c.2).bind λy=>(nC G js sg gt ge us (wb G js y.2 ρ)).bind λr=>.ok (y.1::r.1,r.2) else nC G js sg gt ge us (wb G js c.2 ρ)
noncomputable def yP (G:Gm)(gi:Ev->R (List U×Ev))(js:List (Option Nat))(sg:U->Ev->R Ev)(gt:Ev->R (Bool×Ev))(ge:Ev->R (U×Ev)):Ev->R (U×Ev):=λρ=>
 (gi ρ).bind λx=>(nC G js sg gt ge x.1 x.2).bind λy=>.ok (.lst y.1,y.2)
theorem R.bind_ok {α β:Type}{x:R α}{k:α->R β}{b:β}(h:x.bind k=.ok b):∃a,x=.ok a/\k a=.ok b:=by
 cases x with
 |ok a=>exact⟨a,rfl,h⟩
 |exc=>cases h
 |stk=>cases h
section
variable {e:abE}{b1 b2 b3 p:Bool}{m me:Md}{gi:Ev->R (List U×Ev)}{gt:Ev->R (Bool×Ev)}{ge:Ev->R (U×Ev)}
theorem wV (ok:mx js=true)(hn:me≠.P){Q:VK}(h:tD X.K G b1 .O (d_ gi js sg gt ge) σ H Q) :
  Pj (QC X.K G b1 p gi) js (λ_=>QA X.K (o9 G js) sg) (λ_=>CH X.K (o9 G js) false gt) (λ_=>tD X.K (o9 G js) false me ge) σ H Q:=by
 obtain⟨Z,A,ρ,q,f⟩:=h;obtain⟨⟨us,ρ1⟩,e1,f⟩:=f.bind;obtain⟨all,e2,f⟩:=f.bind;refine⟨Z,A,ρ,q,?_⟩;rw[e1];intro J H1 q1 x1 s1 ⟨hz,wk⟩ Y;dsimp only at e2 f;refine⟨λi k ys H2=>i+k=us.length/\aQ H1 H2/\∃done rest,Ma (Mb js sg gt ge ρ1) (us.drop i)=.ok rest/\done++rest=all/\aK X.K H2 A done ys/\done.length<=i,
  ⟨us.length,by lia,aQ.refl _,[],all,by rw[ad8];exact e2,rfl,aK.nil,Z2 _⟩,?_⟩
 rintro i k ys H2 ⟨hk,sm,done,rest,e3,e4,rs,hd⟩;have q2:=q1.same sm;obtain⟨w1,w2⟩:=wk H2 A (by split;exact sm;exact fg.same sm) λb z=>.inl z;by_cases yp:i<us.length
 ·have eu:us[i]? = some us[i]:=ZM yp;obtain⟨go,yl⟩:=w1 i _ eu;rw[aa8 yp] at e3;unfold Ma at e3;obtain⟨o,e5,e3⟩:=R.bind_ok e3;obtain⟨r,e6,e3⟩:=R.bind_ok e3;unfold Mb at e5;obtain⟨ρi,e7,e5⟩:=R.bind_ok e5;obtain⟨⟨c,ρc⟩,e8,e5⟩:=R.bind_ok e5;refine .inr ⟨go,by rw[←rs.length];lia,λJM H'=>aQ H1 H'/\∃done,done++r=all/\aK X.K H' A done JM/\done.length<=i+1,λJM H' ⟨z1,dn,z2,z3,z4⟩=>⟨k-1,by lia,by lia,z1,dn,r,e6,z2,z3,z4⟩,λx H3 y=>?_⟩;obtain⟨sm3,rp⟩:=yl x H3 y;refine⟨_,A,jz js ρ1,us[i],(Aj (q2.same sm3) ok),rp,?_⟩;rw[e7];intro σ4 q4 _;refine⟨_,A,ρi,q4,?_⟩;rw[e8];intro H5 q5 x5 s5;obtain⟨rfl,JL⟩:=s5 rfl;cases c with
  |false=>
   rw[hU ZV] at e5 ⊢;cases e5;cases e3;exact⟨(sm.trans sm3).trans JL,done,e4,(rs.same sm3).same JL,by lia⟩
  |true=>
   rw[hV rfl] at e5 ⊢;obtain⟨⟨y1,ρy⟩,e9,e5⟩:=R.bind_ok e5;cases e5;cases e3;refine⟨_,A,ρc,q5,?_⟩;rw[e9];intro v H6 q6 x6 s6 vm;obtain⟨rfl,sm6⟩:=s6 rfl;have WN:=sm3.trans (JL.trans sm6);exact⟨sm.trans WN,done++[y1],by rw[aao];exact e4,(rs.same WN).append (aK.cons (vm.rp hn) aK.nil),by rw[ZZ];simp;lia⟩
 ·have e:i=us.length:=by lia
  subst e;rw[adm] at e3;cases e3;rw[aaF] at e4;subst e4;refine .inl ⟨w2,λa na=>?_⟩;have sn:=de na (.lst ys);exact f _ _ (q2.same sn) ((x1.trans (fg.same sm)).trans (fg.same sn)) (o8 (o8 s1 sm) sn) (CG.e q2 sn ⟨a,rfl,na,bZ q2.mu rs na (by lia)⟩)
theorem wW (ok:mx js=true)(hn:me≠.P){Q:VK}(h:tD X.K G true .O (yP G gi js sg gt ge) σ H Q) :
  Pj (QC X.K G b1 false gi) js (λ_=>QA X.K (o9 G js) sg) (λ_=>CH X.K (o9 G js) b2 gt) (λ_=>tD X.K (o9 G js) b3 me ge) σ H Q:=by
 obtain⟨Z,A,ρ,q,f⟩:=h;obtain⟨⟨us,ρ1⟩,e1,f⟩:=f.bind;obtain⟨⟨all,ρe⟩,e2,f⟩:=f.bind;refine⟨Z,A,ρ,q,?_⟩;rw[e1];intro J H1 q1 x1 s1 ⟨hz,wk⟩ Y;dsimp only at e2 f;refine⟨λi k ys H2=>i+k=us.length/\fg A H1 H2/\∃ρ2 done rest,cH X.K G Z A ρ2 σ H2/\nC G js sg gt ge (us.drop i) ρ2=.ok (rest,ρe)/\done++rest=all/\aK X.K H2 A done ys/\done.length<=i,
  ⟨us.length,by lia,fg.refl,ρ1,[],all,q1,by rw[ad8];exact e2,rfl,aK.nil,Z2 _⟩,?_⟩
 rintro i k ys H2 ⟨hk,ex,ρ2,done,rest,q2,e3,e4,rs,hd⟩;obtain⟨w1,w2⟩:=wk H2 A (by rw[hU ZV];exact ex) λb z=>.inl z;by_cases yp:i<us.length
 ·have eu:us[i]? = some us[i]:=ZM yp;obtain⟨go,yl⟩:=w1 i _ eu;rw[aa8 yp] at e3;unfold nC at e3;obtain⟨ρi,e7,e3⟩:=R.bind_ok e3;obtain⟨⟨c,ρc⟩,e8,e3⟩:=R.bind_ok e3;refine .inr ⟨go,by rw[←rs.length];lia,λJM H'=>fg A H1 H'/\∃ρ2 done rest,cH X.K G Z A ρ2 σ H'/\nC G js sg gt ge (us.drop (i+1)) ρ2=.ok (rest,ρe)/\done++rest=all/\aK X.K H' A done JM/\done.length<=i+1,λJM H' z=>⟨k-1,by lia,by lia,z⟩,λx H3 y=>?_⟩;obtain⟨sm3,rp⟩:=yl x H3 y;have q3:=q2.same sm3;refine⟨KG G js A ρ2 σ H3,A,jz js ρ2,us[i],KI q3 ok,rp,?_⟩;rw[e7];intro σ4 q4 o4;refine⟨_,A,ρi,q4,?_⟩;rw[e8];intro H5 q5 x5 s5;dsimp only at e3;cases c with
  |false=>
   rw[hU ZV] at e3 ⊢;obtain⟨q6,x6⟩:=q3.wb ok q5 o4;exact⟨ex.trans ((fg.same sm3).trans x6),_,done,rest,q6,e3,e4,(rs.same sm3).re q3.mu x6 (λb z=>.inl z),by lia⟩
  |true=>
   rw[hV rfl] at e3 ⊢;obtain⟨⟨y1,ρy⟩,e9,e3⟩:=R.bind_ok e3;obtain⟨⟨r,ρr⟩,e10,e3⟩:=R.bind_ok e3;cases e3;refine⟨_,A,ρc,q5,?_⟩;rw[e9];intro v H6 q6 x6 s6 vm;obtain⟨q7,x7⟩:=q3.wb ok q6 o4;exact⟨ex.trans ((fg.same sm3).trans x7),_,done++[y1],r,q7,e10,by rw[aao];exact e4,((rs.same sm3).re q3.mu x7 (λb z=>.inl z)).append (aK.cons (vm.rp hn) aK.nil),by rw[ZZ];simp;lia⟩
 ·have e:i=us.length:=by lia
  subst e;rw[adm] at e3;cases e3;rw[aaF] at e4;subst e4;refine .inl ⟨w2,λa na=>?_⟩;have sn:=de na (.lst ys);exact f _ _ (q2.same sn) ((x1.trans ex).trans (fg.same sn)) (λz=>nomatch z) (CG.e q2 sn ⟨a,rfl,na,bZ q2.mu rs na (by lia)⟩)
structure BM (X:Cx)(G:Gm)(oX:List abE)(b:Bool)(h:Ev->R (Bool×Ev)):Prop where
 un:BG X oX (CH X.K G b h)
noncomputable def f_:Ev->R (Bool×Ev):=λρ=>.ok (true,ρ)
theorem bN:BM X G [] false f_:=⟨λpins s σ H Q I ⟨Z,A,ρ,q,f⟩=>Dk pins s σ H Q I (f H q fg.refl λ_=>⟨rfl,aQ.refl _⟩)⟩
theorem fD {h:Ev->R (Bool×Ev)}(hc:DT X G e b1 h):BM X G [e] b1 h:=⟨Dl hc.un⟩
theorem eQ (jP:ae2)(NX N:List Str)(js:List (Option Nat))(hc:X.calm=true)(hi:DI X G tg iter b1 p gi)(sD:∀Y:o7,DG (d8 X scope N Y) (o9 G js) tg sg/\BM (d8 X scope N Y) (o9 G js) oX false gt/\DE (d8 X scope N Y) (o9 G js) elt false me ge)(hn:me≠.P:=by decide)(ok:mx js=true:=by rfl)(jV:X.env.scope=jP:=by rfl)(FQ:X.N=NX:=by rfl)(hS:qg jP NX scope N js=true:=by decide+kernel)(hs:∀x,abj iter X.env x=pure x:=by intro _;rfl):DE X G (.ListComp elt [⟨tg,iter,oX,0⟩] scope pos) b1 .O (d_ gi js sg gt ge):=⟨(Ig jP NX N js hc hi.un (λY=>⟨(sD Y).1.un,(sD Y).2.1.un,(sD Y).2.2.un⟩) jV FQ hS hs).to λ_ _ _=>wV ok hn⟩
theorem KJ (jP:ae2)(NX N:List Str)(js:List (Option Nat))(hc:X.calm=true)(hi:DI X G tg iter b1 false gi)(sD:∀Y:o7,DG (d8 X scope N Y) (o9 G js) tg sg/\BM (d8 X scope N Y) (o9 G js) oX b2 gt/\DE (d8 X scope N Y) (o9 G js) elt b3 me ge)(hn:me≠.P:=by decide)(ok:mx js=true:=by rfl)(jV:X.env.scope=jP:=by rfl)(FQ:X.N=NX:=by rfl)(hS:qg jP NX scope N js=true:=by decide+kernel)(hs:∀x,abj iter X.env x=pure x:=by intro _;rfl):DE X G (.ListComp elt [⟨tg,iter,oX,0⟩] scope pos) true .O (yP G gi js sg gt ge):=⟨(Ig jP NX N js hc hi.un (λY=>⟨(sD Y).1.un,(sD Y).2.1.un,(sD Y).2.2.un⟩) jV FQ hS hs).to λ_ _ _=>wW ok hn⟩
variable {lh jW:Pos}
theorem eH (jP:ae2)(NX N:List Str)(js:List (Option Nat))(hN:X.N.Nodup)(hc:X.calm=true)(hi:DI X G tg iter b1 p gi)(sD:∀Y:o7,DG (d8 X scope N Y) (o9 G js) tg sg/\BM (d8 X scope N Y) (o9 G js) oX false gt/\DE (d8 X scope N Y) (o9 G js) elt false me ge)(hx:X.N[i]? = some x:=by rfl)(hl:FZ X.env.scope x:=by first|exact Or.inl rfl|exact Or.inr rfl)(c:G.is i=false:=by rfl)(hn:me≠.P:=by decide)(ok:mx js=true:=by rfl)(jV:X.env.scope=jP:=by rfl)(FQ:X.N=NX:=by rfl)(hS:qg jP NX scope N js=true:=by decide+kernel)(hw:ad_ (.ListComp elt [⟨tg,iter,oX,0⟩] scope jW) (some (.Name x lh)) pos.line X.env=pure true:=by rfl)(hf:X.fn x=true\/X.env.scope.names.lookup x=some .local:=by first|exact .inl rfl|exact .inr rfl|assumption)(hs:∀x,abj iter X.env x=pure x:=by intro _;rfl):DS X G m (.Assign [.Name x lh] (.ListComp elt [⟨tg,iter,oX,0⟩] scope jW) pos) (bj i (d_ gi js sg gt ge)):=⟨(wI jP NX N js hN hx hl hc hi.un (λY=>⟨(sD Y).1.un,(sD Y).2.1.un,(sD Y).2.2.un⟩) jV FQ hS hw hf hs).to λ_ _ _=>wU (b1:=b1) c (by decide) λ_ _ _=>wV ok hn⟩
theorem yQ (jP:ae2)(NX N:List Str)(js:List (Option Nat))(hN:X.N.Nodup)(hc:X.calm=true)(hi:DI X G tg iter b1 false gi)(sD:∀Y:o7,DG (d8 X scope N Y) (o9 G js) tg sg/\BM (d8 X scope N Y) (o9 G js) oX b2 gt/\DE (d8 X scope N Y) (o9 G js) elt b3 me ge)(h0:G.io=true->i≠0:=by decide)(hx:X.N[i]? = some x:=by rfl)(hl:FZ X.env.scope x:=by first|exact Or.inl rfl|exact Or.inr rfl)(c:G.is i=true:=by rfl)(hn:me≠.P:=by decide)(ok:mx js=true:=by rfl)(jV:X.env.scope=jP:=by rfl)(FQ:X.N=NX:=by rfl)(hS:qg jP NX scope N js=true:=by decide+kernel)(hw:ad_ (.ListComp elt [⟨tg,iter,oX,0⟩] scope jW) (some (.Name x lh)) pos.line X.env=pure true:=by rfl)(hf:X.fn x=true\/X.env.scope.names.lookup x=some .local:=by first|exact .inl rfl|exact .inr rfl|assumption)(hs:∀x,abj iter X.env x=pure x:=by intro _;rfl):DS X G m (.Assign [.Name x lh] (.ListComp elt [⟨tg,iter,oX,0⟩] scope jW) pos) (bj i (yP G gi js sg gt ge)):=⟨(wI jP NX N js hN hx hl hc hi.un (λY=>⟨(sD Y).1.un,(sD Y).2.1.un,(sD Y).2.2.un⟩) jV FQ hS hw hf hs).to λ_ _ _=>tU (b1:=true) c h0 λ_ _ _=>wW (b1:=b1) (b2:=b2) (b3:=b3) ok hn⟩
end
end L2
namespace L2
noncomputable def jR (n:Nat)(us:List U):Ev:=us.map some++ad5 (n-us.length) none
noncomputable def eh (m:Md)(n:Nat)(s:Ev->SR):List U->R U:=λus=>match s (jR n us) with
 | .rt u _=>.ok u
 | .nx _=>if m=.S then .ok .non else .stk
 | .exc c u=>.exc c u
 |_=>.stk
noncomputable def yR (n:Nat)(s:Ev->SR):List U->R (U×U):=λus=>match s (jR n us) with
 | .rt u ρ=>match ρ[0]? with
  |some (some w)=>.ok (u,w)
  |_=>.stk
 | .nx ρ=>match ρ[0]? with
  |some (some w)=>.ok (.non,w)
  |_=>.stk
 | .exc c u=>.exc c u
 |_=>.stk
theorem mD (h:(jR n us)[i]? = some (some u)):us[i]? = some u:=by
 unfold jR at h;by_cases c:i<(us.map some).length
 ·rw[aa7 c,aay] at h;cases e:us[i]? with
  |none=>rw[e] at h;cases h
  |some w=>rw[e] at h;simp at h;rw[h]
 ·rw[aaQ (by lia),List.getElem?_replicate] at h;split at h
  ·cases h
  ·cases h
theorem kG (h:vs[i]? = some v):(adD N vs)[i]? = some (some v):=by
 unfold adD;have c:i<(vs.map some).length:=by rw[ZW];exact (Z0.mp h).1
 rw[aa7 c,aay,h];rfl
theorem Ak (h:us.length=vs.length):(jR N.length us).length=(adD N vs).length:=by
 unfold jR adD;rw[ZZ,ZZ,ZW,ZW,acQ,acQ,h]
section
variable {base:acj}
theorem uZ (G:Gm)(m:Md)(s:Ev->SR)(F5:G.io=false)(pK:∀i,i<ps.length->G.is i=false)(iJ:∀(f:Z5) (br:ZO) (A:aaD) (outer:List Env) (s0:Z8) (H:Hp) (E:XK),fX k (A.deeper (aeN x (ag st) s0.heap.objs.size f br))->
   yN (o3 wF P w K mg base N x (ag st) f br A outer s0 H E).nox G m (ar st) s) :
  (∀vs H Q E,gr K ps.length (eh m N.length s) m vs H Q E->vs.length=ps.length)/\∀(f:Z5) (br:ZO) (A:aaD) (outer:List Env) (s0:Z8) (H:Hp) (vs:List V) (Q:VK) (E:XK),fX k (A.deeper (aeN x (ag st) s0.heap.objs.size f br))->gr K ps.length (eh m N.length s) m vs H Q E->
   ∃t,sJ (o3 wF P w K mg base N x (ag st) f br A outer s0 H E).nox (ar st) t/\t {nx:=λ_ H'=>Q .non H',rt:=Q} (adD N vs) H:=by
 have hl:∀(us:List U) (A:Z5->Prop) (H:Hp) (Q:VK),M5 K m A H (yM ps.length (eh m N.length s) us) Q->us.length=ps.length:=λus A H Q h=>by
  unfold yM at h;split at h
  ·assumption
  ·exact h.elim
 refine⟨λvs H Q E ⟨us,A,r,_,h⟩=>by rw[←r.length];exact hl us A H Q h,λf br A outer s0 H vs Q E hr ⟨us,A0,r,mu,h⟩=>⟨_,(iJ f br A outer s0 H E hr).un,?_⟩⟩;have l:=hl us A0 H Q h;unfold yM at h;rw[hV l] at h;refine⟨⟨A0,H,0⟩,A0,jR N.length us,?_,?_⟩
 ·exact {
   slot:=λi u hu=>by
    have hu:=mD hu;obtain⟨v,h1,h2⟩:=r.get hu;refine⟨v,kG h1,?_⟩;rw[hU (by rw[pK i (by rw[←l];exact (Z0.mp hu).1)];exact ZV)];exact h2
   dis:=λi j u w a ci cj ne hi hj si sj=>by
    rw[pK i (by rw[←l];exact (Z0.mp (mD hi)).1)] at ci;cases ci
   mu:=mu
   sup:=λa h=>h
   out:=λa h=>.inl h
   bas:=λa o h=>h
   io0:=λh=>by rw[F5] at h;cases h
   len:=Ak r.length}
 ·unfold eh at h;cases e:s (jR N.length us) with
  |nx ρ'=>
   rw[e] at h;dsimp only at h;intro A' σ' H' q;split at h
   ·rename_i hm;subst hm;exact h _ H' q.bas (show Rp K H' A0 .non .non from qz)
   ·exact h.elim
  |rt u ρ'=>
   rw[e] at h;intro A' σ' H' v q vm;refine h v H' q.bas ?_;cases m with
   |S=>exact vm
   |P=>exact vm.elim
   |O=>
    obtain⟨a,e1,e2,e3,e4⟩:=vm;exact⟨a,e1,e2,e4⟩
  |bk=>rw[e] at h;exact h.elim
  |ct=>rw[e] at h;exact h.elim
  |exc=>rw[e] at h;exact h.elim
  |stk=>rw[e] at h;exact h.elim
theorem Df.fnD (G:Gm)(m:Md)(s:Ev->SR)(d:Df K mg x st)(S:aV N ps (ag st))(hb:∀(kV dC pm:ZO) (an:Option Z5) (br ct:ZO) (us:List ZO),us.length=ps.length->aaZ (Z1 x x (aw st) (ar st) (ag st) .none kV dC pm an br ct) ⟨us,[]⟩=pure (ps.zip us))(F5:G.io=false)(pK:∀i,i<ps.length->G.is i=false)(iJ:∀(f:Z5) (br:ZO) (A:aaD) (outer:List Env) (s0:Z8) (H:Hp) (E:XK),fX k (A.deeper (aeN x (ag st) s0.heap.objs.size f br))->
   yN (o3 wF P w K mg base N x (ag st) f br A outer s0 H E).nox G m (ar st) s):Fn P w K mg base x (k+1) ps (gr K ps.length (eh m N.length s) m):=
 d.fn S hb (uZ G m s F5 pK iJ).1 (uZ G m s F5 pK iJ).2
theorem F1.okD (G:Gm)(m:Md)(s:Ev->SR)(F:F1 K x x st f fd)(S:aV N ps (ag st))(F5:G.io=false)(pK:∀i,i<ps.length->G.is i=false)(iJ:∀(f:Z5) (br:ZO) (A:aaD) (outer:List Env) (s0:Z8) (H:Hp) (E:XK),fX k (A.deeper (aeN x (ag st) s0.heap.objs.size f br))->
   yN (o3 wF P w K mg base N x (ag st) f br A outer s0 H E).nox G m (ar st) s):kW P w K mg base wF (k+1) f fd ps (gr K ps.length (eh m N.length s) m):=
 F.ok S (uZ G m s F5 pK iJ).1 ((uZ G m s F5 pK iJ).2 f)
def wX (K:ZQ):Sp:=λvs H Q _=>∃(a:Z5) (ns:List Int),vs=[.ref a]/\GG K H a (ns.map V.int)/\ns.length<=63/\∀H',Q (.bl true) H'
theorem KL (hO:Gy H)(h:fS K H a xs):GG K H a xs:=by
 rcases h with (h|h)|h
 ·rcases hO a with z|⟨o,ys,z⟩
  ·rw[h] at z;cases z
  ·rw[h] at z;cases z
 ·exact .inl h
 ·exact .inr h
theorem wY {H:Hp}{A:Z5->Prop}:∀(ns:List Int),aK K H A (ns.map .int) (ns.map V.int)
 | []=>aK.nil
 |n::ns=>aK.cons eP (wY ns)
theorem KN {f:List U->R U}{fa:Z5}(F:kW P w K mg base wF k fa fd ["script"] (gr K 1 f .S))(h:∀ns:List Int,ns.length<=63->f [.scr (ns.map .int)]=.ok (.bl true)):kW P w K mg base wF k fa fd ["script"] (wX K):=by
 refine F.imp λvs H Q E ⟨a,ns,e,sc,l,q⟩=>?_;subst e;have hl:(ns.map U.int).length<=ZY:=by rw[ZW];have:ZY=16777216:=rfl;lia
 refine⟨[.scr (ns.map .int)],λ_=>False,aK.cons ?_ aK.nil,λ_ h=>h.elim,?_⟩
 ·unfold Rp;exact⟨a,_,rfl,sc,hl,wY ns⟩
 ·have e:yM 1 f [.scr (ns.map .int)]=.ok (.bl true):=(hV rfl).trans (h ns l);rw[e];intro v H' sm vm;have vm:Rp K H' (λ_=>False) (.bl true) v:=vm;unfold Rp at vm;subst vm;exact q H'
theorem Df.fnI (G:Gm)(s:Ev->SR)(d:Df K mg x st)(S:aV N ps (ag st))(hb:∀(kV dC pm:ZO) (an:Option Z5) (br ct:ZO) (us:List ZO),us.length=ps.length->aaZ (Z1 x x (aw st) (ar st) (ag st) .none kV dC pm an br ct) ⟨us,[]⟩=pure (ps.zip us))(F5:G.io=true)(h0:G.is 0=true)(pK:∀i,i<ps.length->i≠0->G.is i=false)(iJ:∀(f:Z5) (br:ZO) (A:aaD) (outer:List Env) (s0:Z8) (H:Hp) (E:XK),fX k (A.deeper (aeN x (ag st) s0.heap.objs.size f br))->
   yN (o3 wF P w K mg base N x (ag st) f br A outer s0 H E).nox G .S (ar st) s):Fn P w K mg base x (k+1) ps (DH K ps.length (yR N.length s)):=by
 refine d.fn S hb ?_ ?_
 ·rintro vs H Q E ⟨u0,us,a0,vs',A,rfl,_,_,r,_,h⟩;unfold yM at h;split at h
  ·rename_i e;split at e
   ·rename_i l;rw[ZT,←r.length,←l];rfl
   ·cases e
  ·exact h.elim
 ·rintro f br A outer s0 H vs Q E hr ⟨u0,us,a0,vs',A0,rfl,ha,t0,r,mu,h⟩;refine⟨_,(iJ f br A outer s0 H E hr).un,?_⟩;have l:(u0::us).length=ps.length:=by
   unfold yM at h;by_cases c:(u0::us).length=ps.length
   ·exact c
   ·rw[hU c] at h;exact h.elim
  unfold yM at h;rw[hV l] at h
  let Z:Pkg:=⟨A0,λb=>if b=a0 then none else H b,a0⟩
  have zb:∀b o,b≠a0->H b=some o->Z.B b=some o:=λb o nb z=>by
   show (if b=a0 then none else H b)=some o;rw[hU nb];exact z
  have rel:cH K G Z A0 (jR N.length (u0::us)) (adD N (.ref a0::vs')) H:={
   slot:=λi u hu=>by
    have hu:=mD hu;cases i with
    |zero=>
     simp at hu;subst hu;refine⟨.ref a0,kG (by simp),?_⟩;rw[hV h0];exact⟨a0,rfl,ha,by show (if a0=a0 then none else H a0)=none;rw[hV rfl],.inr ⟨F5,rfl⟩,t0⟩
    |succ i=>
     have hl:=(Z0.mp hu).1;rw[aa1] at hu;obtain⟨v,h1,h2⟩:=r.get hu;refine⟨v,kG (by rw[aa1];exact h1),?_⟩;rw[hU (by rw[pK (i+1) (by rw[←l];exact hl) (by lia)];exact ZV)];exact h2
   dis:=λi j u w a ci cj ne hi hj si sj=>by
    have hi:=(Z0.mp (mD hi)).1;have hj:=(Z0.mp (mD hj)).1;by_cases e:i=0
    ·rw[pK j (by rw[←l];exact hj) (by lia)] at cj;cases cj
    ·rw[pK i (by rw[←l];exact hi) e] at ci;cases ci
   mu:=mu
   sup:=λa h=>h
   out:=λa h=>.inl h
   bas:=λa o h=>by
    by_cases c:a=a0
    ·have h:(if a=a0 then none else H a)=some o:=h;rw[hV c] at h;cases h
    ·have h:(if a=a0 then none else H a)=some o:=h;rw[hU c] at h;exact h
   io0:=λ_=>⟨kG (vs:=.ref a0::vs') (i:=0) (v:=.ref a0) rfl,h0⟩
   len:=Ak (by rw[ZT,ZT,r.length])}
  have fin:∀(A':Z5->Prop) (ρ':Ev) (σ':St) (H':Hp) (w:U),cH K G Z A' ρ' σ' H'->ρ'[0]? = some (some w)->(∀b o,b≠a0->H b=some o->H' b=some o)/\j0 K H' A0 w a0:=λA' ρ' σ' H' w q hw=>by
   obtain⟨a,e1,e2,e3,e4,e5⟩:=q.own h0 hw;rw[(q.io0 F5).1] at e1;cases e1;exact⟨λb o nb z=>q.bas b o (zb b o nb z),e5.mono q.sup⟩
  refine⟨Z,A0,_,rel,?_⟩;unfold yR at h;cases e:s (jR N.length (u0::us)) with
  |nx ρ'=>
   rw[e] at h;dsimp only at h;intro A' σ' H' q;split at h
   ·rename_i hm;split at hm
    ·rename_i w hw;cases hm;obtain⟨z1,z2⟩:=fin A' ρ' σ' H' _ q hw;exact h _ H' z1 z2 qz
    ·cases hm
   ·exact h.elim
  |rt u ρ'=>
   rw[e] at h;dsimp only at h;intro A' σ' H' v q vm;split at h
   ·rename_i hm;split at hm
    ·rename_i w hw;cases hm;obtain⟨z1,z2⟩:=fin A' ρ' σ' H' _ q hw;exact h _ H' z1 z2 vm
    ·cases hm
   ·exact h.elim
  |bk=>rw[e] at h;exact h.elim
  |ct=>rw[e] at h;exact h.elim
  |exc=>rw[e] at h;exact h.elim
  |stk=>rw[e] at h;exact h.elim
end
section
variable {e e2:abE}{p1 p2:Pos}{y:Str}{b1 b2:Bool}{m m1 m2:Md}{g1 g2:Ev->R (U×Ev)}
noncomputable def qI (i:Nat)(gv gk:Ev->R (U×Ev)):Ev->SR:=λρ=>SR.of (gv ρ) λx=>if live x.2 i=true then SR.of (gk x.2) λy=>match y.1 with
 | .int k=>match y.2[i]? with
  |some (some (.lst us))=>match CD us.length k with
   |some j=>.nx (y.2.set i (some (.lst (us.set j x.1))))
   |none=>.stk
  |_=>.stk
 |_=>.stk
 else .stk
theorem mE (he:DE X G e b1 m1 g1)(hk:DE X G e2 b2 m2 g2)(hn:m1≠.P:=by decide)(hN:X.N[i]? = some y:=by rfl)(hv:F9 X.env.scope y:=by first|exact Or.inl rfl|exact Or.inr (Or.inl rfl)|exact Or.inr (Or.inr rfl))(c:G.is i=true:=by rfl)(hd:(y==("__debug__":Str))=false:=by decide)(sv:(y==("__classdict__":Str))=false:=by decide)(ha:∀v,assign (.Subscript (.Name y p1) e2 p2) X.env v=(do
   let ov ←holding [v] (ade (.Name y p1) X.env)
   let iv ←holding [v,ov] (ade e2 X.env)
   standAt p2
   holding [v,ov,iv] (setItem ov iv v)
   release [v,ov,iv] []):=by intro _;rfl)(hs:aei [.Subscript (.Name y p1) e2 p2] e pos.line X.env=pure false:=by rfl)(hw:aej [.Subscript (.Name y p1) e2 p2] e X.env=pure none:=by rfl)(h1:(acv [.Subscript (.Name y p1) e2 p2] X.env).map (·.2)=[assign (.Subscript (.Name y p1) e2 p2) X.env]:=by rfl):DS X G m (.Assign [.Subscript (.Name y p1) e2 p2] e pos) (qI i g1 g2):=⟨(CQ he.un (J7 (lG hN hv hd sv) hk.un C9 ha) hs hw h1).to λD σ H h00=>by
 obtain⟨Z,A,ρ,q,f⟩:=h00;obtain⟨⟨u,ρ1⟩,e1,f⟩:=f.of;refine⟨Z,A,ρ,q,?_⟩;rw[e1];intro v H1 q1 x1 s1 vm;dsimp only at f;split at f
 ·rename_i hl;obtain⟨u00,hu0⟩:=Af hl;obtain⟨a0,h0,_⟩:=q1.own c hu0;obtain⟨⟨k,ρ2⟩,e2,f⟩:=f.of;refine⟨.ref a0,h0,Z,A,ρ1,q1,?_⟩;rw[e2];intro v2 H2 q2 x2 s2 uM;dsimp only at f;cases k with
  |int kk=>
   dsimp only at f;split at f
   ·rename_i us hu;split at f
    ·rename_i j hj;obtain⟨a0',k1,k2,_,_,k5⟩:=q2.own c hu;rw[h0] at k1;cases k1;obtain⟨xs,t1,t2,t3⟩:=k5;refine⟨a0,xs,kk,j,rfl,uM.pk.int,t1,by rw[←t3.length];exact hj,?_⟩;have em:∀b o,b≠a0->H2 b=some o->c_ H2 a0 (.lst (xs.set j v)) b=some o:=λb o nb z=>by rw[bp nb];exact z
     have ex:fg A H2 (c_ H2 a0 (.lst (xs.set j v))):=λb o nb z=>em b o (λy=>nb (y▸k2)) z;refine f A σ _ (q2.put c hu h0 em ⟨xs.set j v,bS,by rw[aa5];exact t2,?_⟩);exact (t3.re q2.mu ex λb z=>.inl z).set j (((vm.rp hn).re q1.mu x2 λb z=>.inl z).re q2.mu ex λb z=>.inl z)
    ·exact f.elim
   ·exact f.elim
  |_=>exact f.elim
 ·exact f.elim⟩
noncomputable def QD (i:Nat)(p:U->U->R U)(g:Ev->R (U×Ev)):Ev->SR:=λρ=>match ρ[i]? with
 |some (some u)=>SR.of (g ρ) λy=>SR.of (p u y.1) λz=>.nx (y.2.set i (some z))
 |_=>.stk
end
end L2
namespace L2
def DU:R2:=λx y H Q=>∃l b xs zs,x=.ref l/\y=.ref b/\H l=some (.lst xs)/\H b=some (.lst zs)/\xs.length+zs.length<=ZY/\∀p,H p=none->Q (.ref p) (c_ H p (.lst (xs++zs)))
theorem GR:jQ X (adj .Add) DU:=by
 intro pins s σ H x y v u Q I rx ry h;obtain⟨l,b,xs,zs,rfl,rfl,hH,hB,hz,q⟩:=h;cases rx;cases ry;obtain⟨z,its,n,r,hl,e⟩:=I.lstM hH;obtain⟨z2,its2,n2,r2,LO,e2⟩:=I.lstM hB;refine PySem.P.add_list e e2 ?_ (by rw[ZU,ZU];lia);have ea:its.toArray++its2.toArray=(its++its2).toArray:=by simp
 rw[ea];exact⟨.ref _,_,I.lnew (t':=s.toks) (r.append r2) (by rw[ZZ];lia),rfl,q _ I.fresh⟩
noncomputable def fV:U->U->R U:=λu w=>match u,w with
 | .int i,.int j=>.ok (.int (i+j))
 | .tup a,.tup b=>if a.length+b.length<=ZY then .ok (.tup (a++b)) else .stk
 | .lst a,.lst b=>if a.length+b.length<=ZY then .ok (.lst (a++b)) else .stk
 |_,_=>.stk
noncomputable def KO:U->U->R U:=λu w=>match u,w with
 | .lst a,.lst b=>if a.length+b.length<=ZY then .ok (.lst (a++b)) else .stk
 |_,_=>.stk
def Ih:R2:=λx y H Q=>(yu λi j=>.int (i+j)) x y H Q\/Du x y H Q\/DU x y H Q
theorem bU:jQ X (adj .Add) Ih:=Kc.or (Dv.or GR)
theorem GU:fU K DU .O KO:=λA H x y u w z Q hx hy mu e q=>by
 unfold KO at e;split at e
 ·split at e
  ·rename_i hl;cases e;unfold Pk at hx hy;obtain⟨a,xs,rfl,h1,l1,r1⟩:=hx;obtain⟨b,ys,rfl,h2,l2,r2⟩:=hy;exact⟨a,b,xs,ys,rfl,rfl,h1,h2,by rw[←r1.length,←r2.length];exact hl,λp hp=>q _ _ (de hp _) ⟨p,rfl,hp,bZ mu (r1.append r2) hp (by rw[ZZ];exact hl)⟩⟩
  ·cases e
 ·cases e
theorem bV:fU K Ih .S fV:=λA H x y u w z Q hx hy mu e q=>by
 unfold fV at e;split at e
 ·cases e;exact .inl ⟨_,_,hx.int,hy.int,q _ H (aQ.refl _) (show Rp K H A _ _ from eP)⟩
 ·split at e
  ·rename_i hl;cases e;unfold Pk at hx hy;obtain⟨a,xs,rfl,h1,l1,r1⟩:=hx;obtain⟨b,ys,rfl,h2,l2,r2⟩:=hy;refine .inr (.inl ⟨a,b,xs,ys,rfl,rfl,h1,h2,by rw[←r1.length,←r2.length];exact hl,λr H' sm hr=>q _ H' sm (show Rp K H' A _ _ from ?_)⟩);unfold Rp;exact⟨r,_,rfl,hr,by rw[ZZ];exact hl,(r1.append r2).same sm⟩
  ·cases e
 ·refine .inr (.inr (GU A H x y _ _ z Q hx hy mu (show KO (.lst _) (.lst _)=_ from e) λv H' sm vm=>q v H' sm ?_));obtain⟨a,rfl,na,t⟩:=vm;exact t.rp (λb h=>.inl h) λh=>by have:=mu a h;rw[na] at this;exact this
 ·cases e
noncomputable def pI (c:Int->Int->Bool)(f:Int->Int->Int):U->U->R U:=λu w=>match u,w with
 | .int i,.int j=>if c i j=true then .ok (.int (f i j)) else .stk
 |_,_=>.stk
theorem Al {C:Int->Int->Prop}{c:Int->Int->Bool}{f:Int->Int->Int}(h:∀i j,c i j=true->C i j):fU K (rI C λi j=>.int (f i j)) .S (pI c f):=λA H x y u w z Q hx hy mu e q=>by
 unfold pI at e;split at e
 ·rename_i i j;split at e
  ·rename_i hc;cases e;exact⟨i,j,hx.int,hy.int,h i j hc,q _ H (aQ.refl _) (show Rp K H A _ _ from eP)⟩
  ·cases e
 ·cases e
noncomputable def wZ:U->U->R U:=λu w=>match u,w with
 | .int i,.int j=>.ok (.int (i-j))
 |_,_=>.stk
theorem pO:fU K (yu λi j=>.int (i-j)) .S wZ:=λA H x y u w z Q hx hy mu e q=>by
 unfold wZ at e;split at e
 ·cases e;exact⟨_,_,hx.int,hy.int,q _ H (aQ.refl _) (show Rp K H A _ _ from eP)⟩
 ·cases e
noncomputable def o_ (i j:Int):Bool:=(decide (-(2 ^ 64)<i)&&decide (i<2 ^ 64))||(decide (-(2 ^ 64)<j)&&decide (j<2 ^ 64))
noncomputable def eo:U->U->R U:=pI o_ (·*·)
theorem cP:fU K (rI Gh λi j=>.int (i*j)) .S eo:=Al λi j h=>by
 unfold o_ at h;simp only[adM,aae,decide_eq_true_eq] at h;exact h
noncomputable def yS (_ j:Int):Bool:=decide (0<j)&&decide (j<18446744073709551616)
noncomputable def og:U->U->R U:=pI yS (· / ·)
theorem jl:fU K (rI Dn λi j=>.int (i / j)) .S og:=Al λi j h=>by
 unfold yS at h;simp only[aae,decide_eq_true_eq] at h;exact h
noncomputable def u4:U->U->R U:=pI (λ_ j=>decide (0<j)) (· % ·)
theorem jA:fU K (rI (λ_ j=>0<j) λi j=>.int (i % j)) .S u4:=Al λi j h=>of_decide_eq_true h
noncomputable def GV (i j:Int):Bool:=decide (0<=j)&&decide (j<=1000000)&&decide (i.natAbs<2 ^ 64)
noncomputable def GW:U->U->R U:=pI GV λi j=>i ^ j.toNat
theorem Am:fU K (rI MC λi j=>.int (i ^ j.toNat)) .S GW:=Al λi j h=>by
 unfold GV at h;simp only[aae,decide_eq_true_eq] at h;exact⟨h.1.1,h.1.2,h.2⟩
noncomputable def QE:U->R U:=λu=>match u with
 | .int i=>.ok (.int (-i))
 |_=>.stk
noncomputable def pC (f:Int->Int->Bool):U->U->R U:=λu w=>match u,w with
 | .int i,.int j=>.ok (.bl (f i j))
 |_,_=>.stk
theorem An {f:Int->Int->Bool}:fU K (yu λi j=>.bl (f i j)) .S (pC f):=λA H x y u w z Q hx hy mu e q=>by
 unfold pC at e;split at e
 ·cases e;exact⟨_,_,hx.int,hy.int,q _ H (aQ.refl _) (show Rp K H A _ _ from qy)⟩
 ·cases e
noncomputable def M9:U->U->R U:=pC λi j=>decide (i<j)
noncomputable def M_:U->U->R U:=pC λi j=>decide (i<=j)
noncomputable def GX:U->U->R U:=pC λi j=>decide (j<i)
noncomputable def QF:U->U->R U:=pC λi j=>decide (j<=i)
mutual
noncomputable def qJ:U->Option D
 | .non=>some .non
 | .bl b=>some (.bl b)
 | .int i=>some (.int i)
 | .str x=>some (.str x)
 | .tup us=>(kY us).map .tup
 | .lst us=>(kY us).map .lst
 | .dct _ _=>none
 | .scr _=>none
noncomputable def kY:List U->Option (List D)
 | []=>some []
 |u::us=>(qJ u).bind λd=>(kY us).map λds=>d::ds
end
mutual
theorem yT {H:Hp}{A:Z5->Prop}:∀{u:U} {v:V} {d:D},Rp K H A u v->qJ u=some d->aW K H d v
 | .non,v,d,h,e=>by unfold qJ at e;cases e;unfold Rp at h;unfold aW;exact h
 | .bl b,v,d,h,e=>by unfold qJ at e;cases e;unfold Rp at h;unfold aW;exact h
 | .int b,v,d,h,e=>by unfold qJ at e;cases e;unfold Rp at h;unfold aW;exact h
 | .str b,v,d,h,e=>by unfold qJ at e;cases e;unfold Rp at h;unfold aW;exact h
 | .tup us,v,d,h,e=>by
  unfold qJ at e;cases e2:kY us with
  |none=>rw[e2] at e;cases e
  |some ds=>
   rw[e2] at e;cases e;unfold Rp at h;unfold aW;obtain⟨a,xs,r,q,l,z⟩:=h;exact⟨a,xs,r,gz.of q,kH z e2⟩
 | .lst us,v,d,h,e=>by
  unfold qJ at e;cases e2:kY us with
  |none=>rw[e2] at e;cases e
  |some ds=>
   rw[e2] at e;cases e;unfold Rp at h;unfold aW;obtain⟨a,xs,r,_,q,l,z⟩:=h;exact⟨a,xs,r,fS.of q,kH z e2⟩
 | .dct _ _,v,d,h,e=>by unfold qJ at e;cases e
 | .scr _,v,d,h,e=>by unfold qJ at e;cases e
theorem kH {H:Hp}{A:Z5->Prop}:∀{us:List U} {vs:List V} {ds:List D},aK K H A us vs->kY us=some ds->fT K H ds vs
 | [],vs,ds,h,e=>by unfold kY at e;cases e;unfold aK at h;unfold fT;exact h
 |u::us,vs,ds,h,e=>by
  unfold kY at e;cases e1:qJ u with
  |none=>rw[e1] at e;cases e
  |some d=>
   cases e2:kY us with
   |none=>rw[e1,e2] at e;cases e
   |some ds'=>
    rw[e1,e2] at e;cases e;unfold aK at h;unfold fT;obtain⟨x,r,q,p,z⟩:=h;exact⟨x,r,q,yT p e1,kH z e2⟩
end
theorem u5 {d:D}(h:Pk K H A u v)(e:qJ u=some d):aW K H d v:=by
 cases u with
 |lst us=>
  unfold qJ at e;cases e2:kY us with
  |none=>rw[e2] at e;cases e
  |some ds=>
   rw[e2] at e;cases e;unfold Pk at h;unfold aW;obtain⟨a,xs,r,q,l,z⟩:=h;exact⟨a,xs,r,fS.of q,kH z e2⟩
 |dct=>unfold qJ at e;cases e
 |scr=>unfold qJ at e;cases e
 |tup us=>exact yT (A:=A) (by unfold Pk at h;unfold Rp;exact h) e
 |_=>exact yT (A:=A) (by unfold Pk at h;unfold Rp;exact h) e
noncomputable def BN (u w:U):R Bool:=match qJ u,qJ w with
 |some d,some d'=>if eO d<=30 then .ok (jw d d') else .stk
 |_,_=>.stk
noncomputable def jf (f:Bool->Bool):U->U->R U:=λu w=>(BN u w).bind λb=>.ok (.bl (f b))
theorem bA {f:Bool->Bool}:fU K (Kq K f) .S (jf f):=λA H x y u w z Q hx hy mu e q=>by
 unfold jf BN at e;obtain⟨b,e1,e2⟩:=R.bind_ok e;split at e1
 ·rename_i d d' h1 h2;split at e1
  ·rename_i hd;cases e1;cases e2;exact⟨d,d',u5 hx h1,u5 hy h2,hd,q _ H (aQ.refl _) (show Rp K H A _ _ from qy)⟩
  ·cases e1
 ·cases e1
noncomputable def Ao:U->Bool
 | .non=>true
 |_=>false
theorem w6 (h:Pk K H A u v):decide (v=.non)=Ao u:=by
 cases u<;>unfold Pk at h
 case non=>subst h;rfl
 case tup=>obtain⟨a,xs,rfl,_⟩:=h;rfl
 case lst=>obtain⟨a,xs,rfl,_⟩:=h;rfl
 case dct=>obtain⟨a,xs,rfl,_⟩:=h;rfl
 case scr=>obtain⟨a,xs,rfl,_⟩:=h;rfl
 all_goals (subst h;rfl)
noncomputable def lL (f:Bool->Bool):U->U->R U:=λu w=>match w with
 | .non=>.ok (.bl (f (Ao u)))
 |_=>.stk
theorem u6:fU K (λx y H Q=>y=.non/\Q (.bl (decide (x=.non))) H) .S (lL id):=λA H x y u w z Q hx hy mu e q=>by
 unfold lL at e;split at e
 ·cases e;refine⟨by unfold Pk at hy;exact hy,q _ H (aQ.refl _) ?_⟩;rw[w6 hx];exact (show Rp K H A _ _ from qy)
 ·cases e
theorem w9:fU K (λx y H Q=>y=.non/\Q (.bl (!decide (x=.non))) H) .S (lL not):=λA H x y u w z Q hx hy mu e q=>by
 unfold lL at e;split at e
 ·cases e;refine⟨by unfold Pk at hy;exact hy,q _ H (aQ.refl _) ?_⟩;rw[w6 hx];exact (show Rp K H A _ _ from qy)
 ·cases e
noncomputable def QG (f:Bool->Bool):U->U->R U:=λu w=>match u,w with
 | .bl a,.bl b=>.ok (.bl (f (decide (a=b))))
 |_,_=>.stk
theorem yU {i:Int}{z:U}(r:aK K H A us xs)(e:m_ us i=some z):∃v,m_ xs i=some v/\Rp K H A z v:=by
 unfold m_ at e ⊢;rw[←r.length];cases h:CD us.length i with
 |none=>rw[h] at e;cases e
 |some j=>
  rw[h] at e;obtain⟨v,h1,h2⟩:=r.get (show us[j]? = some z from e);exact⟨v,h1,h2⟩
noncomputable def bW:U->U->R U:=λu w=>match u,w with
 | .lst us,.int i=>match m_ us i with
  |some z=>.ok z
  |none=>.stk
 | .tup us,.int i=>match m_ us i with
  |some z=>.ok z
  |none=>.stk
 | .scr us,.int i=>match m_ us i with
  |some z=>.ok z
  |none=>.stk
 | .str x,.int i=>match m_ x.cps.toList i with
  |some c=>if x.length<=ZY then .ok (.str ⟨#[c]⟩) else .stk
  |none=>.stk
 |_,_=>.stk
theorem aB:fU K (Wd K) .S bW:=λA H x y u w z Q hx hy mu e q=>by
 unfold bW at e;split at e
 ·split at e
  ·rename_i z' hz;cases e;unfold Pk at hx;obtain⟨a,xs,rfl,h1,l1,r1⟩:=hx;obtain⟨v,h2,h3⟩:=yU r1 hz;exact .inl ⟨a,xs,_,v,rfl,hy.int,fS.of h1,h2,q _ H (aQ.refl _) h3⟩
  ·cases e
 ·split at e
  ·rename_i z' hz;cases e;unfold Pk at hx;obtain⟨a,xs,rfl,h1,l1,r1⟩:=hx;obtain⟨v,h2,h3⟩:=yU r1 hz;exact .inr (.inl ⟨a,xs,_,v,rfl,hy.int,gz.of h1,h2,q _ H (aQ.refl _) h3⟩)
  ·cases e
 ·split at e
  ·rename_i z' hz;cases e;unfold Pk at hx;obtain⟨a,xs,rfl,h1,l1,r1⟩:=hx;obtain⟨v,h2,h3⟩:=yU r1 hz;exact .inl ⟨a,xs,_,v,rfl,hy.int,h1.sq,h2,q _ H (aQ.refl _) h3⟩
  ·cases e
 ·split at e
  ·rename_i z' hz;split at e
   ·rename_i hl;cases e;exact .inr (.inr ⟨_,_,z',hx.str,hy.int,hl,hz,q _ H (aQ.refl _) (show Rp K H A _ _ from Kw)⟩)
   ·cases e
  ·cases e
 ·cases e
noncomputable def pb {α:Type}(xs:List α)(lo hi:Option Int):List α:=(xs.drop (HT.sIx xs.length 0 lo)).take (HT.sIx xs.length xs.length hi-HT.sIx xs.length 0 lo)
theorem j2 {α:Type}(xs:List α)(lo hi:Option Int):(pb xs lo hi).length<=xs.length:=by
 unfold pb;rw[aaM,abf];lia
theorem u7 (r:aK K H A us xs)(lo hi:Option Int):aK K H A (pb us lo hi) (qc xs lo hi):=by
 unfold pb qc;rw[←r.length];exact (r.drop _).take _
theorem DV:C7 X (λx lo hi H Q=>Gw X.K x lo hi H Q\/Dt X.K x lo hi H Q):=Gx.or GD
noncomputable def KP:U->Option Int->Option Int->R U:=λu lo hi=>match u with
 | .lst us=>.ok (.lst (pb us lo hi))
 | .scr us=>.ok (.lst (pb us lo hi))
 | .tup us=>.ok (.tup (pb us lo hi))
 |_=>.stk
noncomputable def Na:U->Option Int->Option Int->R U:=λu lo hi=>match u with
 | .lst us=>.ok (.lst (pb us lo hi))
 | .scr us=>.ok (.lst (pb us lo hi))
 |_=>.stk
theorem Ap:DL K (Gw K) .O Na:=λA H x u lo hi z Q hx mu e q=>by
 unfold Na at e;split at e
 ·cases e;unfold Pk at hx;obtain⟨a,xs,rfl,h1,l1,r1⟩:=hx;exact⟨a,xs,rfl,fS.of h1,λp hp=>q _ _ (de hp _) ⟨p,rfl,hp,bZ mu (u7 r1 lo hi) hp (aaT (j2 _ _ _) l1)⟩⟩
 ·cases e;unfold Pk at hx;obtain⟨a,xs,rfl,h1,l1,r1⟩:=hx;exact⟨a,xs,rfl,h1.sq,λp hp=>q _ _ (de hp _) ⟨p,rfl,hp,bZ mu (u7 r1 lo hi) hp (aaT (j2 _ _ _) l1)⟩⟩
 ·cases e
theorem Ii (mu:∀a,A a->Mu (H a))(vm:CG K .O A H H' u v):Rp K H' A u v:=by
 obtain⟨a,rfl,na,t⟩:=vm;exact t.rp (λb h=>.inl h) λh=>by have:=mu a h;rw[na] at this;exact this
theorem KQ:DL K (λx lo hi H Q=>Gw K x lo hi H Q\/Dt K x lo hi H Q) .S KP:=λA H x u lo hi z Q hx mu e q=>by
 unfold KP at e;split at e
 ·cases e;exact .inl (Ap A H x _ lo hi _ Q hx mu rfl λv H' sm vm=>q v H' sm (Ii mu vm))
 ·cases e;exact .inl (Ap A H x _ lo hi _ Q hx mu rfl λv H' sm vm=>q v H' sm (Ii mu vm))
 ·cases e;unfold Pk at hx;obtain⟨a,xs,rfl,h1,l1,r1⟩:=hx;refine .inr ⟨a,xs,rfl,h1,λr H' sm hr=>q _ H' sm (show Rp K H' A _ _ from ?_)⟩;unfold Rp;exact⟨r,_,rfl,hr,aaT (j2 _ _ _) l1,(u7 r1 lo hi).same sm⟩
 ·cases e
end L2
namespace L2
section
theorem yK.one (h:yK K H A [u] vs):∃v,vs=[v]/\Pk K H A u v:=by
 unfold yK at h;obtain⟨x,r,rfl,p,q⟩:=h;unfold yK at q;subst q;exact⟨x,rfl,p⟩
theorem yK.two {w:U}(h:yK K H A [u,w] vs):∃v v',vs=[v,v']/\Pk K H A u v/\Pk K H A w v':=by
 unfold yK at h;obtain⟨x,r,rfl,p,q⟩:=h;obtain⟨v,rfl,q'⟩:=yK.one q;exact⟨x,v,rfl,p,q'⟩
noncomputable def g6:List U->R U:=λus=>match us with
 | [.lst xs]=>.ok (.int xs.length)
 | [.tup xs]=>.ok (.int xs.length)
 | [.scr xs]=>.ok (.int xs.length)
 | [.str x]=>if x.length<=ZY then .ok (.int x.length) else .stk
 |_=>.stk
theorem cB:kX K (λxs H Q=>∃x n,xs=[x]/\ME K x H n/\Q (.int n) H) .S g6:=λA H vs us z Q h mu e q=>by
 unfold g6 at e;split at e
 ·rename_i xs;cases e;obtain⟨v,rfl,p⟩:=h.one;unfold Pk at p;obtain⟨a,ys,rfl,h1,l1,r1⟩:=p;exact⟨_,xs.length,rfl,.inl ⟨ys,fS.of h1,r1.length⟩,q _ H (aQ.refl _) (show Rp K H A _ _ from eP)⟩
 ·rename_i xs;cases e;obtain⟨v,rfl,p⟩:=h.one;unfold Pk at p;obtain⟨a,ys,rfl,h1,l1,r1⟩:=p;exact⟨_,xs.length,rfl,.inr ⟨ys,gz.of h1,r1.length⟩,q _ H (aQ.refl _) (show Rp K H A _ _ from eP)⟩
 ·rename_i xs;cases e;obtain⟨v,rfl,p⟩:=h.one;unfold Pk at p;obtain⟨a,ys,rfl,h1,l1,r1⟩:=p;exact⟨_,xs.length,rfl,.inl ⟨ys,h1.sq,r1.length⟩,q _ H (aQ.refl _) (show Rp K H A _ _ from eP)⟩
 ·rename_i x;split at e
  ·rename_i hl;cases e;obtain⟨v,rfl,p⟩:=h.one;have:=p.str;subst this;exact⟨_,x.length,rfl,⟨hl,rfl⟩,q _ H (aQ.refl _) (show Rp K H A _ _ from eP)⟩
  ·cases e
 ·cases e
noncomputable def Ij:List U->R U:=λus=>match us with
 | [.lst xs]=>.ok (.lst xs)
 | [.tup xs]=>.ok (.lst xs)
 |_=>.stk
noncomputable def gb:List U->R U:=λus=>match us with
 | [.lst xs]=>.ok (.tup xs)
 | [.tup xs]=>.ok (.tup xs)
 |_=>.stk
theorem fo:kX K (λxs H Q=>∃p ys,xs=[.ref p]/\((fS K H p ys/\∀l,H l=none->Q (.ref l) (c_ H l (.tup ys)))\/(gz K H p ys/\Q (.ref p) H))) .S gb:=λA H vs us z Q h mu e q=>by
 unfold gb at e;split at e
 ·rename_i xs;cases e;obtain⟨v,rfl,p⟩:=h.one;unfold Pk at p;obtain⟨a,ys,rfl,h1,l1,r1⟩:=p;exact⟨a,ys,rfl,.inl ⟨fS.of h1,λl hl=>q _ _ (de hl _) (tT r1 hl l1)⟩⟩
 ·rename_i xs;cases e;obtain⟨v,rfl,p⟩:=h.one;have p':=p;unfold Pk at p;obtain⟨a,ys,rfl,h1,l1,r1⟩:=p;refine⟨a,ys,rfl,.inr ⟨gz.of h1,q _ H (aQ.refl _) (show Rp K H A _ _ from ?_)⟩⟩;unfold Rp;unfold Pk at p';exact p'
 ·cases e
noncomputable def GY:List U->R U:=λus=>match us with
 | [.int i]=>.ok (.int (if i<0 then -i else i))
 |_=>.stk
theorem Aq:kX K (λxs H Q=>∃i,xs=[.int i]/\Q (.int (if i<0 then -i else i)) H) .S GY:=λA H vs us z Q h mu e q=>by
 unfold GY at e;split at e
 ·cases e;obtain⟨v,rfl,p⟩:=h.one;exact⟨_,by rw[p.int],q _ H (aQ.refl _) (show Rp K H A _ _ from eP)⟩
 ·cases e
noncomputable def Ar:List U->R U:=λus=>match us with
 | [.int i,.int j]=>.ok (.int (if j>i then j else i))
 |_=>.stk
theorem DX:kX K (λxs H Q=>∃i j,xs=[.int i,.int j]/\Q (.int (if j>i then j else i)) H) .S Ar:=λA H vs us z Q h mu e q=>by
 unfold Ar at e;split at e
 ·cases e;obtain⟨v,w,rfl,p,p'⟩:=h.two;exact⟨_,_,by rw[p.int,p'.int],q _ H (aQ.refl _) (show Rp K H A _ _ from eP)⟩
 ·cases e
noncomputable def As:List U->R U:=λus=>match us with
 | [.int i,.int j]=>.ok (.int (if j<i then j else i))
 |_=>.stk
theorem DY:kX K (λxs H Q=>∃i j,xs=[.int i,.int j]/\Q (.int (if j<i then j else i)) H) .S As:=λA H vs us z Q h mu e q=>by
 unfold As at e;split at e
 ·cases e;obtain⟨v,w,rfl,p,p'⟩:=h.two;exact⟨_,_,by rw[p.int,p'.int],q _ H (aQ.refl _) (show Rp K H A _ _ from eP)⟩
 ·cases e
noncomputable def iW:List U->Option (List Int)
 | []=>some []
 | .int i::us=>(iW us).map (i::·)
 |_::_=>none
noncomputable def DZ:List U->Option (List Bool)
 | []=>some []
 | .bl i::us=>(DZ us).map (i::·)
 |_::_=>none
theorem iX:∀{us:List U} {ns:List Int},iW us=some ns->us=ns.map .int
 | [],ns,h=>by unfold iW at h;cases h;rfl
 |u::us,ns,h=>by
  cases u<;>unfold iW at h<;>try cases h
  rename_i i;cases e:iW us with
  |none=>rw[e] at h;cases h
  |some ms=>rw[e] at h;cases h;rw[iX e];rfl
theorem D0 (ns:List Int):iW (ns.map .int)=some ns:=by
 induction ns with
 |nil=>rfl
 |cons n ns ih=>rw[Z_];unfold iW;rw[ih];rfl
theorem aK.toI {H:Hp}{A:Z5->Prop}:∀{ns:List Int} {vs:List V},aK K H A (ns.map .int) vs->vs=ns.map V.int
 | [],vs,h=>by rw[abO] at h;unfold aK at h;exact h
 |n::ns,vs,h=>by
  rw[Z_] at h;unfold aK at h;obtain⟨x,r,rfl,p,q⟩:=h;unfold Rp at p;rw[p,aK.toI q];rfl
theorem mF {H:Hp}{A:Z5->Prop}:∀(ns:List Int),aK K H A (ns.map .int) (ns.map V.int)
 | []=>aK.nil
 |n::ns=>aK.cons eP (mF ns)
noncomputable def Xr:List U->R U:=λus=>match us with
 | [.lst xs]=>match DZ xs with
  |some bs=>.ok (.bl (bs.all id))
  |none=>.stk
 |_=>.stk
noncomputable def BO (x:Int):List Int->List Int
 | []=>[x]
 |y::r=>if y<x then y::BO x r else x::y::r
noncomputable def tW (ns:List Int):List Int:=ns.foldr BO []
theorem nD (x:Int):∀l,(BO x l).Perm (x::l)
 | []=>.refl _
 |y::r=>by
  unfold BO;split
  ·exact ((nD x r).cons y).trans (.swap x y r)
  ·exact .refl _
theorem lM:∀ns:List Int,(tW ns).Perm ns
 | []=>.refl _
 |x::l=>(nD x _).trans ((lM l).cons x)
theorem Au (x:Int):∀{l:List Int},l.Pairwise (·<=·)->(BO x l).Pairwise (·<=·)
 | [],_=>aaU _ _
 |y::r,h=>by
  obtain⟨h1,h2⟩:=aaN.mp h;unfold BO;split
  ·refine aaN.mpr ⟨λz hz=>?_,Au x h2⟩;rcases Z4.mp ((nD x r).mem_iff.mp hz) with rfl|hz
   ·lia
   ·exact h1 z hz
  ·refine aaN.mpr ⟨λz hz=>?_,h⟩;rcases Z4.mp hz with rfl|hz
   ·lia
   ·have:=h1 z hz;lia
theorem w_:∀ns:List Int,(tW ns).Pairwise (·<=·)
 | []=>List.Pairwise.nil
 |x::l=>Au x (w_ l)
noncomputable def yV:List U->R U:=λus=>match us with
 | [.lst xs]=>match iW xs with
  |some ns=>if ns.length<64 then .ok (.lst ((tW ns).map .int)) else .stk
  |none=>.stk
 | [.tup xs]=>match iW xs with
  |some ns=>if ns.length<64 then .ok (.lst ((tW ns).map .int)) else .stk
  |none=>.stk
 |_=>.stk
theorem BP:kX K (λxs H Q=>∃(p:Z5) (ns:List Int),xs=[.ref p]/\(fS K H p (ns.map V.int)\/gz K H p (ns.map V.int))/\ns.length<64/\
  ∀(l:Z5) (nY:List Int),H l=none->nY.Perm ns->nY.Pairwise (·<=·)->Q (.ref l) (c_ H l (.lst (nY.map V.int)))) .O yV:=λA H vs us z Q h mu e q=>by
 have fin:∀(ns:List Int),ns.length<64->z=.lst ((tW ns).map .int)->∀(l:Z5) (nY:List Int),H l=none->nY.Perm ns->nY.Pairwise (·<=·)->Q (.ref l) (c_ H l (.lst (nY.map V.int))):=λns hl hz l nY hn hp hw=>by
  have e:nY=tW ns:=PySem.W.ksm_same (hp.trans (lM ns).symm) hw (w_ ns);subst e hz;refine q _ _ (de hn _) ⟨l,rfl,hn,bZ mu (mF _) hn ?_⟩;have:ZY=16777216:=rfl;rw[ZW,(lM ns).length_eq];lia
 unfold yV at e;split at e
 ·rename_i xs;split at e
  ·rename_i ns hb;split at e
   ·rename_i hl;cases e;obtain⟨v,rfl,p⟩:=h.one;unfold Pk at p;obtain⟨a,ys,rfl,h1,l1,r1⟩:=p;rw[iX hb] at r1;rw[r1.toI] at h1;exact⟨a,ns,rfl,.inl (fS.of h1),hl,fin ns hl rfl⟩
   ·cases e
  ·cases e
 ·rename_i xs;split at e
  ·rename_i ns hb;split at e
   ·rename_i hl;cases e;obtain⟨v,rfl,p⟩:=h.one;unfold Pk at p;obtain⟨a,ys,rfl,h1,l1,r1⟩:=p;rw[iX hb] at r1;rw[r1.toI] at h1;exact⟨a,ns,rfl,.inr (gz.of h1),hl,fin ns hl rfl⟩
   ·cases e
  ·cases e
 ·cases e
noncomputable def Xs (ks:List U):String:=match ks with
 | .tup _::_=>"script"
 |_=>"dict"
noncomputable def Pn:U->String
 | .non=>"NoneType"
 | .bl _=>"bool"
 | .int _=>"int"
 | .str _=>"str"
 | .tup _=>"tuple"
 | .lst _=>"list"
 | .dct ks _=>Xs ks
 | .scr _=>"script"
variable {e:abE}{p1 p2:Pos}{b1:Bool}{m1:Md}{g1:Ev->R (U×Ev)}
noncomputable def Nb (T:String)(g:Ev->R (U×Ev)):Ev->R (U×Ev):=λρ=>(g ρ).bind λx=>if Pn x.1="script" then .stk else .ok (.bl (iU (Pn x.1) T),x.2)
noncomputable def yW (i j:Int):Bool:=decide (-1000000<=i)&&decide (i<=1000000)&&decide (-1000000<=j)&&decide (j<=1000000)
noncomputable def qK (g:Ev->R (List U×Ev)):Ev->R (U×Ev):=λρ=>(g ρ).bind λx=>match x.1 with
 | [.int j]=>if yW 0 j=true then .ok (.lst (cz 0 (j-0).toNat),x.2) else .stk
 |_=>.stk
noncomputable def Nc (g:Ev->R (List U×Ev)):Ev->R (U×Ev):=λρ=>(g ρ).bind λx=>match x.1 with
 | [.int j]=>if yW 0 j=true then .ok (.tup (cz 0 (j-0).toNat),x.2) else .stk
 |_=>.stk
theorem BQ (lo:Int)(n:Nat):aK K H A (cz lo n) ((aaA n).map λi=>V.int (lo+(i:Nat))):=by
 unfold cz;have e1:(aaA n).map (λi=>U.int (lo+(i:Nat)))=((aaA n).map λi=>lo+(i:Nat)).map U.int:=by rw[abC];rfl
 have e2:(aaA n).map (λi=>V.int (lo+(i:Nat)))=((aaA n).map λi=>lo+(i:Nat)).map V.int:=by rw[abC];rfl
 rw[e1,e2];exact mF _
theorem gc (lo:Int)(n:Nat):(cz lo n).length=n:=by unfold cz;rw[ZW,abk]
variable {ga:Ev->R (List U×Ev)}{a:abE}{p3 p4:Pos}
theorem mG (hc:X.calm=true)(ha:DA X G [a] b1 false ga)(zl:X.mg "list"=none)(zr:X.mg "range"=none)(hg:Gl X "list":=by rfl)(OF:Gl X "range":=by rfl)
  (hs:aaf [.Call (.Name "range" p3) [a] [] p4] X.env=(false,ade (.Call (.Name "range" p3) [a] [] p4) X.env)::aaf [] X.env:=by rfl) (cV:aaf [a] X.env=(false,ade a X.env)::aaf [] X.env:=by rfl)
  (sH:(acq pos (aaf [] X.env)).any (·.1)=false:=by rfl) (FT:(acq p4 (aaf [] X.env)).any (·.1)=false:=by rfl):DE X G (.Call (.Name "list" p1) [.Call (.Name "range" p3) [a] [] p4] [] pos) b1 .O (qK ga):=⟨(jg (sO hc) hg zl GC (md (jg wK OF zr Dq ha.un (by decide) (by decide) cV FT) p8 hs) (by decide) (by decide) hs sH).to λσ H Q h=>by
 obtain⟨Z,A,ρ,q,f⟩:=h;obtain⟨⟨us,ρ1⟩,e1,f⟩:=f.bind;refine⟨Z,A,ρ,q,?_⟩;rw[e1];intro vs H1 q1 x1 s1 vm;dsimp only at f;split at f
 ·rename_i j;split at f
  ·rename_i hj;have r:=vm.rps;unfold aK at r;obtain⟨v,vr,rfl,r1,r2⟩:=r;unfold aK at r2;subst r2;unfold Rp at r1;subst r1;unfold yW at hj;simp only[aae,decide_eq_true_eq] at hj;refine⟨j,rfl,λp hp=>⟨p,0,j,rfl,bS,by lia,by lia,λl hl=>?_⟩⟩;have sp:=de hp (.rng 0 j);have sl:=de hl (.lst ((aaA (j-0).toNat).map λi=>V.int (0+(i:Nat))));exact f _ _ ((q1.same sp).same sl) (x1.trans (fg.same (sp.trans sl))) (o8 s1 (sp.trans sl)) (CG.e (q1.same sp) sl ⟨l,rfl,hl,bZ (q1.same sp).mu (BQ 0 _) hl (by rw[gc];have:ZY=16777216:=rfl;lia)⟩)
  ·exact f.elim
 ·exact f.elim⟩
noncomputable def iY:U->List U->R (U×U):=λu us=>match u,us with
 | .lst xs,[y]=>if xs.length<ZY then .ok (.non,.lst (xs++[y])) else .stk
 |_,_=>.stk
theorem nE {a:Z5}(o:HO):∀b u,b≠a->H b=some u->c_ H a o b=some u:=λb u nb z=>by rw[bp nb];exact z
theorem pP {a:Z5}(mu:∀a,A a->Mu (H a))(ha:A a)(r:aK K H A us xs)(l:us.length<=ZY):j0 K (c_ H a (.lst xs)) A (.lst us) a:=
 ⟨xs,bS,l,r.re mu (λb o nb z=>nE _ b o (λy=>nb (y▸ha)) z) λb z=>.inl z⟩
theorem qL:DJ K "list" Ad iY:=λA H a u vs us z w Q t ha r mu e q=>by
 unfold iY at e;split at e
 ·rename_i xs y;split at e
  ·rename_i hl;cases e;obtain⟨ys,h1,l1,r1⟩:=t;unfold aK at r;obtain⟨v,vr,rfl,p,r2⟩:=r;unfold aK at r2;subst r2;exact⟨a,ys,v,rfl,rfl,h1,by rw[←r1.length];exact hl,q _ _ (nE _) (pP mu ha (r1.append (aK.cons p aK.nil)) (by rw[ZZ];exact hl)) qz⟩
  ·cases e
 ·cases e
def xb:V->List V->Hp->VK->Prop:=λx vs H Q=>∃l b xs zs,x=.ref l/\vs=[.ref b]/\H l=some (.lst xs)/\H b=some (.lst zs)/\xs.length+zs.length<=ZY/\Q .non (c_ H l (.lst (xs++zs)))
theorem yX:Ia X "list.extend" xb:=by
 intro pins s σ H x vs v us Q I rx rv h;obtain⟨l,b,xs,zs,rfl,rfl,hH,hB,hz,q⟩:=h;cases rx;obtain⟨u,rfl,ru⟩:=rv.one;cases ru;obtain⟨z,its,n,r,hl,e⟩:=I.lstM hH;obtain⟨z2,its2,n2,r2,LO,e2⟩:=I.lstM hB;have hsz:its.toArray.size+its2.toArray.size<=ZY:=by rw[ZU,ZU];lia
 have FR:¬(!its.toArray.isEmpty&&acz (its.toArray.size+its2.toArray.size))=true:=by
  rw[wD hsz,ad6];exact ZV
 refine call_meets F.slot_list_extend ⟨_,e,rfl⟩ F.entry_list_extend (F.args_list_extend_2 _ _)
  (PySem.AutoSeq1.list_extend_list_list_0 l its.toArray n b its2.toArray n2 FR (by rw[ZU];lia) (by lia)) ⟨e,e2,?_⟩
 refine⟨.non,_,I.lset (its':=its++its2) hH e (by simp) (r.append r2) ?_,rfl,q⟩;rw[ZZ];lia
def Ik:V->List V->Hp->VK->Prop:=λx vs H Q=>xb x vs H Q\/wL x vs H Q
theorem pQ:Ia X "list.extend" Ik:=yX.or yE
noncomputable def kI:U->List U->R (U×U):=λu us=>match u,us with
 | .lst xs,[.lst ys]=>if xs.length+ys.length<=ZY then .ok (.non,.lst (xs++ys)) else .stk
 | .lst xs,[.tup ys]=>if xs.length+ys.length<=ZY then .ok (.non,.lst (xs++ys)) else .stk
 |_,_=>.stk
theorem jB:DJ K "list" Ik kI:=λA H a u vs us z w Q t ha r mu e q=>by
 unfold kI at e;split at e
 ·rename_i xs ys;split at e
  ·rename_i hl;cases e;obtain⟨zs,h1,l1,r1⟩:=t;unfold aK at r;obtain⟨v,vr,rfl,p,r2⟩:=r;unfold aK at r2;subst r2;unfold Rp at p;obtain⟨b,ws,rfl,nb,h2,l2,r3⟩:=p;exact .inl ⟨a,b,zs,ws,rfl,rfl,h1,h2,by rw[←r1.length,←r3.length];exact hl,q _ _ (nE _) (pP mu ha (r1.append r3) (by rw[ZZ];exact hl)) qz⟩
  ·cases e
 ·rename_i xs ys;split at e
  ·rename_i hl;cases e;obtain⟨zs,h1,l1,r1⟩:=t;unfold aK at r;obtain⟨v,vr,rfl,p,r2⟩:=r;unfold aK at r2;subst r2;unfold Rp at p;obtain⟨b,ws,rfl,h2,l2,r3⟩:=p;exact .inr ⟨a,b,zs,ws,rfl,rfl,h1,h2,by rw[←r1.length,←r3.length];exact hl,q _ _ (nE _) (pP mu ha (r1.append r3) (by rw[ZZ];exact hl)) qz⟩
  ·cases e
 ·cases e
noncomputable def nF:U->List U->R (U×U):=λu us=>match u,us with
 | .lst xs,[.int i]=>if -9223372036854775808<=i/\i<9223372036854775808 then (match ae6 i xs.length with
  |some k=>match xs[k]? with
   |some y=>.ok (y,.lst (xs.eraseIdx k))
   |none=>.stk
  |none=>.stk) else .stk
 |_,_=>.stk
theorem aK.erase {H:Hp}{A:Z5->Prop}:∀{us:List U} {vs:List V} (n:Nat),aK K H A us vs->aK K H A (us.eraseIdx n) (vs.eraseIdx n)
 | [],vs,n,h=>by unfold aK at h;subst h;exact aK.nil
 |u::us,vs,0,h=>by
  unfold aK at h;obtain⟨x,r,rfl,p,q⟩:=h;exact q
 |u::us,vs,n+1,h=>by
  unfold aK at h;obtain⟨x,r,rfl,p,q⟩:=h;exact aK.cons p (aK.erase n q)
theorem BR:DJ K "list" C_ nF:=λA H a u vs us z w Q t ha r mu e q=>by
 unfold nF at e;split at e
 ·rename_i xs i;split at e
  ·rename_i hi;split at e
   ·rename_i k hk;split at e
    ·rename_i y hy;cases e;obtain⟨zs,h1,l1,r1⟩:=t;unfold aK at r;obtain⟨v,vr,rfl,p,r2⟩:=r;unfold aK at r2;subst r2;unfold Rp at p;subst p;obtain⟨v,h2,h3⟩:=r1.get hy;exact⟨a,zs,i,k,v,rfl,rfl,h1,by have:=hi.1;lia,by have:=hi.2;lia,by rw[←r1.length];exact hk,h2,q _ _ (nE _) (pP mu ha (r1.erase k) (aaT (List.length_eraseIdx_le _ _) l1)) (h3.re mu (λb o nb z=>nE _ b o (λy=>nb (y▸ha)) z) λb z=>.inl z)⟩
    ·cases e
   ·cases e
  ·cases e
 ·cases e
end
end L2
namespace L2
section
variable {m:Md}
theorem yY:fU K (yu λi j=>.bl (decide (i<j))) .S M9:=An
theorem yZ:fU K (yu λi j=>.bl (decide (i<=j))) .S M_:=An
theorem qM:fU K (yu λi j=>.bl (decide (j<i))) .S GX:=An
theorem KR:fU K (yu λi j=>.bl (decide (j<=i))) .S QF:=An
theorem u9 {OG:List ad9}:yN X G m OG (λ_=>.stk):=⟨λpins s σ H D I h=>by
 obtain⟨Z,A,ρ,q,f⟩:=h;exact f.elim⟩
noncomputable def Po:Ev->R (U×Ev):=λρ=>.ok (.dct [] [],ρ)
theorem D1:DE X G (.Dict [] [] pos) false .O Po:=⟨wH.to λσ H Q h=>by
 obtain⟨Z,A,ρ,q,f⟩:=h;intro a na;have sn:=de na (.dK []);exact f _ _ (q.same sn) (fg.same sn) (λ_=>⟨rfl,sn⟩) (CG.e q sn ⟨a,rfl,na,[],.inl ⟨[],bS,rfl,rfl⟩,aba _,aK.nil⟩)⟩
end
end L2
namespace L2
def Nf (H:Hp)(a:Z5)(y:V)(o:Option V):Prop:=Kl H a y o\/∃es k b,fA H a es/\y=.ref b/\yH H k b/\o=gQ es k
def Ng (H:Hp)(a:Z5):Prop:=Wf H a\/∃es,fA H a es
section
variable {d:V}{u r:ZO}{o:Option V}{A:aaD}
theorem D2 (I:aJ X pins σ H s)(g:Nf H a y o):s.TypeIs (.ref a) "dict":=by
 rcases g with g|⟨es,k,b,g,_⟩
 ·exact wG I g
 ·exact g.typeIs I
theorem Nh (I:aJ X pins σ H s)(d:Ng H a):s.TypeIs (.ref a) "dict"/\(∀b,Value.ref a=.ref b->∃ob,s.heap.get? b=some ob/\ob.dict=none):=by
 rcases d with d|⟨es,d⟩
 ·obtain⟨x,y,_⟩:=Ko I d;exact⟨x,y⟩
 ·exact⟨d.typeIs I,d.noDict I⟩
theorem BS (hu:A.units+64<abH)(I:aJ X pins σ H s)(g:Nf H a y (some v))(ry:bx y u)(h:∀w' s',aJ X pins σ H s'->bx v w'->Q w' s') :
  aac (aar X.prog X.w) A (aes (.ref a) u) Q E s:=by
 rcases g with g|⟨es,k,b,g,rfl,kb,e⟩
 ·exact BF (by lia) I g ry h
 ·cases ry;exact BH hu I g kb e.symm h
end
def Ni (td ty:TE):TE:=λσ H Q=>td σ H λx H1=>ty σ H1 λy H2=>∃a v,x=.ref a/\Nf H2 a y (some v)/\Q v H2
section
variable {o i e f value:abE}{lh gI cpos:Pos}{td ty tv tx:TE}
theorem GZ (hu:X.A.units+64<abH)(ho:PE X o td)(hi:PE X i ty)(hs:Km i):PE X (.Subscript o i pos) (Ni td ty):=by
 intro pins s σ H Q I h;refine GA PySem.F.slot_dict_getitem.lookup hs (eG (ho pins s σ H _ I h) λu s1 ⟨x,H1,I1,rx,q1⟩=>eG (hi pins s1 σ H1 _ I1 q1) λiv s2 ⟨y,H2,I2,ry,a,v,ex,g,q2⟩=>?_);subst ex;obtain rfl:u=Value.ref a:=rx;exact⟨D2 I2 g,BS hu I2 g ry λw' s3 I3 zS=>⟨v,H2,I3,zS,q2⟩⟩
end
noncomputable def D3:U->Bool
 | .int _=>true
 | .str _=>true
 |_=>false
mutual
noncomputable def sP:U->Bool
 | .int _=>true
 | .tup us=>u_ us
 |_=>false
noncomputable def u_:List U->Bool
 | []=>true
 |u::us=>sP u&&u_ us
end
noncomputable def BU:U->Bool
 | .tup us=>u_ us&&decide (qp us<=6)
 |_=>false
noncomputable def D4:U->Bool
 | .tup _=>true
 |_=>false
noncomputable def y_ (ks:List U)(k:U):Bool:=(D3 k&&ks.all D3)||(BU k&&ks.all D4)
noncomputable def fx:List U->List U->U->Option U
 |k'::ks,u::us,k=>if k'=k then some u else fx ks us k
 |_,_,_=>none
noncomputable def jK (ks us:List U)(k v:U):List U:=if k∈ks then adz (λk' u=>if k'=k then v else u) ks us else us++[v]
noncomputable def j3 (ks:List U)(k:U):List U:=if k∈ks then ks else ks++[k]
mutual
theorem Nj:∀{u:U} {v:V},sP u=true->Rp K H A u v->KH H u v
 | .int i,v,_,h=>by unfold Rp at h;unfold KH;exact h
 | .tup us,v,k,h=>by
  unfold sP at k;unfold Rp at h;unfold KH;obtain⟨a,xs,r,q,l,z⟩:=h;exact⟨a,xs,r,q,l,za k z⟩
 | .non,v,k,h=>by unfold sP at k;cases k
 | .bl _,v,k,h=>by unfold sP at k;cases k
 | .str _,v,k,h=>by unfold sP at k;cases k
 | .lst _,v,k,h=>by unfold sP at k;cases k
 | .dct _ _,v,k,h=>by unfold sP at k;cases k
 | .scr _,v,k,h=>by unfold sP at k;cases k
theorem za:∀{us:List U} {vs:List V},u_ us=true->aK K H A us vs->qt H us vs
 | [],vs,_,h=>by unfold aK at h;unfold qt;exact h
 |u::us,vs,k,h=>by
  unfold u_ at k;rw[aae] at k;unfold aK at h;unfold qt;obtain⟨x,r,q,p,z⟩:=h;exact⟨x,r,q,Nj k.1 p,za k.2 z⟩
end
theorem D5 (k:BU (.tup us)=true)(h:Rp K H A (.tup us) v):∃b,v=.ref b/\yH H us b:=by
 unfold BU at k;rw[aae] at k;unfold Rp at h;obtain⟨a,xs,r,q,l,z⟩:=h;exact⟨a,r,of_decide_eq_true k.2,xs,q,l,za k.1 z⟩
theorem Nk (k:D3 u=true)(h:Rp K H A u v):∃q:jI,u=kU q/\v=kV q:=by
 cases u<;>first|(cases k;done)|skip
 ·unfold Rp at h;exact⟨.inl _,rfl,h⟩
 ·unfold Rp at h;exact⟨.inr _,rfl,h⟩
theorem KS {a b:jI}(h:kU a=kU b):a=b:=by
 cases a<;>cases b<;>unfold kU at h<;>first|(cases h;rfl)|cases h
theorem zc {k:jI}:∀{cF:List (jI×V)} {us:List U},aK K H A us (cF.map (·.2))->(∀u,fx (cF.map λp=>kU p.1) us (kU k)=some u->∃v,qd cF k=some v/\Rp K H A u v)/\(fx (cF.map λp=>kU p.1) us (kU k)=none->qd cF k=none)
 | [],us,r=>⟨(λu h=>by unfold fx at h;cases h),λ_=>rfl⟩
 |p::cF,us,r=>by
  cases us with
  |nil=>unfold aK at r;cases r
  |cons u us=>
   unfold aK at r;obtain⟨x,rr,e,h1,h2⟩:=r;cases e;rw[Z_];unfold fx;by_cases c:p.1=k
   ·rw[hV (by rw[c]),qe c];exact⟨λw h=>by cases h;exact⟨_,rfl,h1⟩,λh=>by cases h⟩
   ·rw[hU (λz=>c (KS z)),qf c];exact zc h2
theorem zd {k:List U}:∀{es:List (List U×Z5×V)} {us:List U},aK K H A us (es.map (·.2.2))->(∀u,fx (es.map λp=>.tup p.1) us (.tup k)=some u->∃v,gQ es k=some v/\Rp K H A u v)/\(fx (es.map λp=>.tup p.1) us (.tup k)=none->gQ es k=none)
 | [],us,r=>⟨(λu h=>by unfold fx at h;cases h),λ_=>rfl⟩
 |p::es,us,r=>by
  cases us with
  |nil=>unfold aK at r;cases r
  |cons u us=>
   unfold aK at r;obtain⟨x,rr,e,h1,h2⟩:=r;cases e;rw[Z_];unfold fx gQ;rw[abm];by_cases c:p.1=k
   ·rw[hV (by rw[c]),hG c];exact⟨λw h=>by cases h;exact⟨_,rfl,h1⟩,λh=>by cases h⟩
   ·rw[hU (λz=>c (mn.mp z)),hJ c];exact zd h2
theorem KU {k:U}(d:BI H a ks xs)(r:aK K H A us xs)(f:y_ ks k=true)(hk:Rp K H A k y) :
  ∃o,Nf H a y o/\(∀u,fx ks us k=some u->∃v,o=some v/\Rp K H A u v)/\(fx ks us k=none->o=none):=by
 unfold y_ at f;rw[adM,aae,aae] at f;rcases d with⟨cF,h,e1,e2⟩|⟨es,n,h,e1,e2⟩
 ·rcases f with⟨f1,f2⟩|⟨f1,f2⟩
  ·obtain⟨q,rfl,rfl⟩:=Nk f1 hk;subst e1 e2;exact⟨_,.inl (.inl ⟨cF,q,.inl h,rfl,rfl⟩),(zc r).1,(zc r).2⟩
  ·cases cF with
   |nil=>
    subst e1 e2;cases k<;>first|(cases f1;done)|skip
    rename_i kk;obtain⟨b,rfl,kt⟩:=D5 f1 hk;exact⟨none,.inr ⟨[],kk,b,⟨.inr ⟨rfl,h⟩,ad7,(λe he=>by cases he)⟩,rfl,kt,rfl⟩,(λu z=>by unfold fx at z;cases z),λ_=>rfl⟩
   |cons p cF=>
    exfalso;subst e1;rw[Z_,adJ,aae] at f2;obtain⟨p1,p2⟩:=p;cases p1<;>cases f2.1
 ·rcases f with⟨f1,f2⟩|⟨f1,f2⟩
  ·exfalso;subst e1;cases es with
   |nil=>exact n rfl
   |cons p es=>rw[Z_,adJ,aae] at f2;cases f2.1
  ·subst e1 e2;cases k<;>first|(cases f1;done)|skip
   rename_i kk;obtain⟨b,rfl,kt⟩:=D5 f1 hk;exact⟨_,.inr ⟨es,kk,b,h,rfl,kt,rfl⟩,(zd r).1,(zd r).2⟩
end L2
namespace L2
theorem aK.snoc (h:aK K H A us vs)(p:Rp K H A u v):aK K H A (us++[u]) (vs++[v]):=h.append (aK.cons p aK.nil)
section
variable {o i e f value:abE}{lh gI cpos p1 p2:Pos}{b1 b2 b3:Bool}{m m1 m2 m3:Md}{g1 g2 g3:Ev->R (U×Ev)}{y:Str}
noncomputable def jS:U->U->R U:=λu w=>match u with
 | .dct ks us=>if y_ ks w=true then (match fx ks us w with
  |some z=>.ok z
  |none=>.stk) else .stk
 |_=>.stk
theorem Nl (h:Pk K H A u v)(c:D3 u=true\/D4 u=true):Rp K H A u v:=by
 cases u<;>first|(exfalso;rcases c with c|c<;>cases c;done)|(unfold Pk at h;unfold Rp;exact h)
theorem G0 {k:U}(f:y_ ks k=true):D3 k=true\/D4 k=true:=by
 unfold y_ at f;rw[adM,aae,aae] at f;rcases f with⟨f,_⟩|⟨f,_⟩
 ·exact .inl f
 ·cases k<;>first|(cases f;done)|exact .inr rfl
theorem ze (hu:X.A.units+64<abH)(ha:DE X G o b1 m1 g1)(hb:DE X G i b2 m2 g2)(hs:Km i:=by intro _ _;rfl)(hm:m1=.P->b2=false:=by first|exact λ_=>rfl|exact λh=>nomatch h):DE X G (.Subscript o i pos) (b1||b2) .S (aG jS g1 g2):=⟨(GZ hu ha.un hb.un hs).to λσ H Q h=>by
 have hp:fU X.K (λx y H Q=>∃a v,x=.ref a/\Nf H a y (some v)/\Q v H) .S jS:=λA H x y u w z Q hx hy mu e q=>by
  unfold jS at e;split at e;rotate_left
  ·cases e
  split at e
  ·rename_i fk;split at e
   ·rename_i z' hz;cases e;unfold Pk at hx;obtain⟨a,xs,rfl,d,l,r⟩:=hx;obtain⟨ov,g,q1,_⟩:=KU d r fk (Nl hy (G0 fk));obtain⟨v,rfl,rp⟩:=q1 _ hz;exact⟨a,v,rfl,g,q v H (aQ.refl _) rp⟩
   ·cases e
  ·cases e
 exact mq hp hm h⟩
end
end L2
namespace Hc.Sx
open PySem.SetTable
noncomputable def gY:Nat->Nat
 |0=>0
 |n+1=>5*gY n+1
theorem Av (n:Nat):5 ^ n=4*gY n+1:=by
 induction n with
 |zero=>rfl
 |succ n ih=>rw[ace,ih];show _=4*(5*gY n+1)+1;lia
theorem G1 (m n:Nat):gY (m+n)=5 ^ n*gY m+gY n:=by
 induction n with
 |zero=>simp[gY]
 |succ n ih=>
  show 5*gY (m+n)+1=5 ^ (n+1)*gY m+(5*gY n+1);rw[ih,ace,acf (5 ^ n) 5,Nat.mul_add,abx];lia
theorem G2 (n:Nat):gY n % 2=n % 2:=by
 induction n with
 |zero=>rfl
 |succ n ih=>unfold gY;lia
theorem G3 (d:Nat):gY (d+d)=gY d*(2*(2*gY d+1)):=by
 rw[G1,Av];have:gY d*(2*(2*gY d+1))=4*(gY d*gY d)+2*gY d:=by
  rw[←abx,Nat.mul_add,acf (gY d) 2,Nat.mul_one];have:2*gY d*(2*gY d)=4*(gY d*gY d):=by
   rw[abx,adW (gY d) 2,←abx]
  rw[this]
 rw[this,Nat.add_mul,abx];lia
theorem cop (k q:Nat):Nat.Coprime (2 ^ k) (2*q+1):=by
 refine Nat.Coprime.pow_left k ?_;unfold Nat.Coprime;rw[Nat.gcd_rec,show (2*q+1) % 2=1 by lia];rfl
theorem Aw:∀(k d:Nat),2 ^ k ∣ gY d->2 ^ k ∣ d
 |0,d,_=>⟨d,by simp⟩
 |k+1,d,h=>by
  have e:d % 2=0:=by
   rw[←G2];obtain⟨c,hc⟩:=h;rw[hc,ace,abx,adW];lia
  obtain⟨d',rfl⟩:∃d',d=d'+d':=⟨d / 2,by lia⟩;rw[G3,ace,acf (2 ^ k) 2,adW (gY d') 2] at h;have h1:2 ^ k ∣ gY d'*(2*gY d'+1):=Nat.dvd_of_mul_dvd_mul_left (by decide) h;have h2:2 ^ k ∣ gY d':=adR (cop k _) h1;obtain⟨c,hc⟩:=Aw k d' h2;exact⟨c,by rw[ace,abx,adW,←hc];lia⟩
noncomputable def sQ (M x:Nat):Nat->Nat
 |0=>x
 |n+1=>(sQ M x n*5+1) % M
theorem Ax (M x:Nat):∀n,sQ M x n % M=(5 ^ n*x+gY n) % M
 |0=>by simp[sQ,gY]
 |n+1=>by
  unfold sQ gY;rw[Nat.mod_mod,ace,acf (5 ^ n) 5,abx];have:=Ax M x n;rw[Nat.add_mod,Nat.mul_mod,this,←Nat.mul_mod,←Nat.add_mod];congr 1;rw[acf _ 5,Nat.mul_add];lia
theorem va (M x m:Nat):∀n,sQ M x (m+n)=sQ M (sQ M x m) n
 |0=>rfl
 |n+1=>by
  show (sQ M x (m+n)*5+1) % M=_;rw[va M x m n];rfl
theorem D6 {M x:Nat}(h:x<M):∀n,sQ M x n<M
 |0=>h
 |n+1=>ac8 _ (by lia)
theorem D7 {x d:Nat}(hx:x<2 ^ k)(h:sQ (2 ^ k) x d=x):2 ^ k ∣ d:=by
 have e:=Ax (2 ^ k) x d;rw[h,Av,Nat.add_mul,Nat.one_mul] at e;have h2:2 ^ k ∣ gY d*(2*(2*x)+1):=by
  have:gY d*(2*(2*x)+1)=4*gY d*x+gY d:=by
   rw[Nat.mul_add,Nat.mul_one,←abx,←abx,abx (gY d) 2 2,acf (gY d)]
  rw[this];have e2:(x+(4*gY d*x+gY d)) % 2 ^ k=x % 2 ^ k:=by rw[e];congr 1;lia
  have e3:((4*gY d*x+gY d)) % 2 ^ k=0:=by
   have:=(Nat.mod_eq_mod_iff (x:=x+(4*gY d*x+gY d)) (y:=x) (z:=2 ^ k)).mp e2;obtain⟨a,b,uN⟩:=this;have:4*gY d*x+gY d+2 ^ k*a=2 ^ k*b:=by rw[acf _ a,acf _ b];lia
   have h3:2 ^ k ∣ 4*gY d*x+gY d:=(Nat.dvd_add_right (Nat.dvd_mul_right (2 ^ k) a)).mp (by rw[Nat.add_comm,this];exact Nat.dvd_mul_right _ _);exact Nat.mod_eq_zero_of_dvd h3
  exact Nat.dvd_of_mod_eq_zero e3
 exact Aw k d (adR (cop k _) h2)
theorem G4 {x a b:Nat}(hx:x<2 ^ k)(ha:a<2 ^ k)(hb:b<2 ^ k)(h:sQ (2 ^ k) x a=sQ (2 ^ k) x b):a=b:=by
 have key:∀a b,a<=b->b<2 ^ k->sQ (2 ^ k) x a=sQ (2 ^ k) x b->a=b:=λa b uN hb h=>by
  obtain⟨d,rfl⟩:∃d,b=a+d:=⟨b-a,by lia⟩;rw[va] at h;have:=D7 (D6 hx a) h.symm;have:d=0:=Nat.eq_zero_of_dvd_of_lt this (by lia);lia
 rcases Nat.le_total a b with z|z
 ·exact key a b z hb h
 ·exact (key b a z ha h.symm).symm
theorem G5 {x y:Nat}(hx:x<2 ^ k)(hy:y<2 ^ k):∃n,n<2 ^ k/\sQ (2 ^ k) x n=y:=by
 refine acn λhn=>?_;have nd:((aaA (2 ^ k)).map (sQ (2 ^ k) x)).Nodup:=by
  unfold List.Nodup;rw[abJ];refine acB (λ{a b} ha hb uN e=>?_) adn;exact uN (G4 hx (aax.mp ha) (aax.mp hb) e)
 have:=acF (l₁:=y::(aaA (2 ^ k)).map (sQ (2 ^ k) x)) (l₂:=aaA (2 ^ k))
  (aa4.mpr ⟨λh=>by
   obtain⟨n,h1,h2⟩:=aaP.mp h;exact hn ⟨n,aax.mp h1,h2⟩,nd⟩)
  (λz hz=>by
   rcases Z4.mp hz with e|hz
   ·rw[e];exact aax.mpr hy
   ·obtain⟨n,_,rfl⟩:=aaP.mp hz;exact aax.mpr (D6 hx n))
 rw[ZT,ZW,abk] at this;lia
noncomputable def fE (mask:Nat):Nat->Nat×Nat->Nat×Nat
 |0,p=>p
 |n+1,p=>fE mask n (leap mask p.1 p.2)
theorem tX (mask m n:Nat)(p:Nat×Nat):fE mask (m+n) p=fE mask n (fE mask m p):=by
 induction m generalizing p with
 |zero=>rw[acd];rfl
 |succ m ih=>rw[Nat.succ_add];exact ih _
theorem tY (mask:Nat):∀(n i q:Nat),(fE mask n (i,q)).2=q / 32 ^ n
 |0,i,q=>by simp[fE]
 |n+1,i,q=>by
  show (fE mask n (leap mask i q)).2=_;unfold leap;rw[tY,Nat.div_div_eq_div_mul,ace,acf 32]
theorem xc (mask:Nat):∀(n i q:Nat),i<=mask->(fE mask n (i,q)).1<=mask
 |0,i,q,h=>h
 |n+1,i,q,h=>xc mask n _ _ (ab2 (ac8 _ (acU _)))
theorem qN (mask:Nat):∀(n i:Nat),fE mask n (i,0)=(sQ (mask+1) i n,0)
 |0,i=>rfl
 |n+1,i=>by
  rw[Nat.add_comm n 1,tX];show fE mask n (leap mask i 0)=_;rw[show leap mask i 0=(sQ (mask+1) i 1,0) by unfold leap sQ sQ;simp,qN,va]
theorem tZ (hm:mask+1=2 ^ k){q y:Nat}(hi:i<=mask)(hq:q<2 ^ 64)(hy:y<=mask):∃n,n<mask+14/\(fE mask n (i,q)).1=y:=by
 have z:(fE mask 13 (i,q)).2=0:=by
  rw[tY];exact Nat.div_eq_of_lt (Nat.lt_trans hq (by decide))
 have e:fE mask 13 (i,q)=((fE mask 13 (i,q)).1,0):=by rw[←z]
 obtain⟨n,h1,h2⟩:=G5 (k:=k) (x:=(fE mask 13 (i,q)).1) (y:=y) (by rw[←hm];exact Nat.lt_succ_of_le (xc mask 13 i q hi)) (by lia);refine⟨13+n,by lia,?_⟩;rw[tX,e,qN,hm];exact h2
end Hc.Sx
namespace Hc.Sx
open PySem.SetTable
def Nm (xs:Array Nat):Prop:=∀i j (hi:i<xs.size) (hj:j<xs.size),i<j->xs[i]<xs[j]
theorem qO {xs:Array Nat}{j:Nat}(hr:Nm xs):∀(fuel lo hi:Nat),lo<=hi->hi<=xs.size->hi-lo<=fuel->(∀i (h:i<xs.size),i<lo->xs[i]<j)->(∀i (h:i<xs.size),hi<=i->j<=xs[i])->
  (∀i (h:i<xs.size),i<below.go xs j fuel lo hi->xs[i]<j)/\(∀i (h:i<xs.size),below.go xs j fuel lo hi<=i->j<=xs[i])/\below.go xs j fuel lo hi<=xs.size
 |0,lo,hi,h1,h2,h3,a,b=>by
  have:lo=hi:=by lia
  subst this;exact⟨a,b,h2⟩
 |fuel+1,lo,hi,h1,h2,h3,a,b=>by
  unfold below.go;by_cases c:lo<hi
  ·rw[hV c];dsimp only;have hm:(lo+hi) / 2<xs.size:=by lia
   have hd:xs.getD ((lo+hi) / 2) j=xs[(lo+hi) / 2]:=by simp[adX,hm]
   rw[hd];by_cases c2:xs[(lo+hi) / 2]<j
   ·rw[hV c2];refine qO hr fuel _ hi (by lia) h2 (by lia) (λi h we=>?_) b;rcases acV i ((lo+hi) / 2) with z|z
    ·exact Nat.lt_trans (hr _ _ h hm z) c2
    ·have:i=(lo+hi) / 2:=by lia
     subst this;exact c2
   ·rw[hU c2];refine qO hr fuel lo _ (by lia) (by lia) (by lia) a (λi h we=>?_);rcases acV ((lo+hi) / 2) i with z|z
    ·have:=hr _ _ hm h z;lia
    ·have:i=(lo+hi) / 2:=by lia
     subst this;lia
  ·rw[hU c];have:lo=hi:=by lia
   subst this;exact⟨a,b,h2⟩
theorem mH {xs:Array Nat}(hr:Nm xs):(∀i (h:i<xs.size),i<below xs j->xs[i]<j)/\(∀i (h:i<xs.size),below xs j<=i->j<=xs[i])/\below xs j<=xs.size:=
 qO hr _ _ _ (aba _) (Z2 _) (by lia) (λi _ h=>by lia) (λi h h'=>by lia)
theorem D8 {xs:Array Nat}(hr:Nm xs)(h:xs[i]? = some j):below xs j=i:=by
 obtain⟨hi,e⟩:=aaR.mp h;obtain⟨a,b,c⟩:=mH (j:=j) hr;rcases adY (below xs j) i with z|z|z
 ·have h1:=b (below xs j) (by lia) (Z2 _);have h2:=hr _ _ (by lia) hi z;lia
 ·exact z
 ·have:=a i hi z;lia
variable {V:Type}
structure t6 (t:adi)(es:Array (Int×V))(C:Nat->Option (Int×V)):Prop where
 ris:Nm t.place
 sz:t.place.size=es.size
 dum:t.dummies=#[]
 pow:∃k,t.mask+1=2 ^ k
 room:es.size<=t.mask
 top:∀(i j:Nat),t.place[i]? = some j->j<=t.mask
 con:∀(j:Nat) (e:Int×V),C j=some e↔∃i:Nat,t.place[i]? = some j/\es[i]? = some e
section
variable {es:Array (Int×V)}{C:Nat->Option (Int×V)}
theorem xf {xs:Array Nat}(h:xs=#[])(j:Nat):has xs j=false:=by subst h;rfl
theorem t6.live (T:t6 t es C){e:Int×V}(h:C j=some e):∃i,t.slot j=.live i/\es[i]? = some e/\t.place[i]? = some j:=by
 obtain⟨i,h1,h2⟩:=(T.con j e).mp h;refine⟨i,?_,h2,h1⟩;unfold SetTable.slot;dsimp only;rw[D8 T.ris h1,h1];simp
theorem t6.empty (T:t6 t es C)(h:C j=none):t.slot j=.empty:=by
 unfold SetTable.slot;dsimp only;have n:(t.place[below t.place j]? == some j)=false:=by
  rw[ac5];intro c;have c:t.place[below t.place j]? = some j:=by simpa using c
  have hi:=(aaR.mp c).1;have JN:below t.place j<es.size:=by rw[←T.sz];exact hi
  have:es[below t.place j]? = some es[below t.place j]:=aap JN;rw[(T.con j _).mpr ⟨_,c,this⟩] at h;cases h
 rw[n,xf T.dum];rfl
theorem t6.free (T:t6 t es C):∃y,y<=t.mask/\C y=none:=by
 refine acn λhn=>?_;have hs:=T.sz;have hr:=T.room;have:=acF (l₁:=aaA (t.mask+1)) (l₂:=t.place.toList) adn (λy hy=>by
  have hy:=aax.mp hy;cases e:C y with
  |none=>exact absurd ⟨y,by lia,e⟩ hn
  |some v=>
   obtain⟨i,h1,_⟩:=(T.con y v).mp e;have:=Array.mem_of_getElem? h1;simpa using this)
 rw[abk,ZR] at this;lia
end
noncomputable def adv (mask:Nat)(p:Probe):Probe:=
 if p.more>0 then {p with j:=p.j+1,more:=p.more-1} else
 {p with j:=(leap mask p.i p.perturb).1,more:=runEnd mask (leap mask p.i p.perturb).1-(leap mask p.i p.perturb).1,i:=(leap mask p.i p.perturb).1,perturb:=(leap mask p.i p.perturb).2}
theorem D9 (t:adi)(p:Probe):t.advance p=adv t.mask p:=by unfold SetTable.advance adv;rfl
noncomputable def advs (mask:Nat):Nat->Probe->Probe
 |0,p=>p
 |n+1,p=>advs mask n (adv mask p)
theorem iw (mask m n:Nat)(p:Probe):advs mask (m+n) p=advs mask n (advs mask m p):=by
 induction m generalizing p with
 |zero=>rw[acd];rfl
 |succ m ih=>rw[Nat.succ_add];exact ih _
theorem t7 (mask n:Nat)(p:Probe):advs mask (n+1) p=adv mask (advs mask n p):=by rw[iw];rfl
structure j4 (mask:Nat)(p:Probe):Prop where
 i:p.i<=mask
 q:p.perturb<2 ^ 64
 m:p.more<=9
 d:p.dummy=none
theorem nG (mask i:Nat):runEnd mask i-i<=9:=by unfold runEnd;split<;>lia
theorem j4.adv {p:Probe}(h:j4 mask p):j4 mask (adv mask p):=by
 unfold Hc.Sx.adv;split
 ·exact⟨h.i,h.q,by have:=h.m;dsimp only;lia,h.d⟩
 ·refine⟨ab2 (ac8 _ (acU _)),?_,nG _ _,h.d⟩;exact adH (Nat.div_le_self _ _) h.q
theorem j4.advs {mask:Nat}:∀(n:Nat) {p:Probe},j4 mask p->j4 mask (advs mask n p)
 |0,_,h=>h
 |n+1,_,h=>j4.advs n h.adv
theorem Ay (h:Int):bits h<2 ^ 64:=by
 unfold bits;have:h % (2 ^ 64:Int)<2 ^ 64:=acg _ (by decide);have h0:0<=h % (2 ^ 64:Int):=acW _ (by decide);lia
theorem j4.start (t:adi)(h:Int):j4 t.mask (t.probeStart h):=
 ⟨ab2 (ac8 _ (acU _)),Ay h,nG _ _,rfl⟩
theorem qP {mask:Nat}:∀(n:Nat) {p:Probe},p.more=n->(advs mask (n+1) p).j=(leap mask p.i p.perturb).1/\(advs mask (n+1) p).i=(leap mask p.i p.perturb).1/\(advs mask (n+1) p).perturb=(leap mask p.i p.perturb).2/\(advs mask (n+1) p).more<=9
 |0,p,e=>by
  show (adv mask p).j=_/\(adv mask p).i=_/\(adv mask p).perturb=_/\(adv mask p).more<=9;unfold adv;rw[hU (by lia)];exact⟨rfl,rfl,rfl,nG _ _⟩
 |n+1,p,e=>by
  have:=qP (mask:=mask) n (p:=adv mask p) (by unfold adv;rw[hV (by lia)];show p.more-1=n;lia);have e1:(adv mask p).i=p.i/\(adv mask p).perturb=p.perturb:=by unfold adv;rw[hV (by lia)];exact⟨rfl,rfl⟩
  rw[e1.1,e1.2] at this;exact this
theorem oh {mask:Nat}:∀(n:Nat) {p:Probe},j4 mask p->∃m,m<=10*(n+1)/\(advs mask m p).j=(fE mask (n+1) (p.i,p.perturb)).1
 |0,p,h=>by
  obtain⟨a,_⟩:=qP (mask:=mask) p.more (p:=p) rfl;exact⟨p.more+1,by have:=h.m;lia,a⟩
 |n+1,p,h=>by
  obtain⟨a,b,c,d⟩:=qP (mask:=mask) p.more (p:=p) rfl;obtain⟨m,h1,h2⟩:=oh n (j4.advs (p.more+1) h);refine⟨p.more+1+m,by have:=h.m;lia,?_⟩;rw[iw,h2,b,c];rfl
theorem t9 (hm:mask+1=2 ^ k){p:Probe}(h:j4 mask p){y:Nat}(hy:y<=mask):∃m,m<10*turns mask/\(advs mask m p).j=y:=by
 obtain⟨n,h1,h2⟩:=tZ hm (i:=(leap mask p.i p.perturb).1) (q:=(leap mask p.i p.perturb).2) (y:=y) (ab2 (ac8 _ (acU _))) (adH (Nat.div_le_self _ _) h.q) hy;obtain⟨m,h3,h4⟩:=oh n h;refine⟨m,by unfold turns;lia,?_⟩;rw[h4];exact h2
section
variable {es:Array (Int×V)}{C:Nat->Option (Int×V)}{hashAt:Nat->Int}
theorem Az (T:t6 t es C)(hh:∀i e,es[i]? = some e->hashAt i=e.1)(h:Int):∀(m fuel:Nat) (p:Probe),j4 t.mask p->m<fuel->C (advs t.mask m p).j=none->
    ∃m',m'<=m/\(∀a,a<m'->∃e,C (advs t.mask a p).j=some e/\e.1≠h)/\
      ((C (advs t.mask m' p).j=none/\probe.go t hashAt h fuel p=some (.empty (advs t.mask m' p).j none)) \/
       ∃e i,C (advs t.mask m' p).j=some e/\e.1=h/\es[i]? = some e/\t.place[i]? = some (advs t.mask m' p).j/\probe.go t hashAt h fuel p=some (.candidate (advs t.mask m' p).j i (advs t.mask (m'+1) p)))
  |m,0,p,_,hf,_=>by lia
  |m,fuel+1,p,hp,hf,he=>by
    unfold probe.go;cases c:C p.j with
    |none=>
      refine⟨0,aba _,λa ha=>by lia,.inl ⟨c,?_⟩⟩;rw[T.empty c];dsimp only;rw[hp.d];rfl
    |some e=>
      obtain⟨i,h1,h2,h3⟩:=T.live c;rw[h1];dsimp only;rw[hh i e h2];by_cases q:e.1=h
      · refine⟨0,aba _,λa ha=>by lia,.inr ⟨e,i,c,q,h2,h3,?_⟩⟩;rw[hV (by rw[q];simp),D9];rfl
      · rw[hU (by simpa using q),D9];cases m with
        |zero=>rw[show advs t.mask 0 p=p from rfl,c] at he;cases he
        |succ m=>
          obtain⟨m',g1,g2,g3⟩:=Az T hh h m fuel (adv t.mask p) hp.adv (by lia) he;refine⟨m'+1,by lia,λa ha=>?_,g3⟩;cases a with
          |zero=>exact⟨e,c,q⟩
          |succ a=>exact g2 a (by lia)
theorem zf (T:t6 t es C)(hh:∀i e,es[i]? = some e->hashAt i=e.1)(h:Int){p:Probe}(hp:j4 t.mask p) :
    ∃m',(∀a,a<m'->∃e,C (advs t.mask a p).j=some e/\e.1≠h)/\
      ((C (advs t.mask m' p).j=none/\t.probe hashAt h p=some (.empty (advs t.mask m' p).j none)) \/
       ∃e i,C (advs t.mask m' p).j=some e/\e.1=h/\es[i]? = some e/\t.place[i]? = some (advs t.mask m' p).j/\t.probe hashAt h p=some (.candidate (advs t.mask m' p).j i (advs t.mask (m'+1) p))):=by
  obtain⟨y,hy,hc⟩:=T.free;obtain⟨k,hk⟩:=T.pow;obtain⟨m,h1,h2⟩:=t9 hk hp hy;obtain⟨m',_,g2,g3⟩:=Az T hh h m _ p hp h1 (by rw[h2];exact hc);exact⟨m',g2,g3⟩
end
end Hc.Sx
namespace Hc.Sx
open PySem.SetTable
theorem i8 {α:Type}(xs:Array α)(p:Nat)(x:α):(insertAt xs p x).toList=xs.toList.take p++x::xs.toList.drop p:=by
 unfold insertAt;simp[acr,List.extract_eq_drop_take];exact ab8 (by simp)
theorem bP {α:Type}{xs:Array α}{p:Nat}{x:α}(h:p<=xs.size)(i:Nat):(insertAt xs p x)[i]? = if i<p then xs[i]? else if i=p then some x else xs[i-1]? := by
 rw[←aaa,i8];have lt:(xs.toList.take p).length=p:=by rw[aaM,ZR];lia
 by_cases c:i<p
 ·rw[hV c,aa7 (by lia),ae5 c,aaa]
 ·rw[hU c,aaQ (by lia),lt];by_cases c2:i=p
  ·rw[hV c2,c2,aeT];rfl
  ·rw[hU c2,show i-p=(i-p-1)+1 by lia,aa1,adN,aaa];congr 1;lia
theorem gw {α:Type}{xs:Array α}{p:Nat}{x:α}(h:p<=xs.size):(insertAt xs p x).size=xs.size+1:=by
 rw[←ZR,i8,ZZ,ZT,aaM,abf,ZR];lia
variable {V:Type}
noncomputable def KW (C:Nat->Option (Int×V))(j:Nat)(e:Int×V):Nat->Option (Int×V):=λy=>if y=j then some e else C y
def Il (mask:Nat)(st:Int->Probe)(C:Nat->Option (Int×V)):Prop:=∀(j:Nat) (e:Int×V),C j=some e->∃n,(advs mask n (st e.1)).j=j/\∀m,m<n->∃e',C (advs mask m (st e.1)).j=some e'
section
variable {es:Array (Int×V)}{C:Nat->Option (Int×V)}
theorem t6.put (T:t6 t es C){e:Int×V}(hj:j<=t.mask)(hc:C j=none)(hr:es.size+1<=t.mask) :
  t6 (t.put j).1 (insertAt es (t.put j).2 e) (KW C j e)/\(t.put j).1.mask=t.mask/\(t.put j).1.plain=t.plain/\(t.put j).1.led=t.led/\(t.put j).1.moves=t.moves/\(t.put j).1.finger=t.finger:=by
 obtain⟨a,b,c⟩:=mH (j:=j) T.ris;have nz:∀i,t.place[i]? ≠ some j:=λi h=>by
  have hi:=(aaR.mp h).1;have JN:i<es.size:=by rw[←T.sz];exact hi
  rw[(T.con j es[i]).mpr ⟨i,h,aap JN⟩] at hc;cases hc
 have ep:(t.put j).1={t with place:=insertAt t.place (below t.place j) j}:=by
  unfold SetTable.put;dsimp only;rw[xf T.dum];rfl
 have e2:(t.put j).2=below t.place j:=rfl;have c2:below t.place j<=es.size:=by rw[←T.sz];exact c
 rw[ep,e2];refine⟨⟨?_,?_,T.dum,T.pow,?_,?_,?_⟩,rfl,rfl,rfl,rfl,rfl⟩
 ·intro i i' hi we lt;have g:=λx=>bP (x:=j) c x;dsimp only at hi we ⊢;have e1:=g i;have yj:=g i';rw[aap hi] at e1;rw[aap we] at yj;rw[gw c] at hi we;have at_:∀x (hx:x<t.place.size),t.place[x]? = some t.place[x]:=λx hx=>aap hx;have XT:∀x (hx:x<t.place.size),t.place[x]≠j:=λx hx z=>nz x (by rw[at_ x hx,z]);by_cases q:i<below t.place j
  ·rw[hV q,at_ i (by lia)] at e1;have e1:=aaj e1;rw[e1];by_cases q':i'<below t.place j
   ·rw[hV q',at_ i' (by lia)] at yj;rw[aaj yj];exact T.ris _ _ _ _ lt
   ·rw[hU q'] at yj;by_cases r':i'=below t.place j
    ·rw[hV r'] at yj;rw[aaj yj];exact a i (by lia) q
    ·rw[hU r',at_ (i' - 1) (by lia)] at yj;rw[aaj yj];have h1:=a i (by lia) q;have h2:=b (i' - 1) (by lia) (by lia);lia
  ·rw[hU q] at e1;rw[hU (by lia),hU (by lia),at_ (i' - 1) (by lia)] at yj;rw[aaj yj];by_cases r:i=below t.place j
   ·rw[hV r] at e1;rw[aaj e1];have h2:=b (i' - 1) (by lia) (by lia);have h3:=XT (i' - 1) (by lia);lia
   ·rw[hU r,at_ (i-1) (by lia)] at e1;rw[aaj e1];exact T.ris _ _ _ _ (by lia)
 ·show (insertAt t.place _ j).size=_;rw[gw c,gw c2,T.sz]
 ·rw[gw c2];exact hr
 ·intro i y h;have h:(insertAt t.place (below t.place j) j)[i]? = some y:=h;rw[bP c] at h;split at h
  ·exact T.top i y h
  ·split at h
   ·cases h;exact hj
   ·exact T.top _ y h
 ·intro y v;show KW C j e y=some v↔∃i,(insertAt t.place (below t.place j) j)[i]? = some y/\(insertAt es (below t.place j) e)[i]? = some v;unfold KW;constructor
  ·intro h;split at h
   ·rename_i q;cases h;subst q;refine⟨below t.place y,?_,?_⟩
    ·rw[bP c,hU (abL _),hV rfl]
    ·rw[bP c2,hU (abL _),hV rfl]
   ·obtain⟨i,h1,h2⟩:=(T.con y v).mp h;by_cases q:i<below t.place j
    ·exact⟨i,by rw[bP c,hV q];exact h1,by rw[bP c2,hV q];exact h2⟩
    ·exact⟨i+1,by rw[bP c,hU (by lia),hU (by lia)];exact h1,by rw[bP c2,hU (by lia),hU (by lia)];exact h2⟩
  ·rintro⟨i,h1,h2⟩;rw[bP c] at h1;rw[bP c2] at h2;by_cases q:i<below t.place j
   ·rw[hV q] at h1 h2;rw[hU (λz=>nz i (by rw[h1,z]))];exact (T.con y v).mpr ⟨i,h1,h2⟩
   ·rw[hU q] at h1 h2;by_cases r:i=below t.place j
    ·rw[hV r] at h1 h2;rw[hV (aaj h1).symm];exact h2
    ·rw[hU r] at h1 h2;rw[hU (λz=>nz (i-1) (by rw[h1,z]))];exact (T.con y v).mpr ⟨_,h1,h2⟩
theorem Il.up {st:Int->Probe}(P:Il mask st C){e:Int×V}(hb:∀m,m<n->∃e',C (advs mask m (st e.1)).j=some e')(hc:C (advs mask n (st e.1)).j=none):Il mask st (KW C (advs mask n (st e.1)).j e):=by
 have FU:∀y,(∃e',C y=some e')->∃e',KW C (advs mask n (st e.1)).j e y=some e':=λy h00=>by
  obtain⟨e',h⟩:=h00;unfold KW;split
  ·exact⟨_,rfl⟩
  ·exact⟨e',h⟩
 intro j v h;unfold KW at h;split at h
 ·rename_i q;cases h;exact⟨n,q.symm,λm hm=>FU _ (hb m hm)⟩
 ·obtain⟨n',h1,h2⟩:=P j v h;exact⟨n',h1,λm hm=>FU _ (h2 m hm)⟩
theorem Il.met {st:Int->Probe}(P:Il mask st C){h:Int}(hc:C (advs mask n (st h)).j=none){e:Int×V}(he:C j=some e)(hh:e.1=h):∃m,m<n/\(advs mask m (st h)).j=j:=by
 obtain⟨m,h1,h2⟩:=P j e he;rw[hh] at h1 h2;rcases adY m n with z|z|z
 ·exact⟨m,z,h1⟩
 ·subst z;rw[h1,he] at hc;cases hc
 ·obtain⟨e',q⟩:=h2 n z;rw[q] at hc;cases hc
end
noncomputable def adD (mask:Nat)(h:Int):Probe:={j:=bits h % (mask+1),more:=runEnd mask (bits h % (mask+1))-bits h % (mask+1),i:=bits h % (mask+1),perturb:=bits h,dummy:=none}
theorem nH {mask:Nat}:∀(k:Nat) {p:Probe},k<=p.more->(advs mask k p).j=p.j+k/\(advs mask k p).more=p.more-k/\(advs mask k p).i=p.i/\(advs mask k p).perturb=p.perturb/\(advs mask k p).dummy=p.dummy
 |0,p,_=>⟨rfl,rfl,rfl,rfl,rfl⟩
 |k+1,p,h=>by
  obtain⟨a,b,c,d,e⟩:=nH (mask:=mask) k (p:=adv mask p) (by unfold adv;rw[hV (by lia)];dsimp only;lia);have e1:(adv mask p).j=p.j+1/\(adv mask p).more=p.more-1/\(adv mask p).i=p.i/\(adv mask p).perturb=p.perturb/\(adv mask p).dummy=p.dummy:=by unfold adv;rw[hV (by lia)];exact⟨rfl,rfl,rfl,rfl,rfl⟩
  refine⟨?_,?_,c.trans e1.2.2.1,d.trans e1.2.2.2.1,e.trans e1.2.2.2.2⟩
  ·show (advs mask k (adv mask p)).j=_;rw[a,e1.1];lia
  ·show (advs mask k (adv mask p)).more=_;rw[b,e1.2.1];lia
theorem t_ {mask:Nat}{owner:Array (Option Nat)}(hs:owner.size=mask+1):∀(n fuel:Nat) (p:Probe),p.j=p.i->p.more=runEnd mask p.i-p.i->p.i<=mask->n<fuel->owner[(fE mask n (p.i,p.perturb)).1]? = some none->
  ∃m,layClean.free mask owner fuel p.i p.perturb=some (advs mask m p).j/\owner[(advs mask m p).j]? = some none/\∀a,a<m->∃i,owner[(advs mask a p).j]? = some (some i)
 |n,0,p,_,_,_,hf,_=>by lia
 |n,fuel+1,p,hj,hm,hi,hf,hn=>by
  have re:runEnd mask p.i<=mask/\p.i<=runEnd mask p.i:=by unfold runEnd;split<;>lia
  have at_:∀a,a<=p.more->∃o,owner[p.i+a]? = some o:=λa ha=>⟨owner[p.i+a]'(by lia),aap (by lia)⟩;have gd:∀a o,owner[p.i+a]? = some o->owner.getD (p.i+a) (some 0)=o:=λa o h=>by
   obtain⟨h1,h2⟩:=aaR.mp h;simp[adX,h1,h2]
  unfold layClean.free;cases hq:(aaA (runEnd mask p.i+1-p.i)).find? (λk=>(owner.getD (p.i+k) (some 0)).isNone) with
  |some k=>
   obtain⟨h1,as,bs,h2,h3⟩:=List.find?_eq_some_iff_append.mp hq;have hk:k<runEnd mask p.i+1-p.i:=aax.mp (by rw[h2];simp);have JO:k<=p.more:=by lia
   obtain⟨o,ho⟩:=at_ k JO;rw[gd k o ho] at h1;have on:o=none:=by cases o with
    |none=>rfl
    |some x=>cases h1
   subst on;refine⟨k,?_,?_,λa ha=>?_⟩
   ·dsimp only;rw[(nH k JO).1,hj]
   ·rw[(nH k JO).1,hj];exact ho
   ·rw[(nH a (by lia)).1,hj];obtain⟨o,ho⟩:=at_ a (by lia);have am:a∈as:=by
     have la:as.length=k:=by
      have e:(aaA (runEnd mask p.i+1-p.i))[as.length]? = some k:=by rw[h2,aaQ (Z2 _),aeT];rfl
      have lt:as.length<runEnd mask p.i+1-p.i:=by
       have:=(Z0.mp e).1;simpa using this
      rw[adt lt] at e;exact aaj e
     have e:(aaA (runEnd mask p.i+1-p.i))[a]? = some a:=adt (by lia);rw[h2,aa7 (by lia)] at e;exact aaV e
    have:=h3 a am;rw[gd a o ho] at this;cases o with
    |none=>simp at this
    |some x=>exact⟨x,ho⟩
  |none=>
   have all:=adO.mp hq;have WO:∀a,a<=p.more->∃i,owner[p.i+a]? = some (some i):=λa ha=>by
    obtain⟨o,ho⟩:=at_ a ha;have:=all a (aax.mpr (by lia));rw[gd a o ho] at this;cases o with
    |none=>simp at this
    |some x=>exact⟨x,ho⟩
   cases n with
   |zero=>
    obtain⟨i,h⟩:=WO 0 (aba _);rw[show fE mask 0 (p.i,p.perturb)=(p.i,p.perturb) from rfl,←aeU p.i,h] at hn;cases hn
   |succ n=>
    obtain⟨a1,a2,a3,a4,a5⟩:=nH (mask:=mask) p.more (p:=p) (Z2 _);have e1:advs mask (p.more+1) p={advs mask p.more p with j:=(leap mask p.i p.perturb).1,more:=runEnd mask (leap mask p.i p.perturb).1-(leap mask p.i p.perturb).1,i:=(leap mask p.i p.perturb).1,perturb:=(leap mask p.i p.perturb).2}:=by
     rw[t7];unfold adv;rw[hU (by lia),a3,a4]
    obtain⟨m,g1,g2,g3⟩:=t_ hs n fuel (advs mask (p.more+1) p) (by rw[e1]) (by rw[e1]) (by rw[e1];exact ab2 (ac8 _ (acU _))) (by lia) (by rw[e1];exact hn);refine⟨p.more+1+m,?_,by rw[iw];exact g2,λa ha=>?_⟩
    ·rw[iw];rw[e1] at g1 ⊢;exact g1
    ·rcases acV a (p.more+1) with z|z
     ·rw[(nH a (by lia)).1,hj];exact WO a (by lia)
     ·have:=g3 (a-(p.more+1)) (by lia);rw[←iw,show p.more+1+(a-(p.more+1))=a by lia] at this;exact this
end Hc.Sx
namespace Hc.Sx
open PySem.SetTable
structure Im (mask:Nat)(owner:Array (Option Nat))(k:Nat)(Hf:Nat->Int):Prop where
 sz:owner.size=mask+1
 ix:∀(j i:Nat),owner[j]? = some (some i)->i<k
 ex:∀i:Nat,i<k->∃j:Nat,owner[j]? = some (some i)
 un:∀(j j' i:Nat),owner[j]? = some (some i)->owner[j']? = some (some i)->j=j'
 pt:∀(j i:Nat),owner[j]? = some (some i)->∃n,(advs mask n (adD mask (Hf i))).j=j/\∀m,m<n->∃i':Nat,owner[(advs mask m (adD mask (Hf i))).j]? = some (some i')
section
variable {owner:Array (Option Nat)}{Hf:Nat->Int}
theorem Im.free (O:Im mask owner k Hf)(hk:k<=mask):∃y,y<=mask/\owner[y]? = some none:=by
 refine acn λhn=>?_;have full:∀y,y<mask+1->∃i,owner[y]? = some (some i):=λy hy=>by
  have h1:y<owner.size:=by rw[O.sz];exact hy
  cases e:owner[y] with
  |none=>exact absurd ⟨y,by lia,by rw[aap h1,e]⟩ hn
  |some i=>exact⟨i,by rw[aap h1,e]⟩
 have g:∀y,∃i,y<mask+1->owner[y]? = some (some i):=λy=>by
  by_cases h:y<mask+1
  ·obtain⟨i,e⟩:=full y h;exact⟨i,λ_=>e⟩
  ·exact⟨0,λz=>absurd z h⟩
 let f:=λy=>Classical.choose (g y)
 have hf:∀y,y<mask+1->owner[y]? = some (some (f y)):=λy=>Classical.choose_spec (g y);have:=acF (l₁:=(aaA (mask+1)).map f) (l₂:=aaA k) (by
  unfold List.Nodup;rw[abJ];refine acB (λ{a b} ha hb uN e=>?_) adn;have h1:=hf a (aax.mp ha);have h2:=hf b (aax.mp hb);rw[e] at h1;exact uN (O.un _ _ _ h1 h2)) (λx hx=>by
  obtain⟨y,hy,rfl⟩:=aaP.mp hx;exact aax.mpr (O.ix y _ (hf y (aax.mp hy))))
 rw[ZW,abk,abk] at this;lia
theorem Im.step (O:Im mask owner k Hf)(hp:∃p,mask+1=2 ^ p)(hk:k<=mask):∃j,layClean.free mask owner (turns mask) (bits (Hf k) % (mask+1)) (bits (Hf k))=some j/\Im mask (owner.setIfInBounds j (some k)) (k+1) Hf:=by
 obtain⟨y,hy,ho⟩:=O.free hk;obtain⟨p,hp⟩:=hp;have hi:bits (Hf k) % (mask+1)<=mask:=ab2 (ac8 _ (acU _));obtain⟨n,h1,h2⟩:=tZ hp (i:=bits (Hf k) % (mask+1)) (q:=bits (Hf k)) hi (Ay _) hy;obtain⟨m,g1,g2,g3⟩:=t_ O.sz n (turns mask) (adD mask (Hf k)) rfl rfl hi (by unfold turns;lia) (by
  show owner[(fE mask n (bits (Hf k) % (mask+1),bits (Hf k))).1]? = _;rw[h2];exact ho)
 refine⟨_,g1,?_⟩;have hj:(advs mask m (adD mask (Hf k))).j<owner.size:=(aaR.mp g2).1;generalize ej:(advs mask m (adD mask (Hf k))).j=j at *;have gt:∀x,(owner.setIfInBounds j (some k))[x]? = if x=j then some (some k) else owner[x]? := λx=>by
  rw[Array.getElem?_setIfInBounds];by_cases c:j=x
  ·rw[hV c,hV c.symm,hV hj]
  ·rw[hU c,hU (λz=>c z.symm)]
 have FU:∀x:Nat,(∃i':Nat,owner[x]? = some (some i'))->∃i':Nat,(owner.setIfInBounds j (some k))[x]? = some (some i'):=λx h00=>by
  obtain⟨i',h⟩:=h00;rw[gt];split
  ·exact⟨k,rfl⟩
  ·exact⟨i',h⟩
 refine⟨by rw[Array.size_setIfInBounds];exact O.sz,λx i h=>?_,λi hi=>?_,λx x' i h h'=>?_,λx i h=>?_⟩
 ·rw[gt] at h;split at h
  ·cases h;lia
  ·have:=O.ix x i h;lia
 ·by_cases c:i=k
  ·exact⟨j,by rw[gt,hV rfl,c]⟩
  ·obtain⟨x,h⟩:=O.ex i (by lia);refine⟨x,?_⟩;rw[gt,hU (λz=>by rw[z,g2] at h;cases h)];exact h
 ·rw[gt] at h h';by_cases c:x=j
  ·by_cases c':x'=j
   ·rw[c,c']
   ·rw[hV c] at h;rw[hU c'] at h';cases h;have:=O.ix _ _ h';lia
  ·by_cases c':x'=j
   ·rw[hU c] at h;rw[hV c'] at h';cases h';have:=O.ix _ _ h;lia
   ·rw[hU c] at h;rw[hU c'] at h';exact O.un _ _ _ h h'
 ·rw[gt] at h;split at h
  ·rename_i c;cases h;exact⟨m,by rw[ej,c],λa ha=>FU _ (g3 a ha)⟩
  ·obtain⟨n,h1,h2⟩:=O.pt x i h;exact⟨n,h1,λa ha=>FU _ (h2 a ha)⟩
end
noncomputable def G6 (mask:Nat)(cN:Option (Array (Option Nat)×Nat))(h:Int):Option (Array (Option Nat)×Nat):=do
  let (owner,k) ←cN
  let j ←layClean.free mask owner (turns mask) (bits h % (mask+1)) (bits h)
  pure (owner.setIfInBounds j (some k),k+1)
theorem AA {mask:Nat}{Hf:Nat->Int}(hp:∃p,mask+1=2 ^ p):∀(hs:List Int) (k:Nat) (owner:Array (Option Nat)),Im mask owner k Hf->(∀i,i<hs.length->hs[i]? = some (Hf (k+i)))->k+hs.length<=mask->
  ∃owner',hs.foldl (G6 mask) (some (owner,k))=some (owner',k+hs.length)/\Im mask owner' (k+hs.length) Hf
 | [],k,owner,O,_,_=>⟨owner,rfl,O⟩
 |h::hs,k,owner,O,he,hl=>by
  have e0:h=Hf k:=by have:=he 0 (by simp);simpa using this
  rw[ZT] at hl;obtain⟨j,g1,g2⟩:=O.step hp (by lia);obtain⟨owner',f1,f2⟩:=AA hp hs (k+1) _ g2 (λi hi=>by
   have:=he (i+1) (by rw[ZT];lia);rw[aa1] at this;rw[this];congr 2;lia) (by lia)
  refine⟨owner',?_,?_⟩
  ·rw[List.foldl_cons,show G6 mask (some (owner,k)) h=some (owner.setIfInBounds j (some k),k+1) by unfold G6;rw[e0];simp[g1],f1,ZT];congr 2;lia
  ·rw[ZT,show k+(hs.length+1)=k+1+hs.length by lia];exact f2
theorem G7 (mask:Nat)(Hf:Nat->Int):Im mask (Array.replicate (mask+1) none) 0 Hf:=by
 have no:∀(j i:Nat),(Array.replicate (mask+1) (none:Option Nat))[j]? ≠ some (some i):=λj i h=>by
  rw[Array.getElem?_replicate] at h;split at h<;>cases h
 exact⟨by simp,λj i h=>absurd h (no j i),λi h=>absurd h (Nat.not_lt_zero _),λj _ i h=>absurd h (no j i),λj i h=>absurd h (no j i)⟩
theorem i9 {α β:Type}{f:α->Option β}:∀{l:List α},(∀x∈l,∃y,f x=some y)->∀n:Nat,(l.filterMap f)[n]? = (l[n]?).bind f
 | [],_,n=>by simp
 |x::l,h,n=>by
  obtain⟨y,hy⟩:=h x ZS;rw[ae_ hy];cases n with
  |zero=>simp[hy]
  |succ n=>simpa using i9 (λz hz=>h z (ZX _ hz)) n
theorem lq {α β:Type}{f:α->Option β}:∀{l:List α},(∀x∈l,∃y,f x=some y)->(l.filterMap f).length=l.length
 | [],_=>rfl
 |x::l,h=>by
  obtain⟨y,hy⟩:=h x ZS;rw[ae_ hy,ZT,ZT,lq λz hz=>h z (ZX _ hz)]
variable {V:Type}
theorem G8 {finger moves:Nat}{led plain:Bool}{es:Array (Int×V)}(hp:∃p,mask+1=2 ^ p)(hl:es.size<=mask):∃(t:adi) (order:Array Nat) (C:Nat->Option (Int×V)),laid mask finger moves led plain (es.map (·.1))=some (t,order)/\
  t6 t (order.filterMap (es[·]?)) C/\Il mask (adD mask) C/\(order.filterMap (es[·]?)).size=es.size/\t.mask=mask/\t.finger=finger/\t.moves=moves/\t.led=led/\t.plain=plain/\
  (order.filterMap (es[·]?)).toList.Perm es.toList:=by
 obtain⟨owner,f1,O⟩:=AA (Hf:=λi=>(es[i]?.map (·.1)).getD 0) hp (es.map (·.1)).toList 0 _ (G7 mask _) (λi hi=>by
  have JN:i<es.size:=by simpa using hi
  simp[JN]) (by simpa using hl)
 rw[acd,ZR,Array.size_map] at f1 O;have lc:layClean mask (es.map (·.1))=some owner:=by
  unfold layClean;rw[←Array.foldl_toList];show ((es.map (·.1)).toList.foldl (G6 mask) (some (Array.replicate (mask+1) none,0))).map (·.1)=some owner;rw[f1];rfl
 let live:=(aaA (mask+1)).filterMap λj=>(owner.getD j none).map (j,·)
 have gd:∀j i,owner.getD j none=some i↔owner[j]? = some (some i):=λj i=>by
  by_cases h:j<owner.size
  ·simp[adX,h]
  ·simp[adX,h]
 have ml:∀j i,(j,i)∈live↔owner[j]? = some (some i):=λj i=>by
  show (j,i)∈List.filterMap _ _↔_;rw[aeJ];constructor
  ·rintro⟨a,_,h⟩;cases e:owner.getD a none with
   |none=>rw[e] at h;cases h
   |some x=>rw[e] at h;cases h;exact (gd _ _).mp e
  ·intro h;refine⟨j,aax.mpr ?_,by rw[(gd j i).mpr h];rfl⟩;have:=(aaR.mp h).1;rw[O.sz] at this;exact this
 have pw:live.Pairwise (λa b=>a.1<b.1/\a.2≠b.2):=by
  show List.Pairwise _ (List.filterMap _ _);rw[List.pairwise_filterMap];refine List.pairwise_lt_range.imp λ{a b} uN x hx y hy=>?_;cases e:owner.getD a none with
  |none=>rw[e] at hx;cases hx
  |some i=>cases e':owner.getD b none with
   |none=>rw[e'] at hy;cases hy
   |some i'=>
    rw[e] at hx;rw[e'] at hy;cases hx;cases hy;refine⟨uN,λz=>?_⟩;dsimp only at z;subst z;have:=O.un _ _ _ ((gd _ _).mp e) ((gd _ _).mp e');lia
 have WQ:(live.map (·.2)).Perm (aaA es.size):=by
  have nd:(live.map (·.2)).Nodup:=by
   unfold List.Nodup;rw[abJ];exact pw.imp λh=>h.2
  exact (List.perm_ext_iff_of_nodup nd adn).mpr λi=>by
   rw[aaP,aax];constructor
   ·rintro⟨⟨j,i'⟩,h,rfl⟩;exact O.ix j i' ((ml j i').mp h)
   ·intro h;obtain⟨j,e⟩:=O.ex i h;exact⟨(j,i),(ml j i).mpr e,rfl⟩
 have len:live.length=es.size:=by
  have:=WQ.length_eq
  rwa [ZW,abk] at this
 have XU:∀x∈live,∃y,es[x.2]? = some y:=λx hx=>by
  have:=O.ix x.1 x.2 ((ml x.1 x.2).mp hx);exact⟨es[x.2],aap this⟩
 have OH:∀x∈live.map (·.2),∃y,es[x]? = some y:=λx hx=>by
  obtain⟨z,hz,rfl⟩:=aaP.mp hx;exact XU z hz
 have RF:((live.map (·.2)).toArray.filterMap (es[·]?)).toList=(live.map (·.2)).filterMap (es[·]?):=by simp
 have WR:∀n:Nat,((live.map (·.2)).toArray.filterMap (es[·]?))[n]? = (live[n]?).bind λx=>es[x.2]? := λn=>by
  rw[←aaa,RF,i9 OH,aay];cases live[n]? <;> rfl
 have RG:∀n:Nat,(live.map (·.1)).toArray[n]? = (live[n]?).map (·.1):=λn=>by
  rw[←aaa];simp
 let C:Nat->Option (Int×V):=λj=>(owner.getD j none).bind (es[·]?)
 have hC:∀j e,C j=some e↔∃i,owner[j]? = some (some i)/\es[i]? = some e:=λj e=>by
  show (owner.getD j none).bind _=some e↔_;cases q:owner.getD j none with
  |none=>
   refine⟨λh=>(by cases h),fun⟨i,h,_⟩=>?_⟩;rw[(gd j i).mpr h] at q;cases q
  |some i=>
   constructor
   ·intro h;exact⟨i,(gd j i).mp q,h⟩
   ·rintro⟨i',h,h2⟩;rw[(gd j i').mpr h] at q;cases q;exact h2
 have F6:((live.map (·.2)).toArray.filterMap (es[·]?)).size=es.size:=by
  rw[←ZR,RF,lq OH,ZW,len]
 refine⟨{mask,place:=(live.map (·.1)).toArray,dummies:=#[],finger,led,moves,plain},(live.map (·.2)).toArray,C,?_,⟨?_,?_,rfl,hp,?_,?_,?_⟩,?_,F6,rfl,rfl,rfl,rfl,rfl,?_⟩
 ·unfold laid;rw[lc];rfl
 ·intro i j hi hj lt;have g:=pw;rw[aco] at g;have we:i<live.length:=by simpa using hi
  have XW:j<live.length:=by simpa using hj
  have:=(g i j we XW lt).1;simpa using this
 ·show ((live.map (·.1)).toArray).size=_;rw[F6];simp[len]
 ·rw[F6];exact hl
 ·intro i j h;have h:(live.map (·.1)).toArray[i]? = some j:=h;rw[RG] at h;cases e:live[i]? with
  |none=>rw[e] at h;cases h
  |some x=>
   rw[e] at h;cases h;have:=(aaR.mp ((ml x.1 x.2).mp (aaV e))).1;rw[O.sz] at this;exact ab2 this
 ·intro j e;show C j=some e↔∃i:Nat,(live.map (·.1)).toArray[i]? = some j/\_;rw[hC];constructor
  ·rintro⟨i,h1,h2⟩;obtain⟨n,hn⟩:=List.mem_iff_getElem?.mp ((ml j i).mpr h1);exact⟨n,by rw[RG,hn];rfl,by rw[WR,hn];exact h2⟩
  ·rintro⟨n,h1,h2⟩;rw[RG] at h1;rw[WR] at h2;cases q:live[n]? with
   |none=>rw[q] at h1;cases h1
   |some x=>
    rw[q] at h1 h2;cases h1;exact⟨x.2,(ml x.1 x.2).mp (aaV q),h2⟩
 ·intro j e h;obtain⟨i,h1,h2⟩:=(hC j e).mp h;obtain⟨n,g1,g2⟩:=O.pt j i h1;have hf:(es[i]?.map (·.1)).getD 0=e.1:=by rw[h2];rfl
  rw[hf] at g1 g2;refine⟨n,g1,λm hm=>?_⟩;obtain⟨i',h3⟩:=g2 m hm;have:=O.ix _ _ h3;exact⟨es[i'],(hC _ _).mpr ⟨i',h3,aap this⟩⟩
 ·rw[RF];refine (WQ.filterMap _).trans ?_;have e:(aaA es.size).filterMap (es[·]?)=es.toList:=by
   refine acA λn=>?_;rw[i9 (λx hx=>⟨es[x]'(aax.mp hx),aap (aax.mp hx)⟩)];by_cases h:n<es.size
   ·rw[adt h];simp
   ·rw[abo.mpr (by simpa using h),abo.mpr (by simpa using h)];rfl
  rw[e]
end Hc.Sx
namespace Hc.Sx
open PySem.SetTable
theorem xg:∀(fuel size n:Nat),(∃p,size=2 ^ p)->8<=size->(size<=8\/size<=2*n)->n<size*2 ^ fuel->(∃p,sizeAbove.go n fuel size=2 ^ p)/\n<sizeAbove.go n fuel size/\8<=sizeAbove.go n fuel size/\(sizeAbove.go n fuel size<=8\/sizeAbove.go n fuel size<=2*n)
 |0,size,n,hp,h8,hb,hn=>by
  unfold sizeAbove.go;exact⟨hp,by simpa using hn,h8,hb⟩
 |fuel+1,size,n,⟨p,hp⟩,h8,hb,hn=>by
  unfold sizeAbove.go;by_cases c:size<=n
  ·rw[hV c];exact xg fuel (size*2) n ⟨p+1,by rw[hp,ace]⟩ (by lia) (.inr (by lia)) (by rw[ace,acf (2 ^ fuel) 2,←abx] at hn;exact hn)
  ·rw[hU c];exact⟨⟨p,hp⟩,by lia,h8,hb⟩
theorem D_ (h:n<2 ^ 60):(∃p,sizeAbove n=2 ^ p)/\n<sizeAbove n/\8<=sizeAbove n/\(sizeAbove n<=8\/sizeAbove n<=2*n):=
 xg 64 8 n ⟨3,rfl⟩ (Z2 _) (.inl (Z2 _)) (Nat.lt_trans h (by decide))
structure oj {prog:ack}{w:acJ}{K:Type}[DecidableEq K](knd:adK prog w K):Prop where
 cls:∀{A:aaD} {E:ZO->Z8->Prop} {s:Z8} {k:K} {a:Z5} {Q:Bool->Z8->Prop},knd.is s.heap k a->Q false s->aac (aar prog w) A (ofAClassStatement 8 (.ref a)) Q E s
 byv:∀{A:aaD} {E:ZO->Z8->Prop} {s:Z8} {k:K} {a:Z5} {Q:Bool->Z8->Prop},knd.is s.heap k a->Q true s->aac (aar prog w) A (hashByValue 8 (.ref a)) Q E s
 kept:∀{h h':acj} {k:K} {a d:Z5} {o:Obj} {es:Array (Int×ZO)} {ep:Nat} {t:adi},knd.is h k a->h.get? d=some o->o.data=.set es ep t->abM d h h'->knd.is h' k a
section
variable {K:Type}[DecidableEq K]{knd:adK prog w K}
noncomputable def Pp (knd:adK prog w K)(x:K×Z5):Int×ZO:=(knd.hash x.1,.ref x.2)
structure HS (knd:adK prog w K)(h:acj)(xs:List (K×Z5))(es:Array (Int×ZO))(t:adi)(C:Nat->Option (Int×ZO)):Prop where
 tab:t6 t es C
 pth:Il t.mask (adD t.mask) C
 pl:t.plain=true
 lo:7<=t.mask
 hi:t.mask<=8191
 few:es.size*5<t.mask*3
 per:es.toList.Perm (xs.map (Pp knd))
 keys:∀x∈xs,knd.is h x.1 x.2
 nd:(xs.map (·.1)).Nodup
def lP (knd:adK prog w K)(byText:Bool)(h:acj)(a:Z5)(xs:List (K×Z5)):Prop:=
 ∃o es ep t C,h.get? a=some o/\o.ExactSet/\o.data=.set es ep t/\HS knd h xs es t C/\(byText=true\/t.led=true)
variable {A:aaD}
theorem HS.fits {xs:List (K×Z5)}{es:Array (Int×ZO)}(S:HS knd h xs es t C):t.fits es.size=true:=by
 unfold SetTable.fits SetTable.fill;rw[S.tab.sz,S.tab.dum];simp;exact S.tab.room
theorem HS.stays {xs:List (K×Z5)}{es:Array (Int×ZO)}(S:HS knd h xs es t C):t.gaveWay=false:=by
 unfold SetTable.gaveWay;obtain⟨p,hp⟩:=S.tab.pow;have:=S.lo;cases p with
 |zero=>simp at hp;lia
 |succ p=>rw[ace] at hp;simp;lia
theorem HS.entry {xs:List (K×Z5)}{es:Array (Int×ZO)}(S:HS knd h xs es t C){e:Int×ZO}(he:e∈es.toList):∃k b,(k,b)∈xs/\e=(knd.hash k,.ref b)/\knd.is h k b:=by
 obtain⟨⟨k,b⟩,hx,rfl⟩:=aaP.mp (S.per.mem_iff.mp he);exact⟨k,b,hx,rfl,S.keys _ hx⟩
theorem HS.at {xs:List (K×Z5)}{es:Array (Int×ZO)}(S:HS knd h xs es t C){e:Int×ZO}(hc:C j=some e):∃k b,(k,b)∈xs/\e=(knd.hash k,.ref b)/\knd.is h k b:=by
 obtain⟨i,_,h2⟩:=(S.tab.con j e).mp hc;exact S.entry (by have:=Array.mem_of_getElem? h2;simpa using this)
theorem HS.has {xs:List (K×Z5)}{es:Array (Int×ZO)}(S:HS knd h xs es t C){k:K}(hx:(k,b)∈xs):∃j,C j=some (knd.hash k,.ref b):=by
 have:Pp knd (k,b)∈es.toList:=S.per.mem_iff.mpr (aaP.mpr ⟨_,hx,rfl⟩);obtain⟨i,hi⟩:=List.mem_iff_getElem?.mp this;rw[aaa] at hi;have h2:i<t.place.size:=by rw[S.tab.sz];exact (aaR.mp hi).1
 exact⟨t.place[i],(S.tab.con _ _).mpr ⟨i,aap h2,hi⟩⟩
theorem BV (sk:oj knd){k:K}(hk:knd.is s.heap k b){Q:Bool->Z8->Prop}(l:List ZO)(hl:∀y∈l,∃k' b',y=.ref b'/\knd.is s.heap k' b')(h:Q false s):aac (aar prog w) A (searchCouldBeSeen (.ref b) l) Q E s:=by
 unfold searchCouldBeSeen;refine ZL ?_;refine aec _ (λrest r s'=>r.1=none/\s'=s/\∀y∈rest,∃k' b',y=.ref b'/\knd.is s.heap k' b') _ ?_ ?_ _ _ ⟨rfl,rfl,hl⟩
 ·rintro y rest r s' ⟨hr,rfl,hy⟩;obtain⟨k',b',rfl,JO⟩:=hy y ZS;have next:∀z∈rest,∃k' b',z=Value.ref b'/\knd.is s'.heap k' b':=λz hz=>hy z (ZX _ hz)
  dsimp only;split
  ·exact ZN ⟨rfl,rfl,next⟩
  ·refine ZL (knd.quiet hk ?_);simp only[ac7,aau,if_false];refine ZL (knd.quiet JO ?_);simp only[ac7,aau,if_false];refine ZL (sk.cls hk ?_);simp only[aau,if_false];refine ZL (sk.cls JO ?_);simp only[aau,if_false];exact ZN ⟨rfl,rfl,next⟩
 ·rintro⟨r1,r2⟩ s' ⟨hr,rfl,_⟩;simp only at hr;subst hr;exact ZN h
end
end Hc.Sx
namespace Hc.Sx
open PySem.SetTable
section
variable {K:Type}[DecidableEq K]{knd:adK prog w K}{A:aaD}
variable {o:Obj}{es:Array (Int×ZO)}{xs:List (K×Z5)}{k:K}
noncomputable abbrev AB (t:adi)(h:Int)(n:Nat):Nat:=(advs t.mask n (adD t.mask h)).j
theorem om (sk:oj knd)(hr:knd.room A)(hk:knd.is s.heap k b)(ho:s.heap.get? a=some o)(hd:o.data=.set es ep t)(S:HS knd s.heap xs es t C){Q:SetFound->Z8->Prop}{N:Nat}(hN:C (AB t (knd.hash k) N)=none)
  (wg:k∈xs.map (·.1)->Q (.there none) s)
  (sE:k∉xs.map (·.1)->∀n,(∀m,m<n->∃e,C (AB t (knd.hash k) m)=some e)->C (AB t (knd.hash k) n)=none->Q (.free (AB t (knd.hash k) n) false) s) :
  ∀(fuel n:Nat) (stand:Option Probe),stand.getD (t.probeStart (knd.hash k))=advs t.mask n (adD t.mask (knd.hash k))->N<n+fuel->(∀m,m<n->∃k' b',C (AB t (knd.hash k) m)=some (knd.hash k',.ref b')/\(k',b')∈xs/\k'≠k)->
   aac (aar prog w) A (setSearchFrom a (.ref b) (knd.hash k) true fuel stand) Q E s
 |0,n,stand,hs,hf,hb=>by
  obtain⟨k',b',e,_⟩:=hb N (by lia);rw[e] at hN;cases hN
 |fuel+1,n,stand,hs,hf,hb=>by
  unfold setSearchFrom;refine ZL (aa9 ho hd S.fits ?_);dsimp only;rw[S.stays];simp only[aau,if_false];obtain⟨m',g1,g2⟩:=zf S.tab (hashAt:=λi=>(es[i]?.map (·.1)).getD 0) (λi e h=>by show (es[i]?.map (·.1)).getD 0=e.1;rw[h];rfl) (knd.hash k) (j4.advs n (j4.start t (knd.hash k)));have pa:∀x,(advs t.mask x (advs t.mask n (t.probeStart (knd.hash k)))).j=AB t (knd.hash k) (n+x):=λx=>by rw[←iw];rfl
  have PR:∀m,m<n+m'->∃k' b',C (AB t (knd.hash k) m)=some (knd.hash k',.ref b')/\(k',b')∈xs/\k'≠k:=λm hm=>by
   rcases acV m n with z|z
   ·exact hb m z
   ·obtain⟨e,h1,h2⟩:=g1 (m-n) (by lia);rw[pa,show n+(m-n)=m by lia] at h1;obtain⟨k',b',hx,rfl,_⟩:=S.at h1;exact⟨k',b',h1,hx,λz=>h2 (by rw[z])⟩
  have pe:t.probe (λi=>(es[i]?.map (·.1)).getD 0) (knd.hash k) (stand.getD (t.probeStart (knd.hash k)))=t.probe (λi=>(es[i]?.map (·.1)).getD 0) (knd.hash k) (advs t.mask n (t.probeStart (knd.hash k))):=by rw[hs];rfl
  rcases g2 with⟨c1,c2⟩|⟨e,i,c1,c2,c3,c4,c5⟩
  ·
   have RH:=pe.trans c2;rw[pa] at c1 RH;have nx:k∉xs.map (·.1):=λhm=>by
    obtain⟨⟨k0,b0⟩,hx,rfl⟩:=aaP.mp hm;obtain⟨j,hj⟩:=S.has hx;obtain⟨m,hm,hmj⟩:=S.pth.met c1 hj rfl;obtain⟨k',b',h1,h2,h3⟩:=PR m hm;have h1:C j=some (knd.hash k',.ref b'):=by rw[←hmj];exact h1
    rw[hj] at h1;have eb:b0=b':=by
     have:=(Prod.mk.inj (aaj h1)).2;injection this
    subst eb;exact h3 (knd.inj (S.keys _ h2) (S.keys _ hx))
   have fin:=sE nx (n+m') (λm hm=>let ⟨k',b',h1,_⟩:=PR m hm;⟨_,h1⟩) c1;split
   ·rename_i met hq;have e:=(hq.symm.trans RH);cases e;exact ZN fin
   ·rename_i hq;exact absurd RH (by intro z;exact hq _ z)
  ·
   have LU:=pe.trans c5;rw[pa] at c1 c4 LU;rw[←iw] at LU;obtain⟨k',b',hx,rfl,JO⟩:=S.at c1;have lN:n+m'<N:=by
    rcases adY N (n+m') with z|z|z
    ·obtain⟨_,_,e,_⟩:=PR N z;rw[e] at hN;cases hN
    ·rw[z,c1] at hN;cases hN
    ·exact z
   have body:∀R:Sem SetFound,R=(do
     let some (_,y):=es[i]? | adZ "internal:set-entry"
     let equal ←holding [y] (eqBool y (.ref b))
     let (FV,_,t') ←setState a
     if true&&equal then return .there none
     let some same:=t'.sameMemory t.moves t.mask|adZ "set.changed-during-lookup:is-the-new-block-at-the-old-address"
     let Br ←match (if same then t'.slot (AB t (knd.hash k) (n+m')) else .empty) with
      | .live i'=>match FV[i']? with
       |some (_,y')=>do pure (if ←isSame y' y then some i' else none)
       |none=>pure none
      |_=>pure none
     match Br with
     |none=>rule "set.search.anew";setSearchFrom a (.ref b) (knd.hash k) true fuel none
     |some i'=>if equal then return .there (some i') else setSearchFrom a (.ref b) (knd.hash k) true fuel (some (advs t.mask (n+(m'+1)) (t.probeStart (knd.hash k)))))->aac (aar prog w) A R Q E s:=λR hR=>by
    subst hR;rw[c3];dsimp only;refine ZL (abi (knd.eqBool hr JO hk ?_));refine ZL (aa9 ho hd S.fits ?_);dsimp only;by_cases q:k'=k
    ·rw[hG q];simp only[Bool.and_self,if_true];subst q;exact ZN (wg (aaP.mpr ⟨_,hx,rfl⟩))
    ·rw[hJ q];simp only[ad6,aau,if_false];have sm:t.sameMemory t.moves t.mask=some true:=by unfold SetTable.sameMemory;simp
     rw[sm];dsimp only;obtain⟨i2,l1,l2,l3⟩:=S.tab.live c1;rw[l1];simp only[if_true];rw[l2];dsimp only;refine ZL (wpAny_isSame_ref_self ?_);simp only[if_true];refine ZL (ZN ?_);dsimp only;refine om sk hr hk ho hd S hN wg sE fuel (n+(m'+1)) _ rfl (by lia) λm hm=>?_;rcases acV m (n+m') with z|z
     ·exact PR m z
     ·have:m=n+m':=by lia
      subst this;exact⟨k',b',c1,hx,q⟩
   split
   ·rename_i met hq;have e:=(hq.symm.trans LU);cases e;dsimp only;split
    ·refine ZL (BV sk hk _ (λy hy=>?_) ?_)
     ·obtain⟨e,he,rfl⟩:=aaP.mp hy;have he:e∈es.toList:=by
       have:e∈(es.filter λx=>x.1==knd.hash k):=by simpa using he
       have:=(Array.mem_filter.mp this).1;simpa using this
      obtain⟨k2,b2,_,rfl,h2⟩:=S.entry he;exact⟨k2,b2,rfl,h2⟩
     ·simp only[aau,if_false];exact body _ rfl
    ·exact body _ rfl
   ·rename_i hq;exact absurd LU (by intro z;exact hq _ z)
theorem BW (sk:oj knd)(hr:knd.room A)(hk:knd.is s.heap k b)(ho:s.heap.get? a=some o)(hd:o.data=.set es ep t)(S:HS knd s.heap xs es t C){Q:SetFound->Z8->Prop}
  (wg:k∈xs.map (·.1)->Q (.there none) s)
  (sE:k∉xs.map (·.1)->∀n,(∀m,m<n->∃e,C (AB t (knd.hash k) m)=some e)->C (AB t (knd.hash k) n)=none->Q (.free (AB t (knd.hash k) n) false) s) :
  aac (aar prog w) A (setSearch a (.ref b) (knd.hash k) true) Q E s:=by
 obtain⟨y,hy,hc⟩:=S.tab.free;obtain⟨p,hp⟩:=S.tab.pow;obtain⟨N,h1,h2⟩:=t9 hp (j4.start t (knd.hash k)) hy;unfold setSearch;refine om sk hr hk ho hd S (N:=N) (by show C (advs t.mask N (t.probeStart (knd.hash k))).j=none;rw[h2];exact hc) wg sE 100000 0 none rfl ?_ λm hm=>by lia
 have:=S.hi;unfold turns at h1;lia
end
end Hc.Sx
namespace Hc.Sx
open PySem.SetTable
theorem lr {α:Type}(xs:Array α)(p:Nat)(x:α):(insertAt xs p x).toList.Perm (xs.toList++[x]):=by
 rw[i8];have h:(x::xs.toList.drop p).Perm (xs.toList.drop p++[x]):=(List.perm_append_singleton x _).symm;refine (abc _ h).trans ?_;rw[←aao,abd]
section
variable {K:Type}[DecidableEq K]{knd:adK prog w K}{A:aaD}
variable {o:Obj}{es:Array (Int×ZO)}{xs:List (K×Z5)}{k:K}{byText:Bool}
noncomputable def lu (xs:List (K×Z5))(k:K)(b:Z5):List (K×Z5):=if k∈xs.map (·.1) then xs else xs++[(k,b)]
theorem Ea (ho:h.get? a=some o)(hd:o.data=.set es ep t)(FV:Array (Int×ZO))(t':adi) :
  (h.update a (afa FV t')).get? a=some {o with data:=.set FV (ep+1) t'}:=by
 have:=abv (afa FV t') ho (by rw[putSet_of FV t' hd];rfl);rw[putSet_of FV t' hd] at this;exact this
theorem Eb {h:acj}(sk:oj knd)(ho:s.heap.get? a=some o)(F4:o.ExactSet)(hd:o.data=.set es ep t)(tab:t6 t es C)(pl:t.plain=true)(per:es.toList.Perm (xs.map (Pp knd)))(keys:∀x∈xs,knd.is s.heap x.1 x.2)(nd:(xs.map (·.1)).Nodup)(led:byText=true\/t.led=true)(hn:es.size=n)(ZA:1<=n)(WS:n<=2047){Q:Unit->Z8->Prop}(q:∀h',abM a s.heap h'->lP knd byText h' a xs->Q () {s with heap:=h'}) :
  aac (aar prog w) A (setRelay a (grown n)) Q E s:=by
 have hw:grown n=n*4:=by unfold grown;rw[hU (by lia)]
 have ab:=D_ (n:=grown n) (by rw[hw];exact adH (show n*4<=8192 by lia) (by decide));have sz:ZY=16777216:=rfl;generalize eS:sizeAbove (grown n)=sA at ab;obtain⟨⟨p,hp⟩,a1,a2,a3⟩:=ab;have m1:sA-1+1=2 ^ p:=by lia
 have m8:sA<=8192:=by
  have ZC:p<14:=by
   refine acn λz=>?_;have ZD:(2:Nat) ^ 14<=2 ^ p:=Nat.pow_le_pow_right (by decide) (by lia);rw[hw] at a3;lia
  have ZE:(2:Nat) ^ p<=2 ^ 13:=Nat.pow_le_pow_right (by decide) (by lia);lia
 have XX:t.fits es.size=true:=by
  unfold SetTable.fits SetTable.fill;rw[tab.sz,tab.dum];simp;exact tab.room
 obtain⟨t',order,C',h1,T',P',hsz,e1,e2,e3,e4,e5,hall⟩:=G8 (mask:=sA-1) (finger:=t.finger) (moves:=t.movedTo (sA-1)) (led:=t.led) (plain:=t.plain) (es:=es) ⟨p,m1⟩ (by rw[hw] at a1;lia);unfold setRelay;refine ZL (aa9 ho hd XX ?_);dsimp only;rw[eS,hU (by rw[hw] at a3;lia)];have hr:t.relaid (es.map (·.1)) (grown n)=some (t',order):=by unfold SetTable.relaid;rw[eS];exact h1
 have F6:(order.filterMap (es[·]?)).size<=ZY:=by rw[hsz,hn];lia
 have JK:¬(((order.filterMap (es[·]?)).size != es.size)=true):=by rw[hsz];simp
 refine ZL (ad0 (a:=(order.filterMap (es[·]?),t')) (by rw[hr];exact hU JK) ?_);refine wpAny_storeSet_of ho hd ?_ F6;have LV:=aa2 s.heap a (afa (order.filterMap (es[·]?)) t');refine q _ LV ⟨_,_,_,t',C',Ea ho hd _ _,F4,rfl,⟨T',by rw[e1];exact P',by rw[e5];exact pl,by rw[e1];lia,by rw[e1];rw[hw] at a3;lia,by rw[hsz,e1,hn];rw[hw] at a1;lia,?_,λx hx=>sk.kept (keys x hx) ho hd LV,nd⟩,led.imp id λz=>by rw[e4];exact z⟩;exact hall.trans per
end
end Hc.Sx
namespace Hc.Sx
open PySem.SetTable
section
variable {K:Type}[DecidableEq K]{knd:adK prog w K}{A:aaD}
variable {xs:List (K×Z5)}{k:K}{byText:Bool}
theorem zg (b:Z5)(es:Array (Int×ZO)):byScan (.ref b) es=false:=by unfold byScan Value.scannable;simp
theorem KY (sk:oj knd)(hr:knd.room A)(hk:knd.is s.heap k b)(hS:lP knd byText s.heap a xs)(hl:xs.length+1<=2047){Q:Bool->Z8->Prop}
  (q:∀h' r,abM a s.heap h'->lP knd byText h' a (lu xs k b)->Q r {s with heap:=h'}):aac (aar prog w) A (setAddHashed a (.ref b) (knd.hash k)) Q E s:=by
 obtain⟨o,es,ep,t,C,ho,F4,hd,S,led⟩:=hS;have ZF:es.size=xs.length:=by have:=S.per.length_eq;simpa using this
 unfold setAddHashed setAddHashedIn;refine abi (ZL (aa9 ho hd S.fits ?_));dsimp only;rw[zg];simp only[aau,if_false];refine ZL (BW sk hr hk ho hd S (λsD=>?_) λOI n hb hc=>?_)
 ·dsimp only;refine ZN ?_;have e:s={s with heap:=s.heap}:=by cases s;rfl
  rw[e];exact q s.heap false (Heap.SameBut.refl a s.heap) (by unfold lu;rw[hV sD];exact⟨o,es,ep,t,C,ho,F4,hd,S,led⟩)
 ·dsimp only;refine ZL (aa9 ho hd S.fits ?_);dsimp only;have few:=S.few;have lo:=S.lo;have jm:AB t (knd.hash k) n<=t.mask:=by
   obtain⟨p,hp⟩:=S.tab.pow;have:∀n,(advs t.mask n (adD t.mask (knd.hash k))).j+(advs t.mask n (adD t.mask (knd.hash k))).more<=t.mask:=by
    intro n
    induction n with
    |zero=>
     show bits (knd.hash k) % (t.mask+1)+(runEnd t.mask (bits (knd.hash k) % (t.mask+1))-bits (knd.hash k) % (t.mask+1))<=t.mask;have:bits (knd.hash k) % (t.mask+1)<t.mask+1:=ac8 _ (acU _);unfold runEnd;split<;>lia
    |succ n ih=>
     rw[t7];unfold adv;split
     ·dsimp only;lia
     ·dsimp only;have:(leap t.mask (advs t.mask n (adD t.mask (knd.hash k))).i (advs t.mask n (adD t.mask (knd.hash k))).perturb).1<t.mask+1:=ac8 _ (acU _);unfold runEnd;split<;>lia
   have:=this n;show (advs t.mask n (adD t.mask (knd.hash k))).j<=t.mask;lia
  obtain⟨T1,p1,p2,p3,p4,p5⟩:=S.tab.put (e:=(knd.hash k,Value.ref b)) jm hc (by lia);have P1:=Il.up S.pth (e:=(knd.hash k,Value.ref b)) hb hc;generalize et:(t.put (AB t (knd.hash k) n)).1=t1 at *;generalize ei:(t.put (AB t (knd.hash k) n)).2=ip at *;have F6:(insertAt es ip (knd.hash k,Value.ref b)).size=es.size+1:=by
   have:=(lr es ip (knd.hash k,Value.ref b)).length_eq;simpa using this
  rw[hV (by rw[p2];exact S.pl)];refine ZL (sk.byv hk ?_);simp only[if_true];have sl:ZY=16777216:=rfl;refine ZL (wpAny_storeSet_of ho hd ?_ (by rw[F6];lia));have LV:=aa2 s.heap a (afa (insertAt es ip (knd.hash k,Value.ref b)) t1);have WT:=Ea ho hd (insertAt es ip (knd.hash k,Value.ref b)) t1;have WU:lu xs k b=xs++[(k,b)]:=by unfold lu;rw[hU OI]
  have OJ:(insertAt es ip (knd.hash k,Value.ref b)).toList.Perm ((xs++[(k,b)]).map (Pp knd)):=by
   rw[abp];exact (lr _ _ _).trans (abF _ S.per)
  have JP:∀x∈xs++[(k,b)],knd.is (s.heap.update a (afa (insertAt es ip (knd.hash k,Value.ref b)) t1)) x.1 x.2:=λx hx=>by
   rcases aai.mp hx with z|z
   ·exact sk.kept (S.keys x z) ho hd LV
   ·rw[aag.mp z];exact sk.kept hk ho hd LV
  have PU:((xs++[(k,b)]).map (·.1)).Nodup:=by
   rw[abp,abK];exact⟨S.nd,by simp,λx hx y hy e=>by
    simp at hy;subst e hy;exact OI hx⟩
  have OL:byText=true\/t1.led=true:=led.imp id λz=>by rw[p3];exact z
  have OM:t1.fill=es.size+1:=by
   unfold SetTable.fill;rw[T1.sz,T1.dum,F6];rfl
  cases tf:t1.tooFull with
  |false=>
   simp only[aeY,ad6,aau,if_false];refine ZN (q _ true LV ?_);rw[WU];refine⟨_,_,_,t1,_,WT,F4,rfl,⟨T1,by rw[p1];exact P1,by rw[p2];exact S.pl,by rw[p1];exact lo,by rw[p1];exact S.hi,?_,OJ,JP,PU⟩,OL⟩;unfold SetTable.tooFull at tf;rw[OM] at tf;rw[F6];simpa using tf
  |true=>
   simp only[aeY,Bool.and_self,if_true];refine ZL (Eb (h:=s.heap) (s:={s with heap:=s.heap.update a (afa (insertAt es ip (knd.hash k,Value.ref b)) t1)}) sk WT F4 rfl T1 (by rw[p2];exact S.pl) OJ JP PU OL F6 (by lia) (by lia) λh' RI H'=>?_);refine ZN (q h' true (LV.trans RI) ?_);rw[WU];exact H'
theorem Ec {led:Bool}(hl:byText=true\/led=true)(hg:h.get? a=some {cls:=.type "set",dict:=none,data:=.set #[] 0 (.fresh 0 0 led)}):lP knd byText h a []:=by
 refine⟨_,#[],0,.fresh 0 0 led,λ_=>none,hg,⟨rfl,rfl,rfl⟩,rfl,⟨⟨λi j hi=>absurd hi (Nat.not_lt_zero _),rfl,rfl,⟨3,rfl⟩,aba _,λi j h=>?_,λj e=>⟨λh=>(by cases h),fun⟨i,h,_⟩=>?_⟩⟩,λj e h=>(by cases h),rfl,Z2 _,(show (7:Nat)<=8191 by decide),(show 0*5<7*3 by decide),abh _,λx hx=>(by cases hx),ad7⟩,hl⟩
 ·have h:(#[]:Array Nat)[i]? = some j:=h;simp at h
 ·have h:(#[]:Array Nat)[i]? = some j:=h;simp at h
end
end Hc.Sx
namespace Hc.Sx
open PySem.SetTable
section
variable {K:Type}[DecidableEq K]{knd:adK prog w K}{A:aaD}
variable {xs:List (K×Z5)}{k:K}{byText:Bool}
theorem lP.keep (H:lP knd byText h a xs)(e:∀o,h.get? a=some o->h'.get? a=some o)(hk:∀x∈xs,knd.is h' x.1 x.2):lP knd byText h' a xs:=by
 obtain⟨o,es,ep,t,C,ho,F4,hd,S,led⟩:=H;exact⟨o,es,ep,t,C,e o ho,F4,hd,⟨S.tab,S.pth,S.pl,S.lo,S.hi,S.few,S.per,hk,S.nd⟩,led⟩
theorem lP.setAt (H:lP knd byText h a xs):∃o es ep t,h.get? a=some o/\o.data=.set es ep t:=by
 obtain⟨o,es,ep,t,C,ho,F4,hd,S,led⟩:=H;exact⟨o,es,ep,t,ho,hd⟩
noncomputable def eM (val:Nat->K×Z5):Nat->List (K×Z5)
 |0=>[]
 |i+1=>lu (eM val i) (val i).1 (val i).2
theorem xh (val:Nat->K×Z5){i:Nat}:∀{n:Nat},i<=n->(eM val i).length<=(eM val n).length
 |0,h=>by rw[Nat.le_zero.mp h];exact Z2 _
 |n+1,h=>by
  by_cases e:i=n+1
  ·rw[e];exact Z2 _
  ·refine aaT (xh val (n:=n) (by lia)) ?_;show (eM val n).length<=(lu _ _ _).length;unfold lu;split
   ·exact Z2 _
   ·rw[ZZ];lia
theorem kJ (val:Nat->K×Z5):∀(i:Nat) (x:K×Z5),x∈eM val i->∃j,j<i/\x=val j
 |0,x,h=>by cases h
 |i+1,x,h=>by
  unfold eM lu at h;split at h
  ·obtain⟨j,h1,h2⟩:=kJ val i x h;exact⟨j,by lia,h2⟩
  ·rcases aai.mp h with z|z
   ·obtain⟨j,h1,h2⟩:=kJ val i x z;exact⟨j,by lia,h2⟩
   ·exact⟨i,by lia,aag.mp z⟩
variable {R:Result->Z8->Prop}{I:Z5}{wr:List Z5}{G:Array GenState->Array GenState->Prop}{P:Nat->ZO->Prop}{St:Nat->Z8->Prop}
theorem BX (sk:oj knd)(hr:knd.room A.in1)(W:WalksS prog w A.in1 I fp wr G n P St)(S:Z5)(WV:S∉fp)(val:Nat->K×Z5)(RJ:∀i v,P i v->v=.ref (val i).2)(hn:(eM val n).length+1<=2047)
  (mv:∀i (s s':Z8),i<=n->St i s->Moved wr G s s'->(∀j,j<n->knd.is s.heap (val j).1 (val j).2)->∀j,j<n->knd.is s'.heap (val j).1 (val j).2) :
  ∀(d i:Nat) (s:Z8),n-i=d->i<=n->St i s->(∀j,j<n->knd.is s.heap (val j).1 (val j).2)->lP knd byText s.heap S (eM val i)->
   (∀s',Moved (S::wr) G s s'->(∀j,j<n->knd.is s'.heap (val j).1 (val j).2)->lP knd byText s'.heap S (eM val n)->R (.ok (.ret .none)) s')->
   codeAny (aar prog w) A (.builtin "set.update.loop" ⟨[.ref S,.ref I],[]⟩) R s:=by
 have nS:S∉wr:=λh=>WV (W.sub _ h);have up:∀b∈wr,b∈S::wr:=λb hb=>ZX _ hb;have Br:∀i (s s':Z8),i<=n->St i s->Moved wr G s s'->(∀j,j<n->knd.is s.heap (val j).1 (val j).2)->lP knd byText s.heap S (eM val i)->lP knd byText s'.heap S (eM val i):=λi s s' hi st m hk H=>
  H.keep (λo e=>m.heap S o nS e) λx hx=>by
   obtain⟨j,h1,rfl⟩:=kJ val i x hx;exact mv i s s' hi st m hk j (by lia)
 intro d
 induction d with
 |zero=>
  intro i s hd hi st hk H q;obtain rfl:i=n:=by lia
  refine acX F.entry_set_update_loop ?_;rw[acs adP _];show aac _ A.in1 (aef (Value.ref I) >>= _) _ _ s;refine ZL (W.done s _ _ st λs' m=>?_);exact ZN (q s' (m.mono up) (mv i s s' hi st m hk) (Br i s s' hi st m hk H))
 |succ d ih=>
  intro i s hd hi st hk H q;have lt:i<n:=by lia
  refine acX F.entry_set_update_loop ?_;rw[acs adP _];show aac _ A.in1 (aef (Value.ref I) >>= _) _ _ s;refine ZL (W.item i s _ _ lt st λv s1 hP yi m=>?_);obtain rfl:=RJ i v hP;have H1:=Br i s s1 hi st m hk H;have zT:=mv i s s1 hi st m hk;show aac _ A.in1 (holding [Value.ref (val i).2] (setAdd S (Value.ref (val i).2)) >>= _) _ _ s1;refine ZL (abi ?_);unfold setAdd;refine abi (ZL (knd.pyHash hr (zT i lt) ?_));refine KY (s:={s1 with toks:=s1.toks+knd.draws (val i).1}) sk hr (zT i lt) H1 (by have:=xh val hi;lia) λh' r sb H2=>?_;obtain⟨oS,eS,epS,tS,gS,dS⟩:=H1.setAt;have WW:∀j,j<n->knd.is h' (val j).1 (val j).2:=λj hj=>sk.kept (zT j hj) gS dS sb;refine ZN ⟨plainId_quiet adP _,ih (i+1) _ (by lia) lt (W.frame _ s1 _ _ yi (abr _ _) λb hb o e=>?_) WW H2 λs2 m2 XY H3=>?_⟩
  ·rw[sb.2 b (λz:b=S=>WV (by rw[←z];exact hb))];exact e
  ·refine q s2 (Moved.trans W.gtrans ((m.mono up).then_heap (abr _ _) λb o hb e=>?_) m2) XY H3;rw[sb.2 b (λz:b=S=>hb (by rw[z];exact ZS))];exact e
end
end Hc.Sx
namespace Hc.Sx
open PySem.SetTable
noncomputable abbrev yn (w:acJ):Bool:=w.params.followText "set-order"
noncomputable abbrev newS (w:acJ):Obj:={cls:=.type "set",dict:=none,data:=.set #[] 0 (.fresh 0 0 (!yn w))}
section
variable {A:aaD}
theorem Ed (x:ZO)(q:Q (.ref s.heap.objs.size) {s with heap:=s.heap.push (newS w)}):codeAny (aar prog w) A (.call (.builtin "set.__new__") ⟨[.type "set",x],[]⟩) (wants Q E) s:=by
 refine codeAny_of_tree ?_;show aac _ A.in1 (do checkBuiltinCall "set.__new__" ⟨[Value.type "set",x],[]⟩;again (.builtin "set.__new__" ⟨[Value.type "set",x],[]⟩)) _ _ s;refine ZL (ad0 (PySem.F.newCall_set_1 x) (ZN ⟨plainId_quiet PySem.F.plain_set_new _,acX PySem.F.entry_set_new ?_⟩));rw[acs PySem.F.plain_set_new _];unfold Builtin.«set.__new__» Builtin.Frozenset.newClass;have sb:=sub_set_self;obtain⟨hp,g,d,tk,os⟩:=s;dsimp only;wp_walk;refine abR (ZN ?_);dsimp only;simp only[newObj];exact ZL (wpAny_alloc (ZN (ZN q)))
theorem set_call {t:Z5}(R:Z8->Prop)(fill:aac (aar prog w) A.in1.in1 (Builtin.«set.__init__» ⟨[.ref s.heap.objs.size,.ref t],[]⟩) (λfin s'=>∃r,fin=.done (.ret r)/\r=.none/\R s') E {s with heap:=s.heap.push (newS w)})(q:∀s',R s'->Q (.ref s.heap.objs.size) s'):aac (aar prog w) A (call (.type "set") [.ref t]) Q E s:=by
 obtain⟨c0,tl0,mro0⟩:=PySem.F.called_set.mro;have ZG:=PySem.F.called_set.made;have ZH:=PySem.F.called_set.sub;have ZI:=PySem.F.called_set.notType;have ZJ:=PySem.F.called_set.canCreate;have ZK:=PySem.F.typeCall_set_1 (Value.ref t);refine wpAny_call (codeAny_of_tree ?_);show aac _ _ (callAny (Value.type "set") _) _ _ _;refine ZN ⟨Code.quiet_builtin _ (by decide+kernel),acX PySem.F.entry_type_call ?_⟩;rw[Around.under_plain (weight_type_call_type "set" [Value.ref t] []) rfl]
 repeat (any_goals first|assumption|wp_step)
 refine aeL (Ed (Value.ref t) (E:=E) (Q:=λx s1=>x=.ref s.heap.objs.size/\s1={s with heap:=s.heap.push (newS w)}) ⟨rfl,rfl⟩) λr s1 hr=>?_;cases r with
 |error e=>exact hr
 |ok fl=>
  cases fl with
  |ret ob=>
   obtain⟨rfl,rfl⟩:=hr;have gS:(s.heap.push (newS w)).get? s.heap.objs.size=some (newS w):=Z3 _ rfl;have tS:Shared.TypeIs {s with heap:=s.heap.push (newS w)} (.ref s.heap.objs.size) "set":=⟨_,gS,rfl⟩;have il:=PySem.F.called_set.init.lookup;have ib:=PySem.F.called_set.init.bind (Value.ref s.heap.objs.size)
   repeat (any_goals first|assumption|wp_step)
   refine aeL (codeAny_call_builtin (R:=wants (λr s2=>r=.none/\R s2) E) PySem.F.called_set.init.plain PySem.F.entry_set_init (check_set_init_1 tS ?_)) λr2 s2 fK=>?_
   ·exact aa6 fill (λfin s' ⟨r,e,h1,h2⟩=>by subst e;exact⟨h1,h2⟩) (λe s' h=>h)
   ·cases r2 with
    |error e=>exact fK
    |ok f2=>
     cases f2 with
     |ret r=>
      obtain⟨rfl,h2⟩:=fK
      repeat (any_goals first|assumption|wp_step)
      exact q _ h2
     |_=>exact fK.elim
  |_=>exact hr.elim
variable {K:Type}[DecidableEq K]{knd:adK prog w K}
theorem xi {l:Z5}{its:Array ZO}(sk:oj knd)(mono:∀{h h':acj} {k:K} {a:Z5},knd.is h k a->(∀b its,h.IsTuple b its->h'.IsTuple b its)->knd.is h' k a)(hr:knd.room A.in1.in1.in1)(hh:A.handled=none)(hl:s.heap.IsList l its)(val:Nat->K×Z5)(hv:∀(i:Nat) (v:ZO),its[i]? = some v->v=.ref (val i).2)(hk:∀j,j<its.size->knd.is s.heap (val j).1 (val j).2)(hb:(eM val its.size).length+1<=2047)(q:∀(h':acj) (tk:Nat),lP knd (yn w) h' s.heap.objs.size (eM val its.size)->(∀b o,s.heap.get? b=some o->h'.get? b=some o)->Q (.ref s.heap.objs.size) {s with heap:=h',toks:=tk}) :
  aac (aar prog w) A (call (.type "set") [.ref l]) Q E s:=by
 refine set_call (λs'=>∃h' tk,s'={s with heap:=h',toks:=tk}/\lP knd (yn w) h' s.heap.objs.size (eM val its.size)/\∀b o,s.heap.get? b=some o->h'.get? b=some o) ?_ λs' ⟨h',tk,e,h1,h2⟩=>by subst e;exact q h' tk h1 h2
 obtain⟨ot,gt,ct,nt,dt⟩:=hl;obtain⟨oc,od,oda,os⟩:=ot;simp only at ct dt;subst ct;subst dt;have RK:(s.heap.push (newS w)).get? l=some {cls:=.type "list",dict:=od,data:=.seq its nt,slots:=os}:=ZP _ gt;have gS:(s.heap.push (newS w)).get? s.heap.objs.size=some (newS w):=Z3 _ rfl;have n1:=PySem.F.sub_list_set;have n2:=PySem.F.sub_list_frozenset;have n3:(Value.type "list"==Value.type "dict")=false:=by decide
 have ON:(s.heap.push (newS w)).IsList l its:=⟨_,RK,rfl,nt,rfl⟩;unfold Builtin.«set.__init__» noKeywords aek;generalize ePI:pyIter=PI;wp_walk;subst ePI;refine ae4 ON ?_;refine ZL (wpAny_runValue ?_);have lt:l<s.heap.objs.size:=Z9 gt;have h3:A.in1.in1.in1.handled=none:=by simp[hh]
 have RL:l≠(s.heap.push (newS w)).objs.size:=by rw[abg];exact aaq (ab1 lt)
 have ni:s.heap.objs.size∉[(s.heap.push (newS w)).objs.size,l]:=by
  rw[abg];simp only[Z4,acb,or_false,not_or];exact⟨aaq (aed _),acO lt⟩
 have WX:∀(h:acj) (o:Obj) b its,h.IsTuple b its->(h.push o).IsTuple b its:=λh o b its x=>x.push o;refine BX (byText:=yn w) sk hr ((Walks.list h3 _ l RL its).toS) s.heap.objs.size ni val hv hb (λi u u' _ st m ks j hj=>?_) (its.size-0) 0 _ (by lia) (aba _) ⟨⟨_,Z3 _ rfl,rfl,rfl⟩,ON.push _⟩ (λj hj=>mono (hk j hj) λb i2 x=>WX _ _ _ _ (WX _ _ _ _ x)) ?z0 ?zR
 ·refine mono (ks j hj) λb i2 ⟨o,e,c,n,d⟩=>⟨o,m.heap b o (λhm=>?_) e,c,n,d⟩;rw[aag] at hm;subst hm;obtain⟨o2,e2,c2,_⟩:=st.1;rw[e] at e2;cases e2;rw[c] at c2;exact absurd c2 (by decide)
 case z0=>exact Ec (by cases yn w<;>simp) (ZP _ gS)
 case zR=>
  intro s' hm _ JI;obtain⟨h',g',d',tk',o'⟩:=s';have eg:g'=s.gens:=hm.gens;have ed:d'=s.drawn:=hm.drawn;have RM:o'=s.os:=hm.os;subst eg;subst ed;subst RM;show aac _ _ _ _ _ _;refine ZN ?_;show aac _ _ (ret Value.none) _ _ _;refine ZN ⟨_,rfl,rfl,h',tk',rfl,JI,λb o e=>?_⟩;have OO:=Z9 e;refine hm.heap b o ?_ (ZP _ (ZP _ e));rw[abg];simp only[Z4,acb,or_false,not_or];exact⟨aaq OO,aaq (ab1 OO)⟩
end
end Hc.Sx
namespace L2
noncomputable def oo (ns:List Int):List Int:=ns.foldl step_dedup []
theorem mI (ns:List Int):firstMet (λi=>ns.getD i 0) ns.length=oo ns:=by
 unfold firstMet oo;congr 1;apply List.ext_getElem (by simp);intro i h1 h2;simp[adL,ZM h2]
section
variable {A:aaD}
theorem zh {t:Z5}{its:Array ZO}(hh:A.handled=none)(ht:s.heap.IsTuple t its)(hi:abW its.toList ns)(hb:its.size+1<scanBound)(q:∀(h':acj) (tk:Nat) (S:Int->Bool),h'.SetOf (aeW prog w) s.heap.objs.size S (oo ns).length->(∀b o,s.heap.get? b=some o->h'.get? b=some o)->Q (.ref s.heap.objs.size) {s with heap:=h',toks:=tk}) :
  aac (aar prog w) A (call (.type "set") [.ref t]) Q E s:=by
 have sz:its.size=ns.length:=by have:=hi.length;simpa using this
 refine Hc.Sx.set_call (λs'=>∃h' tk S,s'={s with heap:=h',toks:=tk}/\h'.SetOf (aeW prog w) s.heap.objs.size S (oo ns).length/\∀b o,s.heap.get? b=some o->h'.get? b=some o) ?_ λs' ⟨h',tk,S,e,h1,h2⟩=>by subst e;exact q h' tk S h1 h2
 obtain⟨ot,gt,ct,nt,dt⟩:=ht;obtain⟨oc,od,oda,os⟩:=ot;simp only at ct dt;subst ct;subst dt;have RK:(s.heap.push (Hc.Sx.newS w)).get? t=some {cls:=.type "tuple",dict:=od,data:=.seq its nt,slots:=os}:=ZP _ gt;have gS:(s.heap.push (Hc.Sx.newS w)).get? s.heap.objs.size=some (Hc.Sx.newS w):=Z3 _ rfl;have n1:=PySem.F.sub_tuple_set;have n2:=PySem.F.sub_tuple_frozenset;have n3:(Value.type "tuple"==Value.type "dict")=false:=by decide
 have ON:(s.heap.push (Hc.Sx.newS w)).IsTuple t its:=⟨_,RK,rfl,nt,rfl⟩;unfold Builtin.«set.__init__» noKeywords aek;generalize ePI:pyIter=PI;wp_walk;subst ePI;refine aeI ON ?_;refine ZL (wpAny_runValue ?_);have lt:t<s.heap.objs.size:=Z9 gt;have h3:A.in1.in1.in1.handled=none:=by simp[hh]
 have RL:t≠(s.heap.push (Hc.Sx.newS w)).objs.size:=by rw[abg];exact aaq (ab1 lt)
 have ni:s.heap.objs.size∉[(s.heap.push (Hc.Sx.newS w)).objs.size,t]:=by
  rw[abg];simp only[Z4,acb,or_false,not_or];exact⟨aaq (aed _),acO lt⟩
 have vl:∀(i:Nat) (v:ZO),its[i]? = some v->∃t,v=.int ((λi=>ns.getD i 0) i) t:=λi v hv=>IntsAre.int_at hi i v (by rw[aaa];exact hv);refine codeAny_set_update_loopS ((Walks.tuple h3 _ t RL its).toS) s.heap.objs.size ni (λi=>ns.getD i 0) vl hb (its.size-0) 0 _ (by lia) (aba _) ⟨⟨_,Z3 _ rfl,rfl,rfl⟩,ON.push _⟩ ?z0 ?zR
 case z0=>exact SetOf_congr ((setObjOf_fresh (knd:=aeW prog w) _).setOf (ZP _ gS) (by unfold scanBound;lia)) (λ_=>rfl) rfl
 case zR=>
  intro s' hm JI;obtain⟨h',g',d',tk',o'⟩:=s';have eg:g'=s.gens:=hm.gens;have ed:d'=s.drawn:=hm.drawn;have RM:o'=s.os:=hm.os;subst eg;subst ed;subst RM;show aac _ _ _ _ _ _;refine ZN ?_;show aac _ _ (ret Value.none) _ _ _;rw[sz,mI] at JI;refine ZN ⟨_,rfl,rfl,h',tk',_,rfl,JI,λb o e=>?_⟩;have OO:=Z9 e;refine hm.heap b o ?_ (ZP _ (ZP _ e));rw[abg];simp only[Z4,acb,or_false,not_or];exact⟨aaq OO,aaq (ab1 OO)⟩
end
section
variable {e:abE}{jW p1 p2:Pos}{b1:Bool}{ga:Ev->R (List U×Ev)}
theorem Ee:aaY "set"=some (.type "set"):=by decide+kernel
def Io (K:ZQ):List V->Hp->VK->Prop:=λxs H Q=>∃(p:Z5) (ns:List Int),xs=[.ref p]/\gz K H p (ns.map V.int)/\ns.length<64/\∀(l:Z5) (S:Int->Bool),H l=none->Q (.ref l) (c_ H l (.set S (oo ns).length))
theorem Ef (ns:List Int):(oo ns).length<=ns.length:=by
 rw[←mI];exact firstMet_length_le _ _
theorem BY (hc:X.calm=true):eU X (.type "set") (Io X.K):=by
 intro pins s σ H xs us Q I r h;obtain⟨p,ns,rfl,hq,h64,q⟩:=h;obtain⟨u,rfl,rx⟩:=iT r;cases rx;obtain⟨its,rv,pl,hz⟩:=I.tuple hq;have hI:abW its ns:=dZ rv;have hl:=hI.length;refine zh (I.ok.hd hc) (its:=its.toArray) pl hI (by unfold scanBound;rw[ZU];lia) λh' tk S hS hk=>?_;exact⟨.ref s.heap.objs.size,_,I.laid (a:=s.heap.objs.size) (o:=.set S (oo ns).length) (t':=tk) hk (Z2 _) hS,rfl,q _ S (I.hok.fresh (Z2 _))⟩
def Iq:List V->Hp->VK->Prop:=λxs H Q=>∃(p:Z5) (S:Int->Bool) (n:Nat),xs=[.ref p]/\H p=some (.set S n)/\n<64/\Q (.int n) H
theorem BZ:eU X (.builtin "len") Iq:=by
 intro pins s σ H xs us Q I r h;obtain⟨p,S,n,rfl,hq,h64,q⟩:=h;obtain⟨u,rfl,rx⟩:=iT r;cases rx;obtain⟨o,es,ep,t,ho,hx,hd,_,_,_,hf,hn⟩:s.heap.SetOf (aeW X.prog X.w) p S n:=I.hok p _ hq;subst hn;exact call_len_set ho hx hd hf (by lia) ⟨.int _,H,I.tok _,⟨_,rfl⟩,q⟩
noncomputable def pR:List U->R U:=λus=>match us with
 | [.tup xs]=>match iW xs with
  |some ns=>if ns.length<64 then .ok (.int (oo ns).length) else .stk
  |none=>.stk
 |_=>.stk
theorem zi:kX K (λvs H Q=>Io K vs H λx H2=>Iq [x] H2 Q) .S pR:=λA H vs us z Q h mu e q=>by
 unfold pR at e;split at e
 ·rename_i xs;split at e
  ·rename_i ns hb;split at e
   ·rename_i hl;cases e;obtain⟨v,rfl,p⟩:=h.one;unfold Pk at p;obtain⟨a,ys,rfl,h1,l1,r1⟩:=p;rw[iX hb] at r1;rw[r1.toI] at h1;have:=Ef ns;exact⟨a,ns,rfl,gz.of h1,hl,λl S hn=>⟨l,S,_,rfl,bS,by lia,q _ _ (de hn _) (show Rp K _ A _ _ from eP)⟩⟩
   ·cases e
  ·cases e
 ·cases e
theorem B0 (hc:X.calm=true)(ha:DA X G [e] b1 true ga)(hg:Gl X "len")(hm:X.mg "len"=none)(OF:Gl X "set")(RN:X.mg "set"=none)
  (he:aaf [e] X.env=(false,ade e X.env)::aaf [] X.env:=by rfl) (sH:(acq jW (aaf [] X.env)).any (·.1)=false:=by rfl)
  (OP:aaf [.Call (.Name "set" p2) [e] [] jW] X.env=(false,ade (.Call (.Name "set" p2) [e] [] jW) X.env)::aaf [] X.env:=by rfl) (FT:(acq pos (aaf [] X.env)).any (·.1)=false:=by rfl) :
  DE X G (.Call (.Name "len" p1) [.Call (.Name "set" p2) [e] [] jW] [] pos) b1 .S (gR pR ga):=⟨(p9 BZ hg hm dF (md (jg (BY hc) OF RN Ee ha.un (by decide) (by decide) he sH) p8 OP) (by decide) (by decide) OP FT).to λ_ _ _ h=>pM (p:=true) (zi (K:=X.K)) h⟩
end
@[irreducible] noncomputable def KZ (X:Cx)(G:Gm)(es:List abE)(b p:Bool)(g:Ev->R (List U×Ev)):Prop:=DA X G es b p g
section
variable {e:abE}{es:List abE}{b1 b2 p:Bool}{m1:Md}{g1:Ev->R (U×Ev)}{ga:Ev->R (List U×Ev)}
theorem Mc (h:KZ X G es b1 p ga):DA X G es b1 p ga:=by unfold KZ at h;exact h
theorem kK:KZ X G [] false p aq:=by unfold KZ;exact ai
theorem aR (ha:DE X G e b1 m1 g1)(hr:KZ X G es b2 p ga)(hm:m1=.P->(p=true/\b2=false):=by first|exact λ_=>⟨rfl,rfl⟩|exact λh=>nomatch h)
  (hs:aaf (e::es) X.env=(false,ade e X.env)::aaf es X.env:=by rfl):KZ X G (e::es) (b1||b2) p (af g1 ga):=by
 unfold KZ at hr ⊢;exact ae ha hr hm hs
end
end L2
namespace Hc.Zp
def iS (l:Bool)(h:acj)(a:Z5)(xs:Array ZO):Prop:=if l=true then h.IsList a xs else h.IsTuple a xs
def gf (l:Bool)(h:acj)(it a:Z5)(i:Nat):Prop:=if l=true then h.IsListIter it a i else h.IsTupleIter it a i
noncomputable def B1 (l:Bool):String:=if l=true then "list_iterator" else "tuple_iterator"
theorem iS.at {l:Bool}{xs:Array ZO}(x:iS l h a xs)(e:∀o,h.get? a=some o->h'.get? a=some o):iS l h' a xs:=by
 cases l with
 |true=>exact Heap.IsList.at x e
 |false=>exact Heap.IsTuple.at x e
theorem gf.at {l:Bool}(x:gf l h it a i)(e:∀o,h.get? it=some o->h'.get? it=some o):gf l h' it a i:=by
 cases l with
 |true=>exact Heap.IsListIter.at x e
 |false=>exact Heap.IsTupleIter.at x e
theorem gf.obj {l:Bool}(x:gf l h it a i):∃o,h.get? it=some o/\o.data=.fields #[.ref a,.int i 0]/\o.cls=.type (B1 l):=by
 cases l with
 |true=>obtain⟨o,e,c,d⟩:=x;exact⟨o,e,d,c⟩
 |false=>obtain⟨o,e,c,d⟩:=x;exact⟨o,e,d,c⟩
section
variable {A:aaD}
theorem zj {xs:Array ZO}{x:ZO}(hi:s.heap.IsTupleIter it a i)(ha:s.heap.IsTuple a xs)(hx:xs[i]? = some x)(q:∀h',h'.IsTupleIter it a (i+1)->abM it s.heap h'->Q x {s with heap:=h'}):aac (aar prog w) A (aaE (.ref it)) Q E s:=by
 obtain⟨o,ho,hc,hd⟩:=id hi;obtain⟨oa,hoa,_,na,hda⟩:=ha;unfold aaE;refine ZL (aaK (name:=abN "__next__") hi.typeIs ab_ (aaH ab_ hi.typeIs aev ?_ (ael _)));show aac _ _ (field (Value.ref it) 0 >>= _) _ _ s;refine ZL (abw ho hd (x:=.ref a) rfl ?_);show aac _ _ (if (Value.ref a==Value.none)=true then _ else _) _ _ s;rw[hU (show ¬((Value.ref a==Value.none)=true) from ZV)];show aac _ _ (field (Value.ref it) 1 >>= _) _ _ s;refine ZL (abw ho hd (x:=.int i 0) rfl ?_);show aac _ _ (seqItems? (Value.ref a) >>= _) _ _ s;refine ZL (abY hoa hda ?_);simp only[abl,hx];refine ZL (acL ho hd (by simp) (ZN ⟨x,rfl,ZN (q _ ⟨_,abv _ ho (acY (aby hd _)),(ad1 ..).trans hc,?_⟩ (aa2 ..))⟩));rw[aby hd];simp[aeH]
theorem B2 {xs:Array ZO}(hh:A.handled=none)(hi:s.heap.IsTupleIter it a i)(ha:s.heap.IsTuple a xs)(hx:xs[i]? = none)(q:∀h' e,Heap.ExtBut it s.heap h'->(∃o,h'.get? e=some o/\o.cls=.type "StopIteration")->E (.ref e) {s with heap:=h'}):aac (aar prog w) A (aaE (.ref it)) Q E s:=by
 obtain⟨o,ho,hc,hd⟩:=id hi;obtain⟨oa,hoa,_,na,hda⟩:=ha;unfold aaE;refine ZL (aaK (name:=abN "__next__") hi.typeIs ab_ (aaH ab_ hi.typeIs aev ?_ (ael _)));show aac _ _ (field (Value.ref it) 0 >>= _) _ _ s;refine ZL (abw ho hd (x:=.ref a) rfl ?_);show aac _ _ (if (Value.ref a==Value.none)=true then _ else _) _ _ s;rw[hU (show ¬((Value.ref a==Value.none)=true) from ZV)];show aac _ _ (field (Value.ref it) 1 >>= _) _ _ s;refine ZL (abw ho hd (x:=.int i 0) rfl ?_);show aac _ _ (seqItems? (Value.ref a) >>= _) _ _ s;refine ZL (abY hoa hda ?_);simp only[abl,hx];refine ZL (ab0 (ZL (acL ho hd (by simp) ?_)));show aac _ _ (newExc (Value.type "StopIteration") [] >>= _) _ _ _;refine ZL ?_;simp only[newExc,newTuple];refine ZL (aaG ?_ (by size_fits));refine ZL (m:=adg _ _) (ad0 (a:=Value.none) (by first|rfl|(simp only[adg];rfl)) ?_);refine aaG ?_ (by size_fits);simp only[raiseNew];refine ZL (wpAny_handled ?_)
 first|rw[show A.in1.handled=none from hh]|rw[hh]
 exact ZL (ZN (wpAny_throw (q _ _ (((aa2 ..).extBut.push _).push _) ⟨_,Z3 _ rfl,rfl⟩)))
theorem nI {l:Bool}{xs:Array ZO}{x:ZO}(hi:gf l s.heap it a i)(ha:iS l s.heap a xs)(hx:xs[i]? = some x)(q:∀h',gf l h' it a (i+1)->abM it s.heap h'->Q x {s with heap:=h'}):aac (aar prog w) A (aaE (.ref it)) Q E s:=by
 cases l with
 |true=>exact wpAny_nextOf_list_item hi ha hx q
 |false=>exact zj hi ha hx q
theorem xj {l:Bool}{xs:Array ZO}(hh:A.handled=none)(hi:gf l s.heap it a i)(ha:iS l s.heap a xs)(hx:xs[i]? = none)(q:∀h' e,Heap.ExtBut it s.heap h'->(∃o,h'.get? e=some o/\o.cls=.type "StopIteration")->E (.ref e) {s with heap:=h'}):aac (aar prog w) A (aaE (.ref it)) Q E s:=by
 cases l with
 |true=>exact wpAny_nextOf_list_end hh hi ha hx q
 |false=>exact B2 hh hi ha hx q
theorem AD {l:Bool}{xs:Array ZO}(ha:iS l s.heap a xs)(q:Q (.ref s.heap.objs.size) {s with heap:=s.heap.push {cls:=.type (B1 l),data:=.fields #[.ref a,.int 0 0]}}):aac (aar prog w) A (pyIter (.ref a)) Q E s:=by
 cases l with
 |true=>exact ae4 ha q
 |false=>exact aeI ha q
theorem B3 {TI TO:Z5}{xs:Array ZO}{x y p:ZO}(D:ZipApart z TI TO i1 i2 a1 a2)(hz:IsZip s.heap z TI TO .none)(LW:ac_ s.heap TI (.ref i1) (.ref i2))(LX:ac_ s.heap TO p q)(h1:gf l1 s.heap i1 a1 k)(h2:gf l2 s.heap i2 a2 k)(g1:iS l1 s.heap a1 xs)(g2:iS l2 s.heap a2 ys)(hx:xs[k]? = some x)(hy:ys[k]? = some y)(hQ:∀h',IsZip h' z TI TO (aeH s.heap.objs.size)->ac_ h' TO x y->gf l1 h' i1 a1 (k+1)->gf l2 h' i2 a2 (k+1)->ac_ h' s.heap.objs.size x y->(∀c o,c≠z->c≠TO->c≠i1->c≠i2->s.heap.get? c=some o->h'.get? c=some o)->Q (.ref s.heap.objs.size) {s with heap:=h'}) :
  aac (aar prog w) A (Builtin.«zip.__next__» ⟨[.ref z],[]⟩) (λfin s'=>∃v,fin=.done (.ret v)/\Q v s') E s:=by
 show aac _ _ (field (Value.ref z) 2 >>= _) _ _ _;refine ZL (abw hz rfl (x:=.bool false) rfl ?_);show aac _ _ (field (Value.ref z) 3 >>= _) _ _ _;refine ZL (abw hz rfl (x:=.ref TI) rfl (ZL (abY LW rfl ?_)));show aac _ _ (abt (Value.ref z) >>= _) _ _ _;refine ZL ?_;unfold abt;refine ZL (abw hz rfl (x:=.none) rfl (ZN ?_));simp only[if_true];refine ZL (ab0 (ZL (abw hz rfl (x:=.ref TO) rfl (ZL (ach hz (by simp) λw1 z1 b1=>?_)))))
 replace z1:IsZip w1 z TI TO .ellipsis:=z1
 refine ZL ?_;simp only[List.zipIdx_cons,List.zipIdx_nil,adI,List.forIn_nil];refine ZL (ZL (wpAny_onRaise ?_));show aac _ _ (aaE (Value.ref i1) >>= _) _ _ _;refine ZL (nI (h1.at λo e=>b1.extBut _ _ D.i1z e) (g1.at λo e=>b1.extBut _ _ D.l1z e) hx λw2 n2 b2=>ZN ?_);have t2:ac_ w2 TO p q:=b2.extBut _ _ D.TOi1 (b1.extBut _ _ D.TOz LX);refine ZL (abY t2 rfl (ZL (aeg t2 λw3 t3 b3=>?_)))
 replace t3:ac_ w3 TO x q:=t3
 refine ZL (wpAny_letGo (ZN ?_));refine ZL (ZL (wpAny_onRaise ?_));show aac _ _ (aaE (Value.ref i2) >>= _) _ _ _;refine ZL (nI (h2.at λo e=>b3.extBut _ _ D.TOi2.symm (b2.extBut _ _ D.i12.symm (b1.extBut _ _ D.i2z e))) (g2.at λo e=>b3.extBut _ _ D.l2TO (b2.extBut _ _ D.l2i1 (b1.extBut _ _ D.l2z e))) hy λw4 n4 b4=>ZN ?_);have t4:ac_ w4 TO x q:=b4.extBut _ _ D.TOi2 t3;refine ZL (abY t4 rfl (ZL (aeg t4 λw5 t5 b5=>?_)))
 replace t5:ac_ w5 TO x y:=t5
 refine ZL (wpAny_letGo (ZN (ZN ?_)));refine ZL (abY t5 rfl (ZL (wpAny_newTuple ?_)));have sz:w5.objs.size=s.heap.objs.size:=by rw[b5.1,b4.1,b3.1,b2.1,b1.1]
 have z5:IsZip w5 z TI TO .ellipsis:=b5.extBut _ _ D.TOz.symm (b4.extBut _ _ D.i2z.symm (b3.extBut _ _ D.TOz.symm (b2.extBut _ _ D.i1z.symm z1)));have kp:∀c o,c≠z->c≠TO->c≠i1->c≠i2->s.heap.get? c=some o->w5.get? c=some o:=λc o c1 c2 c3 c4 e=>b5.extBut _ _ c2 (b4.extBut _ _ c4 (b3.extBut _ _ c2 (b2.extBut _ _ c3 (b1.extBut _ _ c1 e))));have n5:gf l1 w5 i1 a1 (k+1):=n2.at λo e=>b5.extBut _ _ D.TOi1.symm (b4.extBut _ _ D.i12 (b3.extBut _ _ D.TOi1.symm e));have m5:gf l2 w5 i2 a2 (k+1):=n4.at λo e=>b5.extBut _ _ D.TOi2.symm e;have lz:z<w5.objs.size:=Z9 z5;show aac _ _ (adh (Value.ref z) (Value.ref w5.objs.size) >>= _) _ _ _;refine ZL ?_;unfold adh;have z6:IsZip (w5.push {cls:=.type "tuple",data:=.seq #[x,y]}) z TI TO .ellipsis:=ZP _ z5;refine ZL (ach z6 (by simp) λw7 z7 b7=>?_)
 replace z7:IsZip w7 z TI TO (aeH w5.objs.size):=z7
 refine ach z7 (by simp) λw8 z8 b8=>?_
 replace z8:IsZip w8 z TI TO (aeH w5.objs.size):=z8
 have up:∀c o,c≠z->w5.get? c=some o->w8.get? c=some o:=λc o c1 e=>b8.extBut _ _ c1 (b7.extBut _ _ c1 (ZP _ e));have t8:ac_ w8 w5.objs.size x y:=b8.extBut _ _ (acO lz) (b7.extBut _ _ (acO lz) (Z3 _ rfl));rw[sz] at z8 t8;refine ZN ⟨_,rfl,?_⟩;show Q (.ref w5.objs.size) _;rw[sz];exact hQ w8 z8 (up _ _ D.TOz t5) (n5.at λo e=>up _ o D.i1z e) (m5.at λo e=>up _ o D.i2z e) t8 λc o c1 c2 c3 c4 e=>up c o c1 (kp c o c1 c2 c3 c4 e)
theorem Eg {TI TO:Z5}{xs:Array ZO}{p:ZO}{Q:Fin->Z8->Prop}(hh:A.handled=none)(D:ZipApart z TI TO i1 i2 a1 a2)(hz:IsZip s.heap z TI TO .none)(LW:ac_ s.heap TI (.ref i1) (.ref i2))(LX:ac_ s.heap TO p q)(h1:gf l1 s.heap i1 a1 k)(h2:gf l2 s.heap i2 a2 k)(g1:iS l1 s.heap a1 xs)(g2:iS l2 s.heap a2 ys)(LY:xs[k]? = none\/ys[k]? = none)(hE:∀h' e,(∀c o,c≠z->c≠TO->c≠i1->c≠i2->s.heap.get? c=some o->h'.get? c=some o)->(∃o,h'.get? e=some o/\o.cls=.type "StopIteration")->E (.ref e) {s with heap:=h'}) :
  aac (aar prog w) A (Builtin.«zip.__next__» ⟨[.ref z],[]⟩) Q E s:=by
 show aac _ _ (field (Value.ref z) 2 >>= _) _ _ _;refine ZL (abw hz rfl (x:=.bool false) rfl ?_);show aac _ _ (field (Value.ref z) 3 >>= _) _ _ _;refine ZL (abw hz rfl (x:=.ref TI) rfl (ZL (abY LW rfl ?_)));show aac _ _ (abt (Value.ref z) >>= _) _ _ _;refine ZL ?_;unfold abt;refine ZL (abw hz rfl (x:=.none) rfl (ZN ?_));simp only[if_true];refine ZL (ab0 (ZL (abw hz rfl (x:=.ref TO) rfl (ZL (ach hz (by simp) λw1 z1 b1=>?_)))))
 replace z1:IsZip w1 z TI TO .ellipsis:=z1
 refine ZL ?_;simp only[List.zipIdx_cons,List.zipIdx_nil,adI,List.forIn_nil];refine ZL (ZL (wpAny_onRaise ?_));show aac _ _ (aaE (Value.ref i1) >>= _) _ _ _;cases hx:xs[k]? with
 |none=>
  refine ZL (xj hh (h1.at λo e=>b1.extBut _ _ D.i1z e) (g1.at λo e=>b1.extBut _ _ D.l1z e) hx λw2 e b2 he=>?_);obtain⟨oe,hoe,hce⟩:=he;have z2:IsZip w2 z TI TO .ellipsis:=b2 _ _ D.i1z.symm z1;have nz:e≠z:=λx=>by subst x;rw[z2] at hoe;cases hoe;simp at hce
  exact ach z2 (by simp) λw3 _ b3=>hE w3 e (λc o c1 _ c3 _ x=>b3.extBut _ _ c1 (b2 _ _ c3 (b1.extBut _ _ c1 x))) ⟨oe,b3.extBut _ _ nz hoe,hce⟩
 |some x=>
  have hy:ys[k]? = none:=by rcases LY with h|h;rw[hx] at h;cases h;exact h
  refine ZL (nI (h1.at λo e=>b1.extBut _ _ D.i1z e) (g1.at λo e=>b1.extBut _ _ D.l1z e) hx λw2 n2 b2=>ZN ?_);have t2:ac_ w2 TO p q:=b2.extBut _ _ D.TOi1 (b1.extBut _ _ D.TOz LX);refine ZL (abY t2 rfl (ZL (aeg t2 λw3 t3 b3=>?_)));refine ZL (wpAny_letGo (ZN ?_));refine ZL (ZL (wpAny_onRaise ?_));show aac _ _ (aaE (Value.ref i2) >>= _) _ _ _;refine ZL (xj hh (h2.at λo e=>b3.extBut _ _ D.TOi2.symm (b2.extBut _ _ D.i12.symm (b1.extBut _ _ D.i2z e))) (g2.at λo e=>b3.extBut _ _ D.l2TO (b2.extBut _ _ D.l2i1 (b1.extBut _ _ D.l2z e))) hy λw4 e b4 he=>?_);obtain⟨oe,hoe,hce⟩:=he;have z4:IsZip w4 z TI TO .ellipsis:=b4 _ _ D.i2z.symm (b3.extBut _ _ D.TOz.symm (b2.extBut _ _ D.i1z.symm z1));have nz:e≠z:=λx=>by subst x;rw[z4] at hoe;cases hoe;simp at hce
  exact ach z4 (by simp) λw5 _ b5=>hE w5 e (λc o c1 c2 c3 c4 x=>b5.extBut _ _ c1 (b4 _ _ c4 (b3.extBut _ _ c2 (b2.extBut _ _ c3 (b1.extBut _ _ c1 x))))) ⟨oe,b5.extBut _ _ nz hoe,hce⟩
theorem B4 {TI TO:Z5}{xs:Array ZO}{x y p:ZO}{Q:Option ZO->Z8->Prop}(D:ZipApart z TI TO i1 i2 a1 a2)(hz:IsZip s.heap z TI TO .none)(LW:ac_ s.heap TI (.ref i1) (.ref i2))(LX:ac_ s.heap TO p q)(h1:gf l1 s.heap i1 a1 k)(h2:gf l2 s.heap i2 a2 k)(g1:iS l1 s.heap a1 xs)(g2:iS l2 s.heap a2 ys)(hx:xs[k]? = some x)(hy:ys[k]? = some y)(hQ:∀h',IsZip h' z TI TO (aeH s.heap.objs.size)->ac_ h' TO x y->gf l1 h' i1 a1 (k+1)->gf l2 h' i2 a2 (k+1)->ac_ h' s.heap.objs.size x y->(∀c o,c≠z->c≠TO->c≠i1->c≠i2->s.heap.get? c=some o->h'.get? c=some o)->Q (some (.ref s.heap.objs.size)) {s with heap:=h'}) :
  aac (aar prog w) A (aef (.ref z)) Q E s:=by
 have hT:s.TypeIs (.ref z) "zip":=⟨_,hz,rfl⟩;unfold aef;exact ZL (acH (aaK (name:=abN "__next__") hT aew (aaH aew hT F.entry_zip_next (B3 D hz LW LX h1 h2 g1 g2 hx hy λh' c1 c2 c3 c4 c5 c6=>ZN (hQ h' c1 c2 c3 c4 c5 c6)) (F.args_zip_next_1 _))))
theorem B5 {TI TO:Z5}{xs:Array ZO}{p:ZO}{Q:Option ZO->Z8->Prop}(hh:A.handled=none)(D:ZipApart z TI TO i1 i2 a1 a2)(hz:IsZip s.heap z TI TO .none)(LW:ac_ s.heap TI (.ref i1) (.ref i2))(LX:ac_ s.heap TO p q)(h1:gf l1 s.heap i1 a1 k)(h2:gf l2 s.heap i2 a2 k)(g1:iS l1 s.heap a1 xs)(g2:iS l2 s.heap a2 ys)(LY:xs[k]? = none\/ys[k]? = none)(hQ:∀h',(∀c o,c≠z->c≠TO->c≠i1->c≠i2->s.heap.get? c=some o->h'.get? c=some o)->Q none {s with heap:=h'}):aac (aar prog w) A (aef (.ref z)) Q E s:=by
 have hT:s.TypeIs (.ref z) "zip":=⟨_,hz,rfl⟩;unfold aef;refine ZL (acH (aaK (name:=abN "__next__") hT aew (aaH aew hT F.entry_zip_next (Eg hh D hz LW LX h1 h2 g1 g2 LY λh' e hk ⟨o,ho,hc⟩=>?_) (F.args_zip_next_1 _))));exact ZL (adl (T:="StopIteration") (b:=true) ⟨o,ho,hc⟩ isSubtype_stop (ZN (hQ _ hk)))
end
noncomputable abbrev Pq (l1:Bool)(h:acj)(a1:Z5):acj:=h.push {cls:=.type (B1 l1),data:=.fields #[.ref a1,.int 0 0]}
noncomputable abbrev Pr (l1 l2:Bool)(h:acj)(a1 a2:Z5):acj:=(Pq l1 h a1).push {cls:=.type (B1 l2),data:=.fields #[.ref a2,.int 0 0]}
noncomputable abbrev Pt (l1 l2:Bool)(h:acj)(a1 a2:Z5):acj:=(Pr l1 l2 h a1 a2).push {cls:=.type "tuple",data:=.seq #[.ref h.objs.size,.ref (Pq l1 h a1).objs.size]}
noncomputable abbrev Pu (l1 l2:Bool)(h:acj)(a1 a2:Z5):acj:=(Pt l1 l2 h a1 a2).push {cls:=.type "tuple",data:=.seq #[.none,.none]}
noncomputable abbrev Me (l1 l2:Bool)(h:acj)(a1 a2:Z5):acj:=(Pu l1 l2 h a1 a2).push {cls:=.type "zip",data:=.fields #[.none,.bool false,.bool false,.ref (Pr l1 l2 h a1 a2).objs.size,.ref (Pt l1 l2 h a1 a2).objs.size]}
theorem Eh (l1 l2:Bool)(a1 a2:Z5)(xs ys:Array ZO):Meets (Builtin.«zip.__new__» ⟨[.type "zip",.ref a1,.ref a2],[]⟩) (λ_ R s=>iS l1 s.heap a1 xs/\iS l2 s.heap a2 ys/\R (.ok (.ret (.ref (Pu l1 l2 s.heap a1 a2).objs.size))) {s with heap:=Me l1 l2 s.heap a1 a2}):=
 .of_wp λprog w A R s h=>by
  obtain⟨hp,g,d,tk,os⟩:=s;obtain⟨g1,g2,h⟩:=h;have sb:=sub_zip;have q1:iS l1 (Shared.heap ⟨hp,g,d,tk,os⟩) a1 xs:=g1;have q2:iS l2 (Shared.heap ⟨hp.push {cls:=.type (B1 l1),data:=.fields #[.ref a1,.int 0 0]},g,d,tk,os⟩) a2 ys:=g2.at λo e=>ZP _ e;wp_walk using AD q1,AD q2;exact⟨_,rfl,h⟩
section
variable {A:aaD}
theorem B6 {xs:Array ZO}(g1:iS l1 s.heap a1 xs)(g2:iS l2 s.heap a2 ys)(h:∀h',IsZip h' (s.heap.objs.size+4) (s.heap.objs.size+2) (s.heap.objs.size+3) .none->ac_ h' (s.heap.objs.size+2) (.ref s.heap.objs.size) (.ref (s.heap.objs.size+1))->ac_ h' (s.heap.objs.size+3) .none .none->
   gf l1 h' s.heap.objs.size a1 0->gf l2 h' (s.heap.objs.size+1) a2 0->(∀c o,s.heap.get? c=some o->h'.get? c=some o)->Q (.ref (s.heap.objs.size+4)) {s with heap:=h'}):aac (aar prog w) A (call (.type "zip") [.ref a1,.ref a2]) Q E s:=by
 refine callType_new F.called_zip (by decide) (F.typeCall_zip_2 _ _) (F.newCall_zip_2 _ _) (λobj=>F.args_object_init_3 obj _ _) F.entry_zip_new (Eh l1 l2 a1 a2 xs ys) ⟨g1,g2,?_⟩;have z1:(Pq l1 s.heap a1).objs.size=s.heap.objs.size+1:=abg ..;have z2:(Pr l1 l2 s.heap a1 a2).objs.size=s.heap.objs.size+2:=by rw[abg,z1]
 have z3:(Pt l1 l2 s.heap a1 a2).objs.size=s.heap.objs.size+3:=by rw[abg,z2]
 have z4:(Pu l1 l2 s.heap a1 a2).objs.size=s.heap.objs.size+4:=by rw[abg,z3]
 have e5:(Me l1 l2 s.heap a1 a2).get? (Pu l1 l2 s.heap a1 a2).objs.size=some _:=Z3 _ rfl;have e4:(Me l1 l2 s.heap a1 a2).get? (Pt l1 l2 s.heap a1 a2).objs.size=some _:=ZP _ (Z3 _ rfl);have e3:(Me l1 l2 s.heap a1 a2).get? (Pr l1 l2 s.heap a1 a2).objs.size=some _:=ZP _ (ZP _ (Z3 _ rfl));have e2:(Me l1 l2 s.heap a1 a2).get? (Pq l1 s.heap a1).objs.size=some _:=ZP _ (ZP _ (ZP _ (Z3 _ rfl)));have e1:(Me l1 l2 s.heap a1 a2).get? s.heap.objs.size=some _:=ZP _ (ZP _ (ZP _ (ZP _ (Z3 _ rfl))));show _/\_;rw[z2,z3,z4] at e5;rw[z1,z2] at e3;rw[z3] at e4;rw[z1] at e2;rw[z4];have mk:∀(l:Bool) (hp:acj) (it a:Z5) (_:hp.get? it=some {cls:=.type (B1 l),data:=.fields #[.ref a,.int 0 0]}),gf l hp it a 0:=λl hp it a e=>by
  cases l with
  |true=>exact⟨_,e,rfl,rfl⟩
  |false=>exact⟨_,e,rfl,rfl⟩
 exact⟨⟨_,e5,rfl⟩,h _ e5 e3 e4 (mk l1 _ _ _ e1) (mk l2 _ _ _ e2) λc o x=>ZP _ (ZP _ (ZP _ (ZP _ (ZP _ x))))⟩
end
end Hc.Zp
namespace L2
open Hc.Zp
section
variable {T:Z5}{o:HO}
theorem aJ.turnNew {t':Nat}(I:aJ X pins σ H s)(hf:∀b∈fp,oZ X pins H b)(k:∀b o,b∉fp->s.heap.get? b=some o->h'.get? b=some o)(hT:s.heap.objs.size<=T)(new:dX X.prog X.w (c_ H T o) h' T o) :
  aJ X pins σ (c_ H T o) {s with heap:=h',toks:=t'}:=by
 have hn:H T=none:=I.hok.fresh hT;have nf:∀b u,H b=some u->b∉fp:=λb u e z=>by rw[(hf b z).1] at e;cases e
 have nT:∀b u,H b=some u->b≠T:=λb u e z=>by rw[z,hn] at e;cases e
 refine I.step (g':=s.gens) (d':=s.drawn) (ch:=fp) (λb hb=>?_) (λb o _ _ hc e _=>k b o hc e) (λb o _ _ hc e _=>⟨o.slots,k b o hc e⟩) (λb o _ e n=>?_) (λb o hc e=>⟨o,k b o hc e⟩)
  (λb xs e=>?_) (λb o u e=>?_) (λb ps e=>⟨#[],?_⟩) (λm hm=>?_) (λb u e=>?_) I.bare
 ·obtain⟨f0,f1,f2,f3,f4,f5⟩:=hf b hb;exact⟨f3,f1,f4,f5⟩
 ·rw[bp (aaq (aaB (Z9 e) hT))];exact n
 ·rw[bp (nT b _ e)];exact e
 ·rw[bp (nT b _ e)];exact e
 ·rw[bp (nT b _ e),e];simp
 ·obtain⟨o,es,ep,ho,r⟩:=hm;exact⟨o,es,ep,k _ o (λz=>(hf _ z).2.1 rfl) ho,r⟩
 ·by_cases c:b=T
  ·subst c;rw[bS] at e;cases e;exact new
  ·rw[bp c] at e;refine (I.hok b u e).stay (λc v hc q=>k c v ?_ q) (λc q=>by rw[bp (nT c _ q)];exact q) λc xs q=>by rw[bp (nT c _ q)];exact q
   rcases hc with z|z
   ·rw[z];exact nf b u e
   ·exact nf c _ z
theorem aJ.turneds {t':Nat}(I:aJ X pins σ H s)(hf:∀b∈fp,oZ X pins H b)(k:∀b o,b∉fp->s.heap.get? b=some o->h'.get? b=some o):aJ X pins σ H {s with heap:=h',toks:=t'}:=by
 have nf:∀b u,H b=some u->b∉fp:=λb u e z=>by rw[(hf b z).1] at e;cases e
 refine I.step (g':=s.gens) (d':=s.drawn) (ch:=fp) (λb hb=>?_) (λb o _ _ hc e _=>k b o hc e) (λb o _ _ hc e _=>⟨o.slots,k b o hc e⟩) (λb o _ e n=>n) (λb o hc e=>⟨o,k b o hc e⟩)
  (λb xs e=>e) (λb o u e=>e) (λb ps e=>⟨#[],by rw[e];simp⟩) (λm hm=>?_) (λb u e=>?_) I.bare
 ·obtain⟨f0,f1,f2,f3,f4,f5⟩:=hf b hb;exact⟨f3,f1,f4,f5⟩
 ·obtain⟨o,es,ep,ho,r⟩:=hm;exact⟨o,es,ep,k _ o (λz=>(hf _ z).2.1 rfl) ho,r⟩
 ·refine (I.hok b u e).stay (λc v hc q=>k c v ?_ q) (λ_ q=>q) λ_ _ q=>q;rcases hc with z|z
  ·rw[z];exact nf b u e
  ·exact nf c _ z
def B7 (l:Bool)(K:ZQ)(H:Hp)(a:Z5)(xs:List V):Prop:=if l=true then fS K H a xs else gz K H a xs
theorem aJ.sq {l:Bool}(I:aJ X pins σ H s)(q:B7 l X.K H a xs):∃its,bh xs its/\iS l s.heap a its.toArray:=by
 cases l with
 |true=>obtain⟨its,rv,p,_⟩:=I.list q;exact⟨its,rv,p.isList⟩
 |false=>obtain⟨its,rv,p,_⟩:=I.tuple q;exact⟨its,rv,p⟩
theorem aJ.sq_inj {l:Bool}{ys:List V}(I:aJ X pins σ H s)(q:B7 l X.K H a xs)(q':B7 l X.K H a ys):xs=ys:=by
 cases l with
 |true=>exact I.list_inj q q'
 |false=>exact I.tuple_inj q q'
end
noncomputable def Wg (K:ZQ)(l1 l2:Bool)(a1 a2:Z5):It:=
  ⟨λi H=>∃xs ys x y,B7 l1 K H a1 xs/\B7 l2 K H a2 ys/\xs[i]? = some x/\ys[i]? = some y,
   λi H v H'=>∃T x y,v=.ref T/\H T=none/\H'=c_ H T (.tup [x,y])/\(∀xs,B7 l1 K H a1 xs->xs[i]? = some x)/\(∀ys,B7 l2 K H a2 ys->ys[i]? = some y),
   λi H=>∃xs ys,B7 l1 K H a1 xs/\B7 l2 K H a2 ys/\(xs.length<=i\/ys.length<=i)⟩
theorem Ei {FW:List abE}{kt:Nat}{tp:Pos}{TI TO:Z5}(D:ZipApart z TI TO i1 i2 a1 a2) :
  Bw P w K (.Tuple FW kt tp) (Wg K l1 l2 a1 a2) [z,TI,TO,i1,i2] z (λi h=>IsZip h z TI TO .none/\ac_ h TI (.ref i1) (.ref i2)/\(∃p q,ac_ h TO p q)/\gf l1 h i1 a1 i/\gf l2 h i2 a2 i) where
 mem:=by simp
 obj:=λi h ⟨hz,hI,⟨p,q,hO⟩,h1,h2⟩ b hb=>by
  obtain⟨o1,e1,d1,_⟩:=h1.obj;obtain⟨o2,e2,d2,_⟩:=h2.obj;simp only[Z4,ado,or_false] at hb;rcases hb with rfl|rfl|rfl|rfl|rfl
  ·exact⟨_,hz,λv e=>by cases e⟩
  ·exact⟨_,hI,λv e=>by cases e⟩
  ·exact⟨_,hO,λv e=>by cases e⟩
  ·exact⟨o1,e1,λv e=>by rw[d1] at e;cases e⟩
  ·exact⟨o2,e2,λv e=>by rw[d2] at e;cases e⟩
 keep:=λi h h' ⟨hz,hI,⟨p,q,hO⟩,h1,h2⟩ k=>⟨k z (by simp) _ hz,k TI (by simp) _ hI,⟨p,q,k TO (by simp) _ hO⟩,h1.at λo e=>k i1 (by simp) o e,h2.at λo e=>k i2 (by simp) o e⟩
 item:=by
  intro X hP hw hK hc i pins s σ H E I hf st hg;subst hP hw hK;obtain⟨hz,hI,⟨p,q,hO⟩,h1,h2⟩:=st;obtain⟨xs,ys,x,y,q1,q2,hx,hy⟩:=hg;obtain⟨is1,v1,g1⟩:=I.sq q1;obtain⟨is2,v2,g2⟩:=I.sq q2;obtain⟨u1,kS,r1⟩:=v1.get hx;obtain⟨u2,RW,r2⟩:=v2.get hy;obtain⟨o1,e1,_,_⟩:=h1.obj;obtain⟨o2,e2,_,_⟩:=h2.obj;have lz:=Z9 hz;have lI:=Z9 hI;have lO:=Z9 hO;have XZ:=Z9 e1;have X0:=Z9 e2;refine B4 D hz hI hO h1 h2 g1 g2 (x:=u1) (y:=u2) (by simpa using kS) (by simpa using RW) λh' c1 c2 c3 c4 c5 kp=>⟨_,rfl,?_⟩;refine wpAny_letOwnedTupleGo_zip c1 λJJ z2 sb=>?_;have LU:ac_ JJ s.heap.objs.size u1 u2:=sb.extBut _ _ (acO lz) c5;have X1:∀b o,b∉[z,TI,TO,i1,i2]->s.heap.get? b=some o->JJ.get? b=some o:=λb o hb e=>by
   simp only[Z4,ado,or_false,not_or] at hb;exact sb.extBut _ _ hb.1 (kp b o hb.1 hb.2.2.1 hb.2.2.2.1 hb.2.2.2.2 e)
  have I2:aJ X pins σ (c_ H s.heap.objs.size (.tup [x,y])) {s with heap:=JJ}:=I.turnNew (t':=s.toks) hf X1 (Z2 _) ⟨by rw[abG];simp,[u1,u2],.cons r1 (.cons r2 .nil),⟨_,LU,rfl,_,rfl⟩,_,LU⟩;have fr:H s.heap.objs.size=none:=I.hok.fresh (Z2 _);refine⟨.ref s.heap.objs.size,_,I2,rfl,⟨_,x,y,rfl,fr,rfl,λzs hq=>by rw[I.sq_inj hq q1];exact hx,λzs hq=>by rw[I.sq_inj hq q2];exact hy⟩,⟨z2,?_,⟨u1,u2,?_⟩,?_,?_⟩,λb hb=>?_⟩
  ·exact sb.extBut _ _ D.TIz (kp _ _ D.TIz D.TITO D.TIi1 D.TIi2 hI)
  ·exact sb.extBut _ _ D.TOz c2
  ·exact c3.at λo e=>sb.extBut _ _ D.i1z e
  ·exact c4.at λo e=>sb.extBut _ _ D.i2z e
  ·have hn:b≠s.heap.objs.size:=by
    simp only[Z4,ado,or_false] at hb;rcases hb with rfl|rfl|rfl|rfl|rfl
    ·exact aaq lz
    ·exact aaq lI
    ·exact aaq lO
    ·exact aaq XZ
    ·exact aaq X0
   rw[bp hn];exact (hf b hb).1
 done:=by
  intro X hP hw hK hc i pins s σ H E I hf st hg;subst hP hw hK;obtain⟨hz,hI,⟨p,q,hO⟩,h1,h2⟩:=st;obtain⟨xs,ys,q1,q2,he⟩:=hg;obtain⟨is1,v1,g1⟩:=I.sq q1;obtain⟨is2,v2,g2⟩:=I.sq q2;have n1:=v1.length;have n2:=v2.length;refine B5 (I.ok.hd hc) D hz hI hO h1 h2 g1 g2 (by
   rcases he with he|he
   ·exact .inl (by simp;lia)
   ·exact .inr (by simp;lia)) λh' kp=>⟨rfl,I.turneds (t':=s.toks) hf λb o hb e=>?_⟩
  simp only[Z4,ado,or_false,not_or] at hb;exact kp b o hb.1 hb.2.2.1 hb.2.2.2.1 hb.2.2.2.2 e
 self:=λ_ _ _ _ _ st h=>wpAny_pyIter_zip st.1 h
section
variable {FW:List abE}{kt:Nat}{tp p:Pos}{a b:abE}
theorem K0:aaY "zip"=some (.type "zip"):=by decide+kernel
def QH (K:ZQ)(ta:TA):TI:=λσ H R=>ta σ H λvs H1=>∃l1 l2 a1 a2 xs ys,vs=[.ref a1,.ref a2]/\B7 l1 K H1 a1 xs/\B7 l2 K H1 a2 ys/\R (Wg K l1 l2 a1 a2) H1
theorem K1 {ta:TA}(hg:Gl X "zip")(hm:X.mg "zip"=none)(ha:PA X [a,b] ta)(hs:aaf [a,b] X.env=[(false,ade a X.env),(false,ade b X.env)]:=by rfl)(cV:aaf [b] X.env=[(false,ade b X.env)]:=by rfl) :
  PI X (.Tuple FW kt tp) (.Call (.Name "zip" p) [a,b] [] pos) (QH X.K ta):=by
 intro pins s σ H R I h;refine Call_ (uQ I hg hm K0 (acP (eG (ha pos pins s σ H _ I h) λus s1 ⟨vs,H1,I1,r1,q1⟩=>?_) (by rw[hs,cV]) (by rw[cV];rfl)));obtain⟨l1,l2,a1,a2,xs,ys,rfl,g1,g2,q⟩:=q1;cases r1 with
 |cons r rr=>
  cases rr with
  |cons r' rr=>
   cases rr;cases r;cases r';obtain⟨is1,v1,m1⟩:=I1.sq g1;obtain⟨is2,v2,m2⟩:=I1.sq g2;have lt:∀(l:Bool) (c:Z5) (zs:Array ZO),iS l s1.heap c zs->c<s1.heap.objs.size:=λl c zs hq=>by
    cases l with
    |true=>obtain⟨_,e,_⟩:=hq;exact Z9 e
    |false=>obtain⟨_,e,_⟩:=hq;exact Z9 e
   refine B6 m1 m2 λh' z1 z2 z3 z4 z5 kp=>wpAny_pyIter_zip z1 ?_;refine⟨_,[s1.heap.objs.size+4,s1.heap.objs.size+2,s1.heap.objs.size+3,s1.heap.objs.size,s1.heap.objs.size+1],_,_,H1,rfl,I1.kept (t':=s1.toks) λb o e=>kp b o e,Ei (zipApart_new (lt l1 a1 _ m1) (lt l2 a2 _ m2)),⟨z1,z2,⟨_,_,z3⟩,z4,z5⟩,λb hb=>?_,q⟩;have hb:s1.heap.objs.size<=b:=by
    simp only[Z4,ado,or_false] at hb;rcases hb with rfl|rfl|rfl|rfl|rfl
    ·exact abr _ _
    ·exact abr _ _
    ·exact abr _ _
    ·exact Z2 _
    ·exact abr _ _
   exact I1.fpOk hb (I1.hok.fresh hb)
end
noncomputable def G9:U->Option (List U)
 | .lst us=>some us
 | .tup us=>some us
 |_=>none
noncomputable def B8 (ga:Ev->R (List U×Ev)):Ev->R (List U×Ev):=λρ=>(ga ρ).bind λx=>match x.1 with
 | [u,w]=>match G9 u,G9 w with
  |some us,some ws=>.ok (adz (λa b=>.tup [a,b]) us ws,x.2)
  |_,_=>.stk
 |_=>.stk
section
variable {FW:List abE}{kt:Nat}{tp p1:Pos}{a b:abE}{b1:Bool}{ga:Ev->R (List U×Ev)}
theorem Ej (e:G9 u=some us)(h:Rp K H A u v):∃l a xs,v=.ref a/\us.length<=ZY/\aK K H A us xs/\B7 l K H a xs/\∀H',fg A H H'->(∀b,A b->Mu (H b))->B7 l K H' a xs:=by
 unfold G9 at e;split at e;rotate_right
 ·cases e
 rotate_left
 ·cases e;unfold Rp at h;obtain⟨a,xs,rfl,q,l,z⟩:=h;exact⟨false,a,xs,rfl,l,z,gz.of q,λH' x mu=>gz.of (x a _ (λy=>by have:=mu a y;rw[q] at this;exact this) q)⟩
 ·cases e;unfold Rp at h;obtain⟨a,xs,rfl,na,q,l,z⟩:=h;exact⟨true,a,xs,rfl,l,z,fS.of q,λH' x mu=>fS.of (x a _ na q)⟩
theorem zk (ha:DA X G [a,b] b1 false ga)(hm:X.mg "zip"=none)(hg:Gl X "zip":=by rfl)(hs:aaf [a,b] X.env=[(false,ade a X.env),(false,ade b X.env)]:=by rfl)(cV:aaf [b] X.env=[(false,ade b X.env)]:=by rfl) :
  DI X G (.Tuple FW kt tp) (.Call (.Name "zip" p1) [a,b] [] pos) b1 false (B8 ga):=⟨(K1 hg hm ha.un hs cV).to λσ H RR h00=>by
 obtain⟨Z,A,ρ,q,f⟩:=h00;unfold B8 at f;cases e1:ga ρ with
 |stk=>rw[e1] at f;exact f.elim
 |exc=>rw[e1] at f;exact f.elim
 |ok y=>
  obtain⟨us,ρ1⟩:=y;rw[e1] at f;dsimp only[L2.R.bind] at f;refine⟨Z,A,ρ,q,?_⟩;rw[e1];intro vs H1 q1 x1 s1 vm;split at f
  ·rename_i XS ρ' e2;split at e2
   ·rename_i u w';split at e2
    ·rename_i as bs ea eb;cases e2;have r:=vm.rps;unfold aK at r;obtain⟨v,vr,rfl,r1,r2⟩:=r;unfold aK at r2;obtain⟨v',vr',rfl,r3,r4⟩:=r2;unfold aK at r4;subst r4;obtain⟨l1,a1,xs,rfl,n1,z1,k1,yi⟩:=Ej ea r1;obtain⟨l2,a2,ys,rfl,n2,z2,k2,kR⟩:=Ej eb r3;refine⟨l1,l2,a1,a2,xs,ys,rfl,k1,k2,f _ H1 q1 x1 s1 ⟨?_,λH2 A' hx zU=>?_⟩⟩
     ·rw[aex];exact aaT (Nat.min_le_left _ _) n1
     ·rw[hU ZV] at hx;have RO:=yi H2 hx q1.mu;have RP:=kR H2 hx q1.mu;have w1:=z1.re q1.mu hx zU;have w2:=z2.re q1.mu hx zU;refine⟨λi u hu=>?_,⟨xs,ys,RO,RP,?_⟩⟩
      ·rw[List.getElem?_zipWith] at hu;cases hA:as[i]? with
       |none=>rw[hA] at hu;cases hu
       |some ua=>cases hB:bs[i]? with
        |none=>rw[hA,hB] at hu;cases hu
        |some ub=>
         rw[hA,hB] at hu;cases hu;obtain⟨x,hx1,px⟩:=w1.get hA;obtain⟨y,hy1,py⟩:=w2.get hB;refine⟨⟨xs,ys,x,y,RO,RP,hx1,hy1⟩,λx' H' yl=>?_⟩;obtain⟨T,x2,y2,rfl,hT,rfl,g1,g2⟩:=yl;have ex:x2=x:=by have:=g1 xs RO;rw[hx1] at this;cases this;rfl
         have ey:y2=y:=by have:=g2 ys RP;rw[hy1] at this;cases this;rfl
         subst ex ey;have sm:=de hT (.tup [x2,y2]);refine⟨sm,?_⟩;unfold Rp;exact⟨T,_,rfl,bS,by have:ZY=16777216:=rfl;rw[this];simp,aK.cons (px.same sm) (aK.cons (py.same sm) aK.nil)⟩
      ·rw[aex,←z1.length,←z2.length];rcases Nat.le_total as.length bs.length with z|z
       ·exact .inl (by rw[acZ z];exact Z2 _)
       ·exact .inr (by rw[Nat.min_eq_right z];exact Z2 _)
    ·cases e2
   ·cases e2
  ·exact f.elim⟩
end
end L2
namespace L2
section
variable {e:abE}{p1 p2 p3 p4:Pos}{b1:Bool}{m1 m:Md}{g1:Ev->R (U×Ev)}{v:Option abE}{w:Option abE}
theorem K2 {g:Ev->SR}(h:∀ρ,∃c u,g ρ=.exc c u)(hW:∀H,¬G.W H:=by exact λ_ h=>h):DS X G m (.Raise v w pos) g:=⟨λpins s σ H D I h00=>by
 obtain⟨Z,A,ρ,q,f⟩:=h00;obtain⟨c,u,e⟩:=h ρ;rw[e] at f;exact absurd (f H q.bas) (hW H)⟩
end
end L2
namespace L2
theorem nr {α:Sort _}{a b:α}(h:a=b):a=b:=h
noncomputable def look (o:Option (Option U))(ρ:Ev):R (U×Ev):=match o with
 |some (some u)=>.ok (u,ρ)
 |_=>.stk
noncomputable def Wh (u:U)(ρ:Ev):R (Bool×Ev):=match u with
 | .bl c=>.ok (c,ρ)
 |_=>.stk
noncomputable def Pw (o:Option U):R U:=match o with
 |some u=>.ok u
 |none=>.stk
noncomputable def SR.seq (r:SR)(g:Ev->SR):SR:=match r with
 | .nx ρ=>g ρ
 |r=>r
noncomputable def SR.turn (r:SR)(g:Ev->SR):SR:=match r with
 | .nx ρ=>g ρ
 | .ct ρ=>g ρ
 | .bk ρ=>.nx ρ
 |r=>r
noncomputable def Nn (m:Md)(r:SR):R U:=match r with
 | .rt u _=>.ok u
 | .nx _=>if m=.S then .ok .non else .stk
 | .exc c u=>.exc c u
 |_=>.stk
noncomputable def io0 (u:U)(o:Option (Option U)):R (U×U):=match o with
 |some (some w)=>.ok (u,w)
 |_=>.stk
noncomputable def pd (r:SR):R (U×U):=match r with
 | .rt u ρ=>io0 u ρ[0]?
 | .nx ρ=>io0 .non ρ[0]?
 | .exc c u=>.exc c u
 |_=>.stk
section
variable {w:U}{α β:Type}{g g1 g2 g3:Ev->R (U×Ev)}{h h1 h2:Ev->R (Bool×Ev)}{s s1 s2:Ev->SR}{ga:Ev->R (List U×Ev)}{m:Md}{ws:List U}
theorem Ir:ah i ρ=look ρ[i]? ρ:=nr rfl
theorem Ek:look (some (some u)) ρ=.ok (u,ρ):=nr rfl
theorem Wi:gC u ρ=.ok (u,ρ):=nr rfl
theorem B9 {a:α}{f:α->R β}:(R.ok a).bind f=f a:=nr rfl
theorem Iu {f:α->R β}:(R.stk:R α).bind f=.stk:=nr rfl
theorem uc {a:α}{f:α->SR}:SR.of (R.ok a) f=f a:=nr rfl
theorem Np {p:U->U->R U}:aG p g1 g2 ρ=(g1 ρ).bind λx=>(g2 x.2).bind λy=>(p x.1 y.1).bind λz=>.ok (z,y.2):=nr rfl
theorem Wj:gB g ρ=(g ρ).bind λx=>Wh x.1 x.2:=nr rfl
theorem Iv {c:Bool}:Wh (.bl c) ρ=.ok (c,ρ):=nr rfl
theorem El:nB h1 h2 ρ=(h1 ρ).bind λx=>if x.1=true then h2 x.2 else .ok (false,x.2):=nr rfl
theorem Iw:CI h1 h2 ρ=(h1 ρ).bind λx=>if x.1=true then .ok (true,x.2) else h2 x.2:=nr rfl
theorem Em:BJ h ρ=(h ρ).bind λx=>.ok (!x.1,x.2):=nr rfl
theorem Iy:Qw g1 g2 ρ=(gB g1 ρ).bind λx=>if x.1=true then g2 x.2 else .ok (.bl false,x.2):=nr rfl
theorem Nq:Xn g1 g2 ρ=(gB g1 ρ).bind λx=>if x.1=true then .ok (.bl true,x.2) else g2 x.2:=nr rfl
theorem Iz:Qx g ρ=(gB g ρ).bind λx=>.ok (.bl (!x.1),x.2):=nr rfl
theorem Nr:Qy h g1 g2 ρ=(h ρ).bind λx=>if x.1=true then g1 x.2 else g2 x.2:=nr rfl
noncomputable def Wl (p':U->U->R U)(g3:Ev->R (U×Ev))(y:U×Ev)(z:U):R (U×Ev):=match z with
 | .bl k=>if k=true then (g3 y.2).bind λw=>(p' y.1 w.1).bind λz'=>.ok (z',w.2) else .ok (.bl false,y.2)
 |_=>.stk
theorem AE {p p':U->U->R U}:qB p p' g1 g2 g3 ρ=(g1 ρ).bind λx=>(g2 x.2).bind λy=>(p x.1 y.1).bind λz=>Wl p' g3 y z:=nr rfl
theorem IA {p':U->U->R U}{y:U×Ev}{k:Bool}:Wl p' g3 y (.bl k)=if k=true then (g3 y.2).bind λw=>(p' y.1 w.1).bind λz'=>.ok (z',w.2) else .ok (.bl false,y.2):=nr rfl
theorem Nt {p:U->R U}:Xo p g ρ=(g ρ).bind λx=>(p x.1).bind λz=>.ok (z,x.2):=nr rfl
theorem En:aq ρ=.ok ([],ρ):=nr rfl
theorem AF:af g ga ρ=(g ρ).bind λx=>(ga x.2).bind λy=>.ok (x.1::y.1,y.2):=nr rfl
theorem Eo:aP ga ρ=(ga ρ).bind λx=>if x.1.length<=ZY then .ok (.tup x.1,x.2) else .stk:=nr rfl
theorem Ep:bT ga ρ=(ga ρ).bind λx=>if x.1.length<=ZY then .ok (.lst x.1,x.2) else .stk:=nr rfl
theorem Nu {p:List U->R U}:gR p ga ρ=(ga ρ).bind λx=>(p x.1).bind λz=>.ok (z,x.2):=nr rfl
theorem Nv {f:List U->R U}:fh n f ga ρ=(ga ρ).bind λx=>(yM n f x.1).bind λz=>.ok (z,x.2):=nr rfl
theorem IB {f:List U->R α}(h:us.length=n):yM n f us=f us:=hV h
noncomputable def Wm (n:Nat)(f:List U->R (U×U))(us:List U)(i:Nat)(ρ:Ev)(o:Option (Option U)):R (U×Ev):=match o with
 |some (some u0)=>(yM n f (u0::us)).bind λz=>.ok (z.1,ρ.set i (some z.2))
 |_=>.stk
theorem IC {f:List U->R (U×U)}:Wm n f us i ρ (some (some u))=(yM n f (u::us)).bind λz=>.ok (z.1,ρ.set i (some z.2)):=nr rfl
noncomputable def Er (o:Option (Option U)):Bool:=match o with
 |some (some _)=>true
 |_=>false
theorem AG:Er (some (some u))=true:=nr rfl
theorem Nw {f:List U->R (U×U)}:wq n i f ga ρ=if Er ρ[i]? = true then (ga ρ).bind λx=>Wm n f x.1 i x.2 x.2[i]? else .stk:=nr rfl
noncomputable def QI (i:Nat)(p:U->List U->R (U×U))(us:List U)(ρ:Ev)(o:Option (Option U)):R (U×Ev):=match o with
 |some (some u0)=>(p u0 us).bind λz=>.ok (z.1,ρ.set i (some z.2))
 |_=>.stk
theorem ID {p:U->List U->R (U×U)}:QI i p us ρ (some (some u))=(p u us).bind λz=>.ok (z.1,ρ.set i (some z.2)):=nr rfl
noncomputable def Wn (T:String)(i:Nat)(p:U->List U->R (U×U))(ga:Ev->R (List U×Ev))(ρ:Ev)(o:Option (Option U)):R (U×Ev):=match o with
 |some (some u1)=>if BK u1 T=true then (ga ρ).bind λx=>QI i p x.1 x.2 x.2[i]? else .stk
 |_=>.stk
theorem IE {T:String}{p:U->List U->R (U×U)}:Wn T i p ga ρ (some (some u))=if BK u T=true then (ga ρ).bind λx=>QI i p x.1 x.2 x.2[i]? else .stk:=nr rfl
theorem Wo {T:String}{p:U->List U->R (U×U)}:gM T i p ga ρ=Wn T i p ga ρ ρ[i]? := nr rfl
theorem Es:BK (.lst us) "list"=true:=nr rfl
theorem AH:Ag ρ=.ok (none,ρ):=nr rfl
noncomputable def Wq (u:U)(ρ:Ev):R (Option Int×Ev):=match u with
 | .int i=>.ok (some i,ρ)
 |_=>.stk
theorem IF {k:Int}:Wq (.int k) ρ=.ok (some k,ρ):=nr rfl
theorem AI:wR g ρ=(g ρ).bind λx=>Wq x.1 x.2:=nr rfl
theorem Ny {p:U->Option Int->Option Int->R U}{lo hi:Ev->R (Option Int×Ev)}:Pl p g lo hi ρ=(g ρ).bind λx=>(lo x.2).bind λl=>(hi l.2).bind λh=>(p x.1 l.1 h.1).bind λz=>.ok (z,h.2):=nr rfl
noncomputable def i_ (T:String)(u:U)(ρ:Ev):R (U×Ev):=if Pn u="script" then .stk else .ok (.bl (iU (Pn u) T),ρ)
theorem Et {T:String}:Nb T g ρ=(g ρ).bind λx=>i_ T x.1 x.2:=nr rfl
theorem Eu:bM ρ=.nx ρ:=nr rfl
theorem AJ:Ky ρ=.bk ρ:=nr rfl
theorem Ew:M6 ρ=.ct ρ:=nr rfl
theorem ud:aI s1 s2 ρ=(s1 ρ).seq s2:=nr rfl
theorem nJ:(SR.nx ρ).seq s=s ρ:=nr rfl
theorem Ex:(SR.rt u ρ).seq s=.rt u ρ:=nr rfl
theorem Ey:(SR.bk ρ).seq s=.bk ρ:=nr rfl
theorem Ez:(SR.ct ρ).seq s=.ct ρ:=nr rfl
theorem EA:lj g ρ=SR.of (g ρ) λx=>.nx x.2:=nr rfl
theorem IG:bB g ρ=SR.of (g ρ) λx=>.rt x.1 x.2:=nr rfl
theorem EB:bj i g ρ=SR.of (g ρ) λx=>.nx (x.2.set i (some x.1)):=nr rfl
theorem IH {sg:U->Ev->R Ev}:BL sg g ρ=SR.of (g ρ) λx=>SR.of (sg x.1 x.2) .nx:=nr rfl
theorem II:kE h s1 s2 ρ=SR.of (h ρ) λx=>if x.1=true then s1 x.2 else s2 x.2:=nr rfl
noncomputable def Wr (i j:Nat)(ρ:Ev)(o:Option (Option U)):SR:=match o with
 |some (some u)=>.nx ((ρ.set j none).set i (some u))
 |_=>.stk
theorem EC:M7 i j ρ=Wr i j ρ ρ[j]? := nr rfl
theorem IJ:Wr i j ρ (some (some u))=.nx ((ρ.set j none).set i (some u)):=nr rfl
noncomputable def Nz (i j:Nat)(us:List U)(ρ:Ev):SR:=match us with
 | [u,w]=>.nx ((ρ.set i (some u)).set j (some w))
 |_=>.stk
theorem IK:Kz i j ga ρ=SR.of (ga ρ) λx=>Nz i j x.1 x.2:=nr rfl
theorem ED:Nz i j [u,w] ρ=.nx ((ρ.set i (some u)).set j (some w)):=nr rfl
noncomputable def Px (i:Nat)(v k:U)(ρ:Ev)(o:Option (Option U)):SR:=match k with
 | .int k=>match o with
  |some (some (.lst us))=>match CD us.length k with
   |some j=>.nx (ρ.set i (some (.lst (us.set j v))))
   |none=>.stk
  |_=>.stk
 |_=>.stk
theorem EE:qI i g1 g2 ρ=SR.of (g1 ρ) λx=>if Er x.2[i]? = true then SR.of (g2 x.2) λy=>Px i x.1 y.1 y.2 y.2[i]? else .stk:=nr rfl
theorem NA {k:Int}(h:CD us.length k=some j):Px i w (.int k) ρ (some (some (.lst us)))=.nx (ρ.set i (some (.lst (us.set j w)))):=by
 unfold Px;dsimp only;rw[h]
noncomputable def NB (i:Nat)(p:U->U->R U)(g:Ev->R (U×Ev))(ρ:Ev)(o:Option (Option U)):SR:=match o with
 |some (some u)=>SR.of (g ρ) λy=>SR.of (p u y.1) λz=>.nx (y.2.set i (some z))
 |_=>.stk
theorem IL {p:U->U->R U}:QD i p g ρ=NB i p g ρ ρ[i]? := nr rfl
theorem EF {p:U->U->R U}:NB i p g ρ (some (some u))=SR.of (g ρ) λy=>SR.of (p u y.1) λz=>.nx (y.2.set i (some z)):=nr rfl
theorem IM {gi:Ev->R (List U×Ev)}{sg:U->Ev->R Ev}:jk gi sg s ρ=SR.of (gi ρ) λx=>iu sg s x.1 x.2:=nr rfl
theorem AK {sg:U->Ev->R Ev}:iu sg s [] ρ=.nx ρ:=nr rfl
theorem EG:iu sg s (u::us) ρ=SR.of (sg u ρ) λρ1=>(s ρ1).turn (iu sg s us):=nr rfl
theorem AL:(SR.nx ρ).turn s=s ρ:=nr rfl
theorem AM:(SR.ct ρ).turn s=s ρ:=nr rfl
theorem AN:(SR.bk ρ).turn s=.nx ρ:=nr rfl
theorem AO:(SR.rt u ρ).turn s=.rt u ρ:=nr rfl
noncomputable def G_ (u:U)(ρ:Ev):R (List U×Ev):=match u with
 | .lst us=>.ok (us,ρ)
 | .tup us=>.ok (us,ρ)
 | .scr us=>.ok (us,ρ)
 |_=>.stk
theorem EH:cy g ρ=(g ρ).bind λx=>G_ x.1 x.2:=nr rfl
theorem EI:G_ (.lst us) ρ=.ok (us,ρ):=nr rfl
theorem EJ:G_ (.tup us) ρ=.ok (us,ρ):=nr rfl
theorem EK:G_ (.scr us) ρ=.ok (us,ρ):=nr rfl
noncomputable def K3 (us:List U)(ρ:Ev):R (List U×Ev):=match us with
 | [.int j]=>if -1000000<=j/\j<=1000000 then .ok (cz 0 j.toNat,ρ) else .stk
 |_=>.stk
theorem EL:mw ga ρ=(ga ρ).bind λx=>K3 x.1 x.2:=nr rfl
theorem K4 {k:Int}:K3 [.int k] ρ=if -1000000<=k/\k<=1000000 then .ok (cz 0 k.toNat,ρ) else .stk:=nr rfl
noncomputable def EM (us:List U)(ρ:Ev):R (U×Ev):=match us with
 | [.int j]=>if yW 0 j=true then .ok (.lst (cz 0 (j-0).toNat),ρ) else .stk
 |_=>.stk
noncomputable def NC (us:List U)(ρ:Ev):R (U×Ev):=match us with
 | [.int j]=>if yW 0 j=true then .ok (.tup (cz 0 (j-0).toNat),ρ) else .stk
 |_=>.stk
theorem EN:qK ga ρ=(ga ρ).bind λx=>EM x.1 x.2:=nr rfl
theorem EO:Nc ga ρ=(ga ρ).bind λx=>NC x.1 x.2:=nr rfl
theorem ND {k:Int}(h0:0<=k)(h1:k<=1000000):yW 0 k=true:=by
 unfold yW;simp only[aae,decide_eq_true_eq];lia
theorem Ha (n:Nat)(h:n<=1000000):EM [.int n] ρ=.ok (.lst (cz 0 n),ρ):=by
 unfold EM;dsimp only;rw[hV (ND (by lia) (by lia)),show ((n:Int)-0).toNat=n by lia]
theorem zm (n:Nat)(h:n<=1000000):K3 [.int n] ρ=.ok (cz 0 n,ρ):=by
 rw[K4,hV (by lia)];rfl
theorem IP {gi:Ev->R (List U×Ev)}{js:List (Option Nat)}{sg:U->Ev->R Ev}:d_ gi js sg h g ρ=(gi ρ).bind λx=>(Ma (Mb js sg h g x.2) x.1).bind λys=>.ok (.lst ys,x.2):=nr rfl
theorem IQ {G:Gm}{gi:Ev->R (List U×Ev)}{js:List (Option Nat)}{sg:U->Ev->R Ev}:yP G gi js sg h g ρ=(gi ρ).bind λx=>(nC G js sg h g x.1 x.2).bind λy=>.ok (.lst y.1,y.2):=nr rfl
theorem IS {js:List (Option Nat)}{sg:U->Ev->R Ev}:Mb js sg h g ρ u=(sg u (jz js ρ)).bind λρi=>(h ρi).bind λc=>if c.1=true then (g ρi).bind λy=>.ok (some y.1) else .ok none:=nr rfl
theorem ER {G:Gm}{js:List (Option Nat)}{sg:U->Ev->R Ev}:nC G js sg h g [] ρ=.ok ([],ρ):=nr rfl
theorem K5:nC G js sg h g (u::us) ρ=(sg u (jz js ρ)).bind λρi=>(h ρi).bind λc=>if c.1=true then (g c.2).bind λy=>(nC G js sg h g us (wb G js y.2 ρ)).bind λr=>.ok (y.1::r.1,r.2) else nC G js sg h g us (wb G js c.2 ρ):=nr rfl
theorem ES:f_ ρ=.ok (true,ρ):=nr rfl
theorem IT:cb i u ρ=.ok (ρ.set i (some u)):=nr rfl
theorem NF:Po ρ=.ok (.dct [] [],ρ):=nr rfl
theorem vb:eh m n s us=Nn m (s (jR n us)):=nr rfl
theorem AQ:Nn m (.rt u ρ)=.ok u:=nr rfl
theorem ET:yR n s us=pd (s (jR n us)):=nr rfl
theorem AR:pd (.rt u ρ)=io0 u ρ[0]? := nr rfl
theorem IU:io0 u (some (some w))=.ok (u,w):=nr rfl
theorem xk {ρ:Ev}:jz [] ρ=[]:=nr rfl
theorem ue {js:List (Option Nat)}:jz (none::js) ρ=none::jz js ρ:=nr rfl
theorem uf {js:List (Option Nat)}:jz (some j::js) ρ=(ρ[j]?).getD none::jz js ρ:=by
 unfold jz;rw[Z_];congr 1;dsimp only;cases ρ[j]? <;> rfl
end
section
variable {i j k:Int}{ws:List U}{w:U}{lo:Option Int}
theorem EU:fV (.int i) (.int j)=.ok (.int (i+j)):=nr rfl
theorem EV:fV (.tup us) (.tup ws)=if us.length+ws.length<=ZY then .ok (.tup (us++ws)) else .stk:=nr rfl
theorem EW:fV (.lst us) (.lst ws)=if us.length+ws.length<=ZY then .ok (.lst (us++ws)) else .stk:=nr rfl
theorem IV:wZ (.int i) (.int j)=.ok (.int (i-j)):=nr rfl
theorem IW:eo (.int i) (.int j)=if o_ i j=true then .ok (.int (i*j)) else .stk:=nr rfl
theorem EX:og (.int i) (.int j)=if yS i j=true then .ok (.int (i / j)) else .stk:=nr rfl
theorem IX:u4 (.int i) (.int j)=if decide (0<j)=true then .ok (.int (i % j)) else .stk:=nr rfl
theorem IY:GW (.int i) (.int j)=if GV i j=true then .ok (.int (i ^ j.toNat)) else .stk:=nr rfl
theorem IZ:QE (.int i)=.ok (.int (-i)):=nr rfl
theorem NG:M9 (.int i) (.int j)=.ok (.bl (decide (i<j))):=nr rfl
theorem NH:M_ (.int i) (.int j)=.ok (.bl (decide (i<=j))):=nr rfl
theorem NI:GX (.int i) (.int j)=.ok (.bl (decide (j<i))):=nr rfl
theorem NJ:QF (.int i) (.int j)=.ok (.bl (decide (j<=i))):=nr rfl
theorem I0:bW (.lst us) (.int i)=Pw (m_ us i):=by show (match m_ us i with|some z=>R.ok z|none=>.stk)=_;cases m_ us i<;>rfl
theorem I_:bW (.tup us) (.int i)=Pw (m_ us i):=by show (match m_ us i with|some z=>R.ok z|none=>.stk)=_;cases m_ us i<;>rfl
theorem Ja:bW (.scr us) (.int i)=Pw (m_ us i):=by show (match m_ us i with|some z=>R.ok z|none=>.stk)=_;cases m_ us i<;>rfl
theorem Jb:Pw (some u)=.ok u:=nr rfl
theorem Jc:KP (.lst us) lo hi=.ok (.lst (pb us lo hi)):=nr rfl
theorem Jd:KP (.tup us) lo hi=.ok (.tup (pb us lo hi)):=nr rfl
theorem Je:KP (.scr us) lo hi=.ok (.lst (pb us lo hi)):=nr rfl
theorem EY:g6 [.lst us]=.ok (.int us.length):=nr rfl
theorem EZ:g6 [.tup us]=.ok (.int us.length):=nr rfl
theorem E1:g6 [.scr us]=.ok (.int us.length):=nr rfl
theorem E2:gb [.lst us]=.ok (.tup us):=nr rfl
theorem E3:gb [.tup us]=.ok (.tup us):=nr rfl
theorem E4:Ij [.lst us]=.ok (.lst us):=nr rfl
theorem E5:Ij [.tup us]=.ok (.lst us):=nr rfl
theorem Jf {a b:Bool}{f:Bool->Bool}:QG f (.bl a) (.bl b)=.ok (.bl (f (decide (a=b)))):=nr rfl
theorem Jg {f:Bool->Bool}:lL f u .non=.ok (.bl (f (Ao u))):=nr rfl
theorem E6:As [.int i,.int j]=.ok (.int (if j<i then j else i)):=nr rfl
theorem E7:Ar [.int i,.int j]=.ok (.int (if j>i then j else i)):=nr rfl
theorem NK {f:Bool->Bool}:jf f u w=(BN u w).bind λb=>.ok (.bl (f b)):=nr rfl
theorem AS (n:Nat):m_ us (n:Int)=us[n]? := by
 unfold m_ CD;by_cases h:n<us.length
 ·rw[hV (by lia),hV (by lia)];rfl
 ·rw[hV (by lia),hU (by lia)];rw[abo.mpr (by lia)];rfl
theorem Jh:m_ us 0=us[0]? := AS 0
theorem Ji:m_ us 1=us[1]? := AS 1
theorem Jj:m_ us 2=us[2]? := AS 2
theorem NL (h:0<us.length):CD us.length 0=some 0:=by unfold CD;rw[hV (by lia),hV (by lia)];rfl
theorem vc (h0:0<j)(h1:j<18446744073709551616):yS i j=true:=by unfold yS;simp[h0,h1]
theorem vd (h0:0<=i)(h1:i<18446744073709551616):o_ i j=true:=by
 unfold o_;simp only[adM,aae,decide_eq_true_eq];exact .inl ⟨by lia,by lia⟩
theorem K6 (h0:0<=j)(h1:j<18446744073709551616):o_ i j=true:=by
 unfold o_;simp only[adM,aae,decide_eq_true_eq];exact .inr ⟨by lia,by lia⟩
end
end L2
namespace L2
theorem AU {i:Nat}{w u:U}{us:List U}{ρ:Ev}:Px i w (.int 0) ρ (some (some (.lst (u::us))))=.nx (ρ.set i (some (.lst (w::us)))):=by
 rw[NA (j:=0) (NL (by rw[ZT];lia))];rfl
theorem AV {ρ:Ev}:pd (.nx ρ)=io0 .non ρ[0]? := rfl
theorem qQ {G:Gm}{js:List (Option Nat)}{sg:U->Ev->R Ev}{ge:Ev->R (U×Ev)}{σ:Type}(ev:σ->Ev)(N:Nat)(I:List U->σ->Prop)
  (step:∀done u s,done.length<N->I done s->∃ρi y ρi' s',sg u (jz js (ev s))=.ok ρi/\ge ρi=.ok (y,ρi')/\wb G js ρi' (ev s)=ev s'/\I (done++[y]) s') :
  ∀(us done:List U) (s:σ),done.length+us.length<=N->I done s->∃ys s',nC G js sg f_ ge us (ev s)=.ok (ys,ev s')/\ys.length=us.length/\I (done++ys) s'
 | [],done,s,_,h=>⟨[],s,rfl,rfl,by rw[aaF];exact h⟩
 |u::us,done,s,hl,h=>by
  rw[ZT] at hl;obtain⟨ρi,y,ρi',s',e1,e2,e3,h'⟩:=step done u s (by lia) h;obtain⟨ys,LJ,e4,e5,h''⟩:=qQ ev N I step us (done++[y]) s' (by rw[ZZ,acR];lia) h';refine⟨y::ys,LJ,?_,by rw[ZT,ZT,e5],by rw[aao] at h'';exact h''⟩;rw[K5,e1,B9,ES,B9,hV rfl,e2,B9,e3,e4,B9]
theorem ug {s:Ev->SR}(I:Nat->Ev->Prop)(step:∀(i:Nat) (u:U) (ρ:Ev),us[i]? = some u->I i ρ->∃ρ1 ρ2,sg u ρ=.ok ρ1/\(s ρ1=.nx ρ2\/s ρ1=.ct ρ2)/\I (i+1) ρ2)(h:I 0 ρ) :
  ∃ρ',iu sg s us ρ=.nx ρ'/\I us.length ρ':=by
 have gen:∀(n i:Nat) (ρ:Ev),i+n=us.length->I i ρ->∃ρ',iu sg s (us.drop i) ρ=.nx ρ'/\I us.length ρ':=by
  intro n
  induction n with
  |zero=>
   intro i ρ hi h;have:i=us.length:=by lia
   subst this;rw[adm];exact⟨ρ,rfl,h⟩
  |succ n ih=>
   intro i ρ hi h;have yp:i<us.length:=by lia
   obtain⟨ρ1,ρ2,e1,e2,h2⟩:=step i us[i] ρ (ZM yp) h;obtain⟨ρ',e3,h3⟩:=ih (i+1) ρ2 (by lia) h2;refine⟨ρ',?_,h3⟩;rw[aa8 yp,EG,e1,uc];rcases e2 with e2|e2<;>(rw[e2];exact e3)
 have:=gen us.length 0 ρ (by lia) h
 rwa [ad8] at this
theorem B_ (ns:List Int):kY (ns.map .int)=some (ns.map .int):=by
 induction ns with
 |nil=>unfold kY;rfl
 |cons n ns ih=>rw[Z_];unfold kY;rw[ih];unfold qJ;rfl
theorem zo (ns:List Int):jJ (ns.map .int)=0:=by
 induction ns with
 |nil=>unfold jJ;rfl
 |cons n ns ih=>rw[Z_];unfold jJ;rw[ih];unfold eO;rfl
noncomputable def iy (n:Nat):List Int:=(aaA n).map λi=>(i:Nat)
theorem xl (n:Nat):cz 0 n=(iy n).map .int:=by
 unfold cz iy;rw[abC];exact acI λi _=>by show U.int (0+(i:Int))=.int _;rw[Int.zero_add]
theorem qR (n:Nat):(iy n).length=n:=by unfold iy;rw[ZW,abk]
theorem zp {x:Int}:x∈iy n↔0<=x/\x<n:=by
 unfold iy;rw[aaP];constructor
 ·rintro⟨i,h,rfl⟩;have:=aax.mp h;lia
 ·intro h;exact⟨x.toNat,aax.mpr (by lia),by lia⟩
end L2
namespace L2
theorem inb (s:String){T:String}{u:U}{ρ:Ev}{b:Bool}(h:Pn u=s)(h1:¬s="script")(h2:iU s T=b):i_ T u ρ=.ok (.bl b,ρ):=by unfold i_;rw[h,hU h1,h2]
theorem oq {ρ:Ev}:i_ "bool" (.non) ρ=.ok (.bl false,ρ):=inb "NoneType" rfl (by decide) (by decide)
theorem qS {ρ:Ev}:i_ "int" (.non) ρ=.ok (.bl false,ρ):=inb "NoneType" rfl (by decide) (by decide)
theorem qT {ρ:Ev}:i_ "str" (.non) ρ=.ok (.bl false,ρ):=inb "NoneType" rfl (by decide) (by decide)
theorem ou {ρ:Ev}:i_ "list" (.non) ρ=.ok (.bl false,ρ):=inb "NoneType" rfl (by decide) (by decide)
theorem mJ {ρ:Ev}:i_ "tuple" (.non) ρ=.ok (.bl false,ρ):=inb "NoneType" rfl (by decide) (by decide)
theorem ow {ρ:Ev}:i_ "dict" (.non) ρ=.ok (.bl false,ρ):=inb "NoneType" rfl (by decide) (by decide)
theorem qU {b:Bool}{ρ:Ev}:i_ "bool" (.bl b) ρ=.ok (.bl true,ρ):=inb "bool" rfl (by decide) (by decide)
theorem uh {b:Bool}{ρ:Ev}:i_ "int" (.bl b) ρ=.ok (.bl true,ρ):=inb "bool" rfl (by decide) (by decide)
theorem ui {b:Bool}{ρ:Ev}:i_ "str" (.bl b) ρ=.ok (.bl false,ρ):=inb "bool" rfl (by decide) (by decide)
theorem qV {b:Bool}{ρ:Ev}:i_ "list" (.bl b) ρ=.ok (.bl false,ρ):=inb "bool" rfl (by decide) (by decide)
theorem ox {b:Bool}{ρ:Ev}:i_ "tuple" (.bl b) ρ=.ok (.bl false,ρ):=inb "bool" rfl (by decide) (by decide)
theorem qW {b:Bool}{ρ:Ev}:i_ "dict" (.bl b) ρ=.ok (.bl false,ρ):=inb "bool" rfl (by decide) (by decide)
theorem oy {i:Int}{ρ:Ev}:i_ "bool" (.int i) ρ=.ok (.bl false,ρ):=inb "int" rfl (by decide) (by decide)
theorem qX {i:Int}{ρ:Ev}:i_ "int" (.int i) ρ=.ok (.bl true,ρ):=inb "int" rfl (by decide) (by decide)
theorem qY {i:Int}{ρ:Ev}:i_ "str" (.int i) ρ=.ok (.bl false,ρ):=inb "int" rfl (by decide) (by decide)
theorem oz {i:Int}{ρ:Ev}:i_ "list" (.int i) ρ=.ok (.bl false,ρ):=inb "int" rfl (by decide) (by decide)
theorem mK {i:Int}{ρ:Ev}:i_ "tuple" (.int i) ρ=.ok (.bl false,ρ):=inb "int" rfl (by decide) (by decide)
theorem oA {i:Int}{ρ:Ev}:i_ "dict" (.int i) ρ=.ok (.bl false,ρ):=inb "int" rfl (by decide) (by decide)
theorem oB {x:Str}{ρ:Ev}:i_ "bool" (.str x) ρ=.ok (.bl false,ρ):=inb "str" rfl (by decide) (by decide)
theorem qZ {x:Str}{ρ:Ev}:i_ "int" (.str x) ρ=.ok (.bl false,ρ):=inb "str" rfl (by decide) (by decide)
theorem q9 {x:Str}{ρ:Ev}:i_ "str" (.str x) ρ=.ok (.bl true,ρ):=inb "str" rfl (by decide) (by decide)
theorem oC {x:Str}{ρ:Ev}:i_ "list" (.str x) ρ=.ok (.bl false,ρ):=inb "str" rfl (by decide) (by decide)
theorem mL {x:Str}{ρ:Ev}:i_ "tuple" (.str x) ρ=.ok (.bl false,ρ):=inb "str" rfl (by decide) (by decide)
theorem oD {x:Str}{ρ:Ev}:i_ "dict" (.str x) ρ=.ok (.bl false,ρ):=inb "str" rfl (by decide) (by decide)
theorem oE {us:List U}{ρ:Ev}:i_ "bool" (.tup us) ρ=.ok (.bl false,ρ):=inb "tuple" rfl (by decide) (by decide)
theorem q_ {us:List U}{ρ:Ev}:i_ "int" (.tup us) ρ=.ok (.bl false,ρ):=inb "tuple" rfl (by decide) (by decide)
theorem rf {us:List U}{ρ:Ev}:i_ "str" (.tup us) ρ=.ok (.bl false,ρ):=inb "tuple" rfl (by decide) (by decide)
theorem oF {us:List U}{ρ:Ev}:i_ "list" (.tup us) ρ=.ok (.bl false,ρ):=inb "tuple" rfl (by decide) (by decide)
theorem mM {us:List U}{ρ:Ev}:i_ "tuple" (.tup us) ρ=.ok (.bl true,ρ):=inb "tuple" rfl (by decide) (by decide)
theorem oG {us:List U}{ρ:Ev}:i_ "dict" (.tup us) ρ=.ok (.bl false,ρ):=inb "tuple" rfl (by decide) (by decide)
theorem oH {us:List U}{ρ:Ev}:i_ "bool" (.lst us) ρ=.ok (.bl false,ρ):=inb "list" rfl (by decide) (by decide)
theorem rg {us:List U}{ρ:Ev}:i_ "int" (.lst us) ρ=.ok (.bl false,ρ):=inb "list" rfl (by decide) (by decide)
theorem rh {us:List U}{ρ:Ev}:i_ "str" (.lst us) ρ=.ok (.bl false,ρ):=inb "list" rfl (by decide) (by decide)
theorem oI {us:List U}{ρ:Ev}:i_ "list" (.lst us) ρ=.ok (.bl true,ρ):=inb "list" rfl (by decide) (by decide)
theorem mN {us:List U}{ρ:Ev}:i_ "tuple" (.lst us) ρ=.ok (.bl false,ρ):=inb "list" rfl (by decide) (by decide)
theorem oJ {us:List U}{ρ:Ev}:i_ "dict" (.lst us) ρ=.ok (.bl false,ρ):=inb "list" rfl (by decide) (by decide)
theorem oK {ρ:Ev}:i_ "bool" (.dct [] []) ρ=.ok (.bl false,ρ):=inb "dict" rfl (by decide) (by decide)
theorem rj {ρ:Ev}:i_ "int" (.dct [] []) ρ=.ok (.bl false,ρ):=inb "dict" rfl (by decide) (by decide)
theorem rk {ρ:Ev}:i_ "str" (.dct [] []) ρ=.ok (.bl false,ρ):=inb "dict" rfl (by decide) (by decide)
theorem oM {ρ:Ev}:i_ "list" (.dct [] []) ρ=.ok (.bl false,ρ):=inb "dict" rfl (by decide) (by decide)
theorem mO {ρ:Ev}:i_ "tuple" (.dct [] []) ρ=.ok (.bl false,ρ):=inb "dict" rfl (by decide) (by decide)
theorem oN {ρ:Ev}:i_ "dict" (.dct [] []) ρ=.ok (.bl true,ρ):=inb "dict" rfl (by decide) (by decide)
theorem ez:type_of% @Ir/\type_of% @Ek/\type_of% @Wi/\type_of% @B9/\type_of% @Iu/\type_of% @uc/\type_of% @Np/\type_of% @Wj/\type_of% @Iv/\type_of% @El/\type_of% @Iw/\type_of% @Em/\type_of% @Iy/\type_of% @Nq/\type_of% @Iz/\type_of% @Nr/\type_of% @AE/\type_of% @Nt/\type_of% @En/\type_of% @AF/\type_of% @Eo/\type_of% @Ep/\type_of% @Nu/\type_of% @Nv/\type_of% @IC/\type_of% @AG/\type_of% @Nw/\type_of% @ID/\type_of% @IE/\type_of% @Wo/\type_of% @Es/\type_of% @AH/\type_of% @IF/\type_of% @AI/\type_of% @Ny/\type_of% @Et/\type_of% @Eu/\type_of% @AJ/\type_of% @Ew/\type_of% @ud/\type_of% @nJ/\type_of% @Ex/\type_of% @Ey/\type_of% @Ez/\type_of% @EA/\type_of% @IG/\type_of% @EB/\type_of% @IH/\type_of% @II/\type_of% @EC/\type_of% @IJ/\type_of% @IK/\type_of% @ED/\type_of% @EE/\type_of% @IL/\type_of% @EF/\type_of% @IM/\type_of% @AK/\type_of% @AL/\type_of% @AM/\type_of% @AN/\type_of% @AO/\type_of% @EH/\type_of% @EI/\type_of% @EJ/\type_of% @EK/\type_of% @EL/\type_of% @EN/\type_of% @EO/\type_of% @IP/\type_of% @IQ/\type_of% @IS/\type_of% @ER/\type_of% @ES/\type_of% @IT/\type_of% @NF/\type_of% @vb/\type_of% @AQ/\type_of% @ET/\type_of% @AR/\type_of% @IU/\type_of% @xk/\type_of% @ue/\type_of% @uf/\type_of% @EU/\type_of% @EV/\type_of% @EW/\type_of% @IV/\type_of% @IW/\type_of% @EX/\type_of% @IX/\type_of% @IY/\type_of% @IZ/\type_of% @NG/\type_of% @NH/\type_of% @NI/\type_of% @NJ/\type_of% @I0/\type_of% @I_/\type_of% @Ja/\type_of% @Jb/\type_of% @Jc/\type_of% @Jd/\type_of% @Je/\type_of% @EY/\type_of% @EZ/\type_of% @E1/\type_of% @E2/\type_of% @E3/\type_of% @E4/\type_of% @E5/\type_of% @Jf/\type_of% @Jg/\type_of% @E6/\type_of% @E7/\type_of% @NK/\type_of% @Jh/\type_of% @Ji/\type_of% @Jj/\type_of% @IA/\type_of% @oq/\type_of% @qS/\type_of% @qT/\type_of% @ou/\type_of% @mJ/\type_of% @ow/\type_of% @qU/\type_of% @uh/\type_of% @ui/\type_of% @qV/\type_of% @ox/\type_of% @qW/\type_of% @oy/\type_of% @qX/\type_of% @qY/\type_of% @oz/\type_of% @mK/\type_of% @oA/\type_of% @oB/\type_of% @qZ/\type_of% @q9/\type_of% @oC/\type_of% @mL/\type_of% @oD/\type_of% @oE/\type_of% @q_/\type_of% @rf/\type_of% @oF/\type_of% @mM/\type_of% @oG/\type_of% @oH/\type_of% @rg/\type_of% @rh/\type_of% @oI/\type_of% @mN/\type_of% @oJ/\type_of% @oK/\type_of% @rj/\type_of% @rk/\type_of% @oM/\type_of% @mO/\type_of% @oN/\type_of% @AU/\type_of% @AV:=
 ⟨@Ir,@Ek,@Wi,@B9,@Iu,@uc,@Np,@Wj,@Iv,@El,@Iw,@Em,@Iy,@Nq,@Iz,@Nr,@AE,@Nt,@En,@AF,@Eo,@Ep,@Nu,@Nv,@IC,@AG,@Nw,@ID,@IE,@Wo,@Es,@AH,@IF,@AI,@Ny,@Et,@Eu,@AJ,@Ew,@ud,@nJ,@Ex,@Ey,@Ez,@EA,@IG,@EB,@IH,@II,@EC,@IJ,@IK,@ED,@EE,@IL,@EF,@IM,@AK,@AL,@AM,@AN,@AO,@EH,@EI,@EJ,@EK,@EL,@EN,@EO,@IP,@IQ,@IS,@ER,@ES,@IT,@NF,@vb,@AQ,@ET,@AR,@IU,@xk,@ue,@uf,@EU,@EV,@EW,@IV,@IW,@EX,@IX,@IY,@IZ,@NG,@NH,@NI,@NJ,@I0,@I_,@Ja,@Jb,@Jc,@Jd,@Je,@EY,@EZ,@E1,@E2,@E3,@E4,@E5,@Jf,@Jg,@E6,@E7,@NK,@Jh,@Ji,@Jj,@IA,@oq,@qS,@qT,@ou,@mJ,@ow,@qU,@uh,@ui,@qV,@ox,@qW,@oy,@qX,@qY,@oz,@mK,@oA,@oB,@qZ,@q9,@oC,@mL,@oD,@oE,@q_,@rf,@oF,@mM,@oG,@oH,@rg,@rh,@oI,@mN,@oJ,@oK,@rj,@rk,@oM,@mO,@oN,@AU,@AV⟩
end L2
namespace Hc.Dw
def nK (h:acj)(a:Z5)(ds:Array DictEntry)(ep:Nat):Prop:=∃o,h.get? a=some o/\o.ExactDict/\o.data=.dict ds ep
theorem nK.ty (x:nK s.heap a ds ep):s.TypeIs (.ref a) "dict":=by
 obtain⟨o,e,c,_⟩:=x;exact⟨o,e,c.1⟩
theorem nK.at (x:nK h a ds ep)(e:∀o,h.get? a=some o->h'.get? a=some o):nK h' a ds ep:=by
 obtain⟨o,q,r⟩:=x;exact⟨o,e o q,r⟩
theorem nK.lt (x:nK h a ds ep):a<h.objs.size:=by obtain⟨o,e,_⟩:=x;exact Z9 e
section
variable {A:aaD}{d vw:Z5}
theorem NM (lo:(d==abZ)=false)(x:nK s.heap d ds ep)(q:Q (.ref s.heap.objs.size) {s with heap:=s.heap.push {cls:=.type "dict_keyiterator",data:=.fields #[.ref d,.int 0 0,.int ds.size 0,.int ep 0]}}):aac (aar prog w) A (pyIter (.ref d)) Q E s:=by
 have ty:=x.ty;obtain⟨od,e1,e2,e3⟩:=x;refine afb ty F.slot_dict_iter (aaH F.slot_dict_iter ty F.entry_dict_iter ?_ (F.args_dict_iter_1 _));unfold Builtin.«dict.__iter__»;refine ZL ?_;unfold Builtin.Dict.dictSlotNone;refine ZL (wpAny_notOrdered_dict ty ?_);change aac _ _ (pure (Value.ref d)) _ _ s;refine ZN ?_;change aac _ _ (Builtin.Dict.showsAll d >>= _) _ _ s;unfold Builtin.Dict.showsAll;rw[hU (by rw[lo];exact ZV)];refine ZL (ZN (ZL (ad2 e1 e3 (ZL (wpAny_dictEpoch e1 e3 ?_)))));refine ZL (aaG (ZN ⟨_,rfl,"dict_keyiterator",_,⟨_,Z3 _ rfl,rfl⟩,F.slot_dict_keyiterator_next.lookup,?_⟩));simpa [aeH] using q
theorem NN {Q:Option ZO->Z8->Prop}(t:s.heap.IsKeyIter it d i ds.size ep)(x:nK s.heap d ds ep)(hi:i<ds.size)
  (q:∀h',h'.IsKeyIter it d (i+1) ds.size ep->abM it s.heap h'->Q (some ds[i].key) {s with heap:=h'}):aac (aar prog w) A (aef (.ref it)) Q E s:=by
 have ty:=t.typeIs;obtain⟨oi,i1,i2,i3⟩:=t;obtain⟨od,e1,e2,e3⟩:=x;unfold aef;refine ZL (acH (aaK (name:=abN "__next__") ty abX (aaH abX ty aee ?_ (aea _))));refine ZL (ZN (ZL (ZL ?_)))
 first|refine ZL (abS ty (ZN ?_))|refine ZL (acC ty (ZN ?_))
 refine ZL (aeZ i1 i3 ?_);simp only[show aem "dict_keyiterator"=false by decide,aau,if_false];change aac _ _ (if (Value.ref d==Value.none)=true then _ else _) _ _ s;rw[hU (show ¬((Value.ref d==Value.none)=true) from ZV)];refine ZL (ZN (ZL (ad2 e1 e3 ?_)));rw[hU (by simp)];refine ZL (ZN (ZL (wpAny_dictEpoch e1 e3 ?_)));rw[hU (by simp)];refine ZN ?_;simp only[show ¬((i:Int)<0) from by lia,if_false,abl,aap hi];refine ZL ?_
 first|refine ZL (abS ty (ZN ?_))|refine ZL (acC ty (ZN ?_))
 refine ZL (wpAny_isOneOf_keyiter ty ?_);change aac _ _ (setField (.ref it) 1 (aeH ((i:Int)+1)) >>= _) _ _ s;refine ZL (acL i1 i3 (by simp) ?_);have t':(s.heap.update it (Obj.mapFields (·.setIfInBounds 1 (aeH ((i:Int)+1))))).IsKeyIter it d (i+1) ds.size ep:=
  ⟨_,abv _ i1 (acY (aby i3 _)),(ad1 ..).trans i2,by rw[aby i3];simp[aeH]⟩
 refine ZL (abi (ZL ?_));refine wpAny_isOneOf_keyiter (s:={s with heap:=s.heap.update it (Obj.mapFields (·.setIfInBounds 1 (aeH ((i:Int)+1))))}) t'.typeIs ?_;change aac _ _ (pure ds[i].key) _ _ _;exact ZN (ZN ⟨_,rfl,ZN (q _ t' (aa2 ..))⟩)
theorem NO {Q:Option ZO->Z8->Prop}(hh:A.handled=none)(t:s.heap.IsKeyIter it d i ds.size ep)(x:nK s.heap d ds ep)(hi:ds.size<=i)
  (q:∀h',Heap.ExtBut it s.heap h'->Q none {s with heap:=h'}):aac (aar prog w) A (aef (.ref it)) Q E s:=by
 have ty:=t.typeIs;obtain⟨oi,i1,i2,i3⟩:=t;obtain⟨od,e1,e2,e3⟩:=x;unfold aef;refine ZL (acH (aaK (name:=abN "__next__") ty abX (aaH abX ty aee ?_ (aea _))));refine ZL (ZN (ZL (ZL ?_)))
 first|refine ZL (abS ty (ZN ?_))|refine ZL (acC ty (ZN ?_))
 refine ZL (aeZ i1 i3 ?_);simp only[show aem "dict_keyiterator"=false by decide,aau,if_false];change aac _ _ (if (Value.ref d==Value.none)=true then _ else _) _ _ s;rw[hU (show ¬((Value.ref d==Value.none)=true) from ZV)];refine ZL (ZN (ZL (ad2 e1 e3 ?_)));rw[hU (by simp)];refine ZL (ZN (ZL (wpAny_dictEpoch e1 e3 ?_)));rw[hU (by simp)];refine ZN ?_;simp only[show ¬((i:Int)<0) from by lia,if_false,abl,adT hi];refine ZL ?_
 first|refine ZL (abS ty (ZN ?_))|refine ZL (acC ty (ZN ?_))
 change aac _ _ (setField (.ref it) 0 .none >>= _) _ _ s;refine ZL (acL i1 i3 (by simp) ?_);change aac _ _ (newExc (.type "StopIteration") [] >>= _) _ _ _;refine ZL ?_;simp only[newExc,newTuple];refine ZL (aaG (hd:=by size_fits) ?_);refine ZL (m:=adg _ _) (ad0 (a:=Value.none) (by first|rfl|(simp only[adg];rfl)) (aaG (hd:=by size_fits) ?_));simp only[raiseNew];refine ZL (wpAny_handled ?_);rw[show A.in1.handled=none from hh];refine ZL (ZN (wpAny_throw ?_));refine ZL (adl (b:=true) (T:="StopIteration") ⟨_,Z3 _ rfl,rfl⟩ isSubtype_stop ?_);exact ZN (q _ (((aa2 ..).extBut.push _).push _))
end
end Hc.Dw
namespace L2
open Hc.Dw
theorem rm {α β:Type}{R:α->β->Prop}:∀{xs:List α} {ys:List β} {i:Nat} {y:β},aeF R xs ys->ys[i]? = some y->∃x,xs[i]? = some x/\R x y
 |_,_,_,_,.nil,h=>by simp at h
 |x::xs,y'::ys,0,y,.cons r t,h=>by simp at h;subst h;exact⟨x,by simp,r⟩
 |x::xs,y'::ys,i+1,y,.cons r t,h=>by
  obtain⟨x',m,q⟩:=rm t (i:=i) (by simpa using h);exact⟨x',by simpa using m,q⟩
theorem aJ.rawD (I:aJ X pins σ H s)(q:H a=some (DN a ep es)):(a==abZ)=false/\∃ds,nK s.heap a ds ep/\ds.size=es.length/\∀(i:Nat) (hi:i<ds.size),∃e,es[i]? = some e/\ds[i].key=.ref e.2.1/\bx e.2.2 ds[i].val:=by
 obtain⟨⟨l,o,ds,xs,h1,h2,h3,h4,h5⟩,_⟩:=I.hok a _ q;have n1:ds.size=es.length:=by rw[←ZR,h5,ZW,Paired.length h4]
 refine⟨l,ds,⟨o,h1,h2,h3⟩,n1,λi hi=>?_⟩;have e1:ds.toList[i]? = some ds[i]:=by rw[aaa];exact getElem?_pos ds i hi
 rw[h5,aay] at e1;cases e2:xs[i]? with
 |none=>rw[e2] at e1;cases e1
 |some x=>
  rw[e2] at e1;have e3:MW x=ds[i]:=by injection e1
  obtain⟨e,m,r⟩:=rm h4 e2;refine⟨e,m,?_,?_⟩
  ·rw[←e3,r.2.1];rfl
  ·rw[←e3];exact r.2.2
structure M0 (X:Cx)(o:abE)(m:Str)(gI cpos:Pos):Prop where
 base:adG o m X.env (ade o X.env)=ade o X.env
 few:((acq cpos (aaf [] X.env)).all (λx=> !x.1)&&(backToKw cpos (aet [] X.env)).all (λx=>x.1.isSome)
  && decide (([]:List abE).length+([]:List aeb).length+(if ([]:List aeb).isEmpty then 0 else 1)<30))=true
 line:(gI.endLine==cpos.line)=true
 trees:acq cpos (aaf [] X.env)=[]
end L2
namespace L2
open Hc.Dw
mutual
theorem NP {K:ZQ}{H:Hp}{A:Z5->Prop}:∀{u:U} {v:V},KH H u v->Rp K H A u v
 | .int i,v,h=>by unfold KH at h;unfold Rp;exact h
 | .tup us,v,h=>by
  unfold KH at h;unfold Rp;obtain⟨b,ys,e,q,l,z⟩:=h;exact⟨b,ys,e,q,l,zq z⟩
 | .non,v,h=>by unfold KH at h;exact h.elim
 | .bl _,v,h=>by unfold KH at h;exact h.elim
 | .str _,v,h=>by unfold KH at h;exact h.elim
 | .lst _,v,h=>by unfold KH at h;exact h.elim
 | .dct _ _,v,h=>by unfold KH at h;exact h.elim
 | .scr _,v,h=>by unfold KH at h;exact h.elim
theorem zq {K:ZQ}{H:Hp}{A:Z5->Prop}:∀{us:List U} {vs:List V},qt H us vs->aK K H A us vs
 | [],vs,h=>by unfold qt at h;unfold aK;exact h
 |u::us,vs,h=>by
  unfold qt at h;unfold aK;obtain⟨x,r,q,p,z⟩:=h;exact⟨x,r,q,NP p,zq z⟩
end
theorem Jk (h:yH H us b):Rp K H A (.tup us) (.ref b):=by
 obtain⟨_,ys,q,l,z⟩:=h;unfold Rp;exact⟨b,ys,rfl,q,l,zq z⟩
noncomputable def QJ:U->Bool
 | .tup _=>true
 |_=>false
noncomputable def NQ (ks:List U):Bool:= !ks.isEmpty&&ks.all QJ
theorem E8 (w:NQ ks=true)(d:BI H a ks xs):∃es ep,H a=some (DN a ep es)/\(∀e∈es,yH H e.1 e.2.1)/\ks=es.map (λp=>.tup p.1)/\xs=es.map (·.2.2):=by
 unfold NQ at w;rw[aae] at w;rcases d with⟨cF,h,rfl,rfl⟩|⟨es,n,h,e1,e2⟩
 ·exfalso;cases cF with
  |nil=>exact absurd w.1 (by simp)
  |cons p r=>
   have:=w.2;rw[Z_,adJ,aae] at this;obtain⟨p1,p2⟩:=p;cases p1<;>cases this.1
 ·obtain⟨ep,q⟩:=h.ne n;exact⟨es,ep,q,h.key,e1,e2⟩
end L2
namespace L2
noncomputable def Gm.un (G:Gm)(i:Nat):Gm:=⟨G.own.set i false,G.io,G.W⟩
theorem jC:(G.un i).is i=false:=by
 unfold Gm.un Gm.is;dsimp only;rw[ada,List.getElem?_set];split
 ·split<;>rfl
 ·rename_i h;exact absurd rfl h
theorem j5 (h:i≠j):(G.un i).is j=G.is j:=by
 unfold Gm.un Gm.is;dsimp only;rw[ada,ada,aav h]
section
variable {A':Z5->Prop}{ρ':Ev}
theorem cH.un (r:cH K G Z A ρ σ H)(hi:G.io=true->i≠0):∃A',cH K (G.un i) Z A' ρ σ H:=by
 have io0:∀h:(G.un i).io=true,σ[0]? = some (some (.ref Z.a0))/\(G.un i).is 0=true:=λh=>by
  obtain⟨a,b⟩:=r.io0 h;exact⟨a,by rw[j5 (hi h)];exact b⟩
 by_cases c:G.is i=true/\∃u,ρ[i]? = some (some u)
 ·obtain⟨c,u,hu⟩:=c;obtain⟨a,h1,h2,h3,h4,h5⟩:=r.own c hu;have na:¬Z.A0 a:=by
   rcases h4 with h4|⟨h4,h6⟩
   ·exact h4
   ·exact absurd h6 (hi h4)
  have sub:∀b,(A b/\b≠a)->A b:=λb z=>z.1;refine⟨λb=>A b/\b≠a,?_⟩;exact {
   slot:=λj w hj=>by
    obtain⟨v,s1,s2⟩:=r.slot j w hj;refine⟨v,s1,?_⟩;by_cases e:i=j
    ·subst e;rw[hu] at hj;cases hj;rw[h1] at s1;cases s1;rw[hU (by rw[jC];exact ZV)];exact h5.rp sub λz=>z.2 rfl
    ·rw[j5 e];by_cases cj:G.is j=true
     ·rw[hV cj] at s2 ⊢;obtain⟨b,e1,e2,e3,e4,e5⟩:=s2;refine⟨b,e1,⟨e2,λz=>?_⟩,e3,e4,e5.mono sub⟩;subst z e1;exact r.dis i j u w b c cj e hu hj h1 s1
     ·rw[hU cj] at s2 ⊢;exact s2.mono sub
   dis:=λj k w w' b cj ck ne hj hk sj sk=>by
    have e1:i≠j:=λz=>by subst z;rw[jC] at cj;cases cj
    have e2:i≠k:=λz=>by subst z;rw[jC] at ck;cases ck
    rw[j5 e1] at cj;rw[j5 e2] at ck;exact r.dis j k w w' b cj ck ne hj hk sj sk
   mu:=λb z=>r.mu b z.1
   sup:=λb z=>⟨r.sup b z,λe=>na (e▸z)⟩
   out:=λb z=>r.out b z.1
   bas:=r.bas
   io0:=io0
   len:=r.len}
 ·refine⟨A,?_⟩;exact {
   slot:=λj w hj=>by
    obtain⟨v,s1,s2⟩:=r.slot j w hj;refine⟨v,s1,?_⟩;by_cases e:i=j
    ·subst e;rw[hU (by rw[jC];exact ZV)];rw[hU (λz=>c ⟨z,w,hj⟩)] at s2;exact s2
    ·rw[j5 e];exact s2
   dis:=λj k w w' b cj ck ne hj hk sj sk=>by
    have e1:i≠j:=λz=>by subst z;rw[jC] at cj;cases cj
    have e2:i≠k:=λz=>by subst z;rw[jC] at ck;cases ck
    rw[j5 e1] at cj;rw[j5 e2] at ck;exact r.dis j k w w' b cj ck ne hj hk sj sk
   mu:=r.mu
   sup:=r.sup
   out:=r.out
   bas:=r.bas
   io0:=io0
   len:=r.len}
theorem cH.reun (r:cH K (G.un i) Z A ρ σ H):cH K G Z A (ρ.set i none) σ H where
 slot:=λj w hj=>by
  rcases cY hj with⟨rfl,e⟩|⟨ne,e⟩
  ·cases e
  ·obtain⟨v,s1,s2⟩:=r.slot j w e;rw[j5 ne] at s2;exact⟨v,s1,s2⟩
 dis:=λj k w w' a cj ck ne hj hk sj sk=>by
  rcases cY hj with⟨rfl,e⟩|⟨n1,e1⟩
  ·cases e
  ·rcases cY hk with⟨rfl,e⟩|⟨n2,e2⟩
   ·cases e
   ·exact r.dis j k w w' a (by rw[j5 n1];exact cj) (by rw[j5 n2];exact ck) ne e1 e2 sj sk
 mu:=r.mu
 sup:=r.sup
 out:=r.out
 bas:=r.bas
 io0:=λh=>by
  obtain⟨a,b⟩:=r.io0 h;refine⟨a,?_⟩;by_cases e:i=0
  ·subst e;rw[jC] at b;cases b
  ·rw[j5 e] at b;exact b
 len:=by rw[aa5];exact r.len
end
noncomputable def pf (i:Nat)(g:Ev->SR):Ev->SR:=λρ=>match g ρ with
 | .nx ρ'=>.nx (ρ'.set i none)
 | .bk ρ'=>.bk (ρ'.set i none)
 | .ct ρ'=>.ct (ρ'.set i none)
 | .rt u ρ'=>.rt u (ρ'.set i none)
 |r=>r
section
variable {e:abE}{OG:List ad9}{m m1:Md}{g:Ev->SR}{g1:Ev->R (U×Ev)}{h1:Ev->R (Bool×Ev)}
theorem E9 (hi:G.io=true->i≠0){D:lF}(h:L_ X.K G m (pf i g) D σ H):L_ X.K (G.un i) m g D σ H:=by
 obtain⟨Z,A,ρ,q,f⟩:=h;obtain⟨A',q'⟩:=q.un hi;refine⟨Z,A',ρ,q',?_⟩;unfold pf at f;cases e:g ρ with
 |nx=>rw[e] at f;exact λA2 σ2 H2 q2=>f A2 σ2 H2 q2.reun
 |bk=>rw[e] at f;exact λA2 σ2 H2 q2=>f A2 σ2 H2 q2.reun
 |ct=>rw[e] at f;exact λA2 σ2 H2 q2=>f A2 σ2 H2 q2.reun
 |rt=>rw[e] at f;exact λA2 σ2 H2 v q2 vm=>f A2 σ2 H2 v q2.reun vm
 |exc=>rw[e] at f;exact f
 |stk=>rw[e] at f;exact f.elim
theorem pS (i:Nat)(h:yN X (G.un i) m OG g)(hi:G.io=true->i≠0:=by decide):yN X G m OG (pf i g):=⟨h.un.to λ_ _ _ z=>E9 hi z⟩
end
end L2
namespace Hc.Ts
noncomputable def gx:Bool->aam->Array aam->Nat->Nat->Nat->StateT aal Sem (Option Nat):=sortPriv% PySem.Builtin.gallop
noncomputable def g7 (left:Bool)(key:aam)(arr:Array aam)(base i:Nat):StateT aal Sem (Option Bool):=do
 let x ←ae0 arr (base+i)
 if left then lt' x key else return (←lt' key x).map (!·)
theorem zt (left:Bool)(key:aam)(arr:Array aam)(base n hint:Nat):gx left key arr base n hint=(do
 let mut lastofs:=0
 let mut ofs:=1
 let mut lo:=0
 let mut hi:=0
 let some right ←g7 left key arr base hint|return none
 if right then
  let maxofs:=n-hint
  for _ in [0:n] do
   if ofs≥maxofs then break
   let some more ←g7 left key arr base (hint+ofs)|return none
   if !more then break
   lastofs:=ofs
   ofs:=2*ofs+1
  lo:=hint+lastofs+1
  hi:=hint+min ofs maxofs
 else
  let maxofs:=hint+1
  for _ in [0:n] do
   if ofs≥maxofs then break
   let some found ←g7 left key arr base (hint-ofs)|return none
   if found then break
   lastofs:=ofs
   ofs:=2*ofs+1
  lo:=hint+1-min ofs maxofs
  hi:=hint-lastofs
 for _ in [0:n] do
  if lo≥hi then break
  let m:=lo+(hi-lo) / 2
  let some more ←g7 left key arr base m|return none
  if more then lo:=m+1 else hi:=m
 return some hi):=rfl
section
variable {A:aaD}
noncomputable def Hb (left:Bool)(key:aam)(arr:Array aam)(base n X2 RQ:Nat):StateT aal Sem (Option Nat):=do
 let mut lo:=X2
 let mut hi:=RQ
 for _ in [0:n] do
  if lo≥hi then break
  let m:=lo+(hi-lo) / 2
  let some more ←g7 left key arr base m|return none
  if more then lo:=m+1 else hi:=m
 return some hi
theorem AW {left:Bool}{key:aam}{lo hi:Nat}{st:aal}{Q:Option Nat->aal->Prop}(b:Nat->Bool)(hb:∀i,i<n->∀Q:Option Bool->aal->Prop,Q (some (b i)) st->wpS M A E s (g7 left key arr base i) Q st)(mono:∀i j,i<=j->j<n->b j=true->b i=true)(h1:lo<=hi)(h2:hi<=n)(hl:∀i,i<lo->b i=true)(hr:∀i,hi<=i->i<n->b i=false)(h:∀k,k<=n->(∀i,i<k->b i=true)->(∀i,k<=i->i<n->b i=false)->Q (some k) st):wpS M A E s (Hb left key arr base n lo hi) Q st:=by
 unfold Hb;refine Z7 (aci (abe (I:=λx c aN=>aN=st/\∃l r,c=(none,l,r)/\l<=r/\r<=n/\r-l<=n-x/\(∀i,i<l->b i=true)/\∀i,r<=i->i<n->b i=false)
  (Q:=λc aN=>aN=st/\∃k,c=(none,k,k)/\k<=n/\(∀i,i<k->b i=true)/\∀i,k<=i->i<n->b i=false) ?step ?fin ⟨rfl,lo,hi,rfl,h1,h2,by lia,hl,hr⟩) ?post)
 case fin=>
  rintro c aN ⟨rfl,l,r,rfl,a1,a2,a3,a4,a5⟩;have:l=r:=by lia
  subst this;exact⟨rfl,l,rfl,a2,a4,a5⟩
 case step=>
  rintro x c aN _ hx ⟨rfl,l,r,rfl,a1,a2,a3,a4,a5⟩;dsimp only;by_cases c:l≥r
  ·rw[hV c];have:l=r:=by lia
   subst this;exact aad ⟨rfl,l,rfl,a2,a4,a5⟩
  ·rw[hU c];refine Z7 (hb _ (by lia) _ ?_);dsimp only;cases e:b (l+(r-l) / 2) with
   |true=>
    rw[hV rfl];exact aad ⟨rfl,_,r,rfl,by lia,a2,by lia,λi hi=>mono i _ (by lia) (by lia) e,a5⟩
   |false=>
    rw[hU ZV];refine aad ⟨rfl,l,_,rfl,by lia,by lia,by lia,a4,λi h1 h2=>?_⟩;cases e2:b i with
    |false=>rfl
    |true=>rw[mono _ i h1 h2 e2] at e;cases e
 case post=>
  rintro c aN ⟨rfl,k,rfl,a1,a2,a3⟩;exact aad (h k a1 a2 a3)
theorem uj {left:Bool}{key:aam}{hint:Nat}{st:aal}{Q:Option Nat->aal->Prop}(b:Nat->Bool)(hb:∀i,i<n->∀Q:Option Bool->aal->Prop,Q (some (b i)) st->wpS M A E s (g7 left key arr base i) Q st)(mono:∀i j,i<=j->j<n->b j=true->b i=true)(hh:hint<n)(h:∀k,k<=n->(∀i,i<k->b i=true)->(∀i,k<=i->i<n->b i=false)->Q (some k) st):wpS M A E s (gx left key arr base n hint) Q st:=by
 have WY:∀i j,i<=j->j<n->b i=false->b j=false:=λi j h1 h2 e=>by
  cases e2:b j with
  |false=>rfl
  |true=>rw[mono i j h1 h2 e2] at e;cases e
 rw[zt];refine Z7 (hb hint hh _ ?_);dsimp only;cases e0:b hint with
 |true=>
  rw[hV rfl];refine Z7 (aci (abe (I:=λx c aN=>aN=st/\∃l o,c=(none,l,o)/\l<o/\x+1<=o/\hint+l<n/\b (hint+l)=true)
   (Q:=λc aN=>aN=st/\∃l o,c=(none,l,o)/\l<o/\hint+l<n/\b (hint+l)=true/\(o≥n-hint\/b (hint+o)=false)) ?step ?fin ⟨rfl,0,1,rfl,by lia,by lia,hh,e0⟩) ?post)
  case fin=>
   rintro c aN ⟨rfl,l,o,rfl,a1,a2,a3,a4⟩;exact⟨rfl,l,o,rfl,a1,a3,a4,.inl (by lia)⟩
  case step=>
   rintro x c aN _ hx ⟨rfl,l,o,rfl,a1,a2,a3,a4⟩;dsimp only;by_cases c:o≥n-hint
   ·rw[hV c];exact aad ⟨rfl,l,o,rfl,a1,a3,a4,.inl c⟩
   ·rw[hU c];refine Z7 (hb _ (by lia) _ ?_);dsimp only;cases e:b (hint+o) with
    |true=>
     rw[hU (by decide)];exact aad ⟨rfl,o,_,rfl,by lia,by lia,by lia,e⟩
    |false=>
     rw[hV (by decide)];exact aad ⟨rfl,l,o,rfl,a1,a3,a4,.inr e⟩
  case post=>
   rintro c aN ⟨rfl,l,o,rfl,a1,a3,a4,a5⟩;show wpS _ _ _ _ (Hb left key arr base n (hint+l+1) (hint+min o (n-hint))) _ _;refine AW b hb mono (by lia) (by lia) (λi hi=>mono i _ (by lia) a3 a4) (λi h1 h2=>?_) h;rcases a5 with a5|a5
   ·lia
   ·by_cases c:o<=n-hint
    ·rw[acZ c] at h1;exact WY _ i h1 h2 a5
    ·lia
 |false=>
  rw[hU ZV];refine Z7 (aci (abe (I:=λx c aN=>aN=st/\∃l o,c=(none,l,o)/\l<o/\x+1<=o/\l<=hint/\b (hint-l)=false)
   (Q:=λc aN=>aN=st/\∃l o,c=(none,l,o)/\l<o/\l<=hint/\b (hint-l)=false/\(o≥hint+1\/b (hint-o)=true)) ?step ?fin ⟨rfl,0,1,rfl,by lia,by lia,by lia,e0⟩) ?post)
  case fin=>
   rintro c aN ⟨rfl,l,o,rfl,a1,a2,a3,a4⟩;exact⟨rfl,l,o,rfl,a1,a3,a4,.inl (by lia)⟩
  case step=>
   rintro x c aN _ hx ⟨rfl,l,o,rfl,a1,a2,a3,a4⟩;dsimp only;by_cases c:o≥hint+1
   ·rw[hV c];exact aad ⟨rfl,l,o,rfl,a1,a3,a4,.inl c⟩
   ·rw[hU c];refine Z7 (hb _ (by lia) _ ?_);dsimp only;cases e:b (hint-o) with
    |true=>
     rw[hV rfl];exact aad ⟨rfl,l,o,rfl,a1,a3,a4,.inr e⟩
    |false=>
     rw[hU ZV];exact aad ⟨rfl,o,_,rfl,by lia,by lia,by lia,e⟩
  case post=>
   rintro c aN ⟨rfl,l,o,rfl,a1,a3,a4,a5⟩;show wpS _ _ _ _ (Hb left key arr base n (hint+1-min o (hint+1)) (hint-l)) _ _;refine AW b hb mono (by lia) (by lia) (λi hi=>?_) (λi h1 h2=>WY _ i h1 h2 a4) h;rcases a5 with a5|a5
   ·lia
   ·by_cases c:o<=hint+1
    ·rw[acZ c] at hi;exact mono i _ (by lia) (by lia) a5
    ·lia
end
end Hc.Ts
namespace Hc.Ts
section
variable {O:afd}(key:aam->O.α)
def iQ (l:List aam):Prop:=l.Pairwise λx y=>O.kle (key x) (key y)
structure MI (T o ra rb:List aam):Prop where
 perm:(o++(ra++rb)).Perm T
 so:iQ key o
 sa:iQ key ra
 sb:iQ key rb
 oa:∀x∈o,∀y∈ra,O.kle (key x) (key y)
 ob:∀x∈o,∀y∈rb,O.kle (key x) (key y)
structure MH (T ra rb o:List aam):Prop where
 perm:((ra++rb)++o).Perm T
 so:iQ key o
 sa:iQ key ra
 sb:iQ key rb
 oa:∀x∈ra,∀y∈o,O.kle (key x) (key y)
 ob:∀x∈rb,∀y∈o,O.kle (key x) (key y)
variable {key}
theorem bE {r:List aam}:iQ key (l++r)↔iQ key l/\iQ key r/\∀x∈l,∀y∈r,O.kle (key x) (key y):=List.pairwise_append
theorem MI.stepA {x:List aam}(h:MI key T o (x++ra) rb)(hx:∀a∈x,∀b∈rb,O.kle (key a) (key b)):MI key T (o++x) ra rb:=by
 obtain⟨s1,s2,s3⟩:=bE.mp h.sa;refine⟨?_,bE.mpr ⟨h.so,s1,λa ha b hb=>h.oa a ha b (aat _ hb)⟩,s2,h.sb,λa ha b hb=>?_,λa ha b hb=>?_⟩
 ·have e:o++x++(ra++rb)=o++(x++ra++rb):=by simp[aao]
  rw[e];exact h.perm
 ·rcases aai.mp ha with ha|ha
  ·exact h.oa a ha b (Z6 _ hb)
  ·exact s3 a ha b hb
 ·rcases aai.mp ha with ha|ha
  ·exact h.ob a ha b hb
  ·exact hx a ha b hb
theorem MI.stepB {y:List aam}(h:MI key T o ra (y++rb))(hy:∀b∈y,∀a∈ra,O.kle (key b) (key a)):MI key T (o++y) ra rb:=by
 obtain⟨s1,s2,s3⟩:=bE.mp h.sb;refine⟨?_,bE.mpr ⟨h.so,s1,λa ha b hb=>h.ob a ha b (aat _ hb)⟩,h.sa,s2,λa ha b hb=>?_,λa ha b hb=>?_⟩
 ·refine List.Perm.trans ?_ h.perm;have e:o++y++(ra++rb)=o++((y++ra)++rb):=by simp[aao]
  have e2:o++(ra++(y++rb))=o++((ra++y)++rb):=by simp[aao]
  rw[e,e2];exact abc o (abF rb ac0)
 ·rcases aai.mp ha with ha|ha
  ·exact h.oa a ha b hb
  ·exact hy a ha b hb
 ·rcases aai.mp ha with ha|ha
  ·exact h.ob a ha b (Z6 _ hb)
  ·exact s3 a ha b hb
theorem MI.endA (h:MI key T o ra []):(o++ra).Perm T/\iQ key (o++ra):=by
 refine⟨?_,bE.mpr ⟨h.so,h.sa,h.oa⟩⟩;have:=h.perm;rw[aaF] at this;exact this
theorem MI.endB (h:MI key T o [] rb):(o++rb).Perm T/\iQ key (o++rb):=⟨h.perm,bE.mpr ⟨h.so,h.sb,h.ob⟩⟩
theorem MI.last (h:MI key T o ra rb)(hl:∀b∈rb,∀a∈ra,O.kle (key b) (key a)):(o++(rb++ra)).Perm T/\iQ key (o++(rb++ra)):=
 ⟨(abc o ac0).trans h.perm,bE.mpr ⟨h.so,bE.mpr ⟨h.sb,h.sa,hl⟩,λa ha b hb=>by
  rcases aai.mp hb with hb|hb
  ·exact h.ob a ha b hb
  ·exact h.oa a ha b hb⟩⟩
theorem MH.stepA {x:List aam}(h:MH key T (ra++x) rb o)(hx:∀b∈rb,∀a∈x,O.kle (key b) (key a)):MH key T ra rb (x++o):=by
 obtain⟨s1,s2,s3⟩:=bE.mp h.sa;refine⟨?_,bE.mpr ⟨s2,h.so,λa ha b hb=>h.oa a (Z6 _ ha) b hb⟩,s1,h.sb,λa ha b hb=>?_,λa ha b hb=>?_⟩
 ·refine List.Perm.trans ?_ h.perm;have e:ra++rb++(x++o)=(ra++(rb++x))++o:=by simp[aao]
  have e2:ra++x++rb++o=(ra++(x++rb))++o:=by simp[aao]
  rw[e,e2];exact abF o (abc ra ac0)
 ·rcases aai.mp hb with hb|hb
  ·exact s3 a ha b hb
  ·exact h.oa a (aat _ ha) b hb
 ·rcases aai.mp hb with hb|hb
  ·exact hx a ha b hb
  ·exact h.ob a ha b hb
theorem MH.stepB {y:List aam}(h:MH key T ra (rb++y) o)(hy:∀a∈ra,∀b∈y,O.kle (key a) (key b)):MH key T ra rb (y++o):=by
 obtain⟨s1,s2,s3⟩:=bE.mp h.sb;refine⟨?_,bE.mpr ⟨s2,h.so,λa ha b hb=>h.ob a (Z6 _ ha) b hb⟩,h.sa,s1,λa ha b hb=>?_,λa ha b hb=>?_⟩
 ·have e:ra++rb++(y++o)=ra++(rb++y)++o:=by simp[aao]
  rw[e];exact h.perm
 ·rcases aai.mp hb with hb|hb
  ·exact hy a ha b hb
  ·exact h.oa a ha b hb
 ·rcases aai.mp hb with hb|hb
  ·exact s3 a ha b hb
  ·exact h.ob a (aat _ ha) b hb
theorem MH.endB (h:MH key T [] rb o):(rb++o).Perm T/\iQ key (rb++o):=⟨h.perm,bE.mpr ⟨h.sb,h.so,h.ob⟩⟩
theorem MH.endA (h:MH key T ra [] o):(ra++o).Perm T/\iQ key (ra++o):=by
 refine⟨?_,bE.mpr ⟨h.sa,h.so,h.oa⟩⟩;have:=h.perm;rw[aaF] at this;exact this
theorem MH.first (h:MH key T ra rb o)(hl:∀b∈rb,∀a∈ra,O.kle (key b) (key a)):((rb++ra)++o).Perm T/\iQ key ((rb++ra)++o):=
 ⟨(abF o ac0).trans h.perm,bE.mpr ⟨bE.mpr ⟨h.sb,h.sa,hl⟩,h.so,λa ha b hb=>by
  rcases aai.mp ha with ha|ha
  ·exact h.ob a ha b hb
  ·exact h.oa a ha b hb⟩⟩
end
structure lx (M:Model)(A:aaD)(E:ZO->Z8->Prop)(s:Z8)(O:afd)(key:aam->O.α)(knd:adp)(D:aam->Prop):Prop where
 lt:∀(x y:aam) (st:aal) (Q:Option Bool->aal->Prop),D x->D y->abb st=knd->Q (some (O.blt (key x) (key y))) st->wpS M A E s (lt' x y) Q st
section
variable {A:aaD}{O:afd}{key:aam->O.α}{knd:adp}{D:aam->Prop}
theorem bK {x:aam}{st:aal}{Q:aam->aal->Prop}(h:arr.toList[i]? = some x)(q:Q x st):wpS M A E s (ae0 arr i) Q st:=by
 have h:arr[i]? = some x:=by rw[←aaa];exact h
 rw[elem'_eq,h];exact aad q
theorem lQ (C:lx M A E s O key knd D){kx:aam}{hint:Nat}{seg:List aam}{st:aal}{Q:Option Nat->aal->Prop}(LZ:∀i x,seg[i]? = some x->arr.toList[base+i]? = some x)(hs:iQ key seg)(hD:∀x∈seg,D x)(hk:D kx)(kd:abb st=knd)(hh:hint<seg.length)(h:∀k,k<=seg.length->(∀x∈seg.take k,O.kle (key x) (key kx))->(∀x∈seg.drop k,O.klt (key kx) (key x))->Q (some k) st):wpS M A E s (gx false kx arr base seg.length hint) Q st:=by
 have at_:∀i,(hi:i<seg.length)->seg[i]? = some seg[i]:=λi hi=>ZM hi;refine uj (λi=> !(match seg[i]? with|some x=>O.blt (key kx) (key x)|none=>false)) (λi hi Q q=>?_) (λi j tE hj e=>?_) hh λk zT h1 h2=>h k zT (λx hx=>?_) λx hx=>?_
 ·rw[at_ i hi] at q;unfold g7;refine Z7 (bK (LZ i _ (at_ i hi)) ?_);rw[hU ZV];exact Z7 (C.lt _ _ st _ hk (hD _ (aaJ hi)) kd (aad q))
 ·have hi:i<seg.length:=by lia
  simp only[at_ i hi,at_ j hj,Bool.not_eq_true'] at e ⊢;by_cases c:i=j
  ·subst c;exact e
  ·have:=aco.mp hs i j hi hj (by lia);exact aaw this e
 ·obtain⟨i,hi,rfl⟩:=abU.mp hx;rw[aaM] at hi;have:=h1 i (by lia);simp only[at_ i (by lia),Bool.not_eq_true'] at this;rw[ad3];exact this
 ·obtain⟨i,hi,rfl⟩:=abU.mp hx;rw[abf] at hi;have:=h2 (k+i) (by lia) (by lia);simp only[at_ (k+i) (by lia),Bool.not_eq_false'] at this;rw[List.getElem_drop];exact this
theorem lR (C:lx M A E s O key knd D){kx:aam}{hint:Nat}{seg:List aam}{st:aal}{Q:Option Nat->aal->Prop}(LZ:∀i x,seg[i]? = some x->arr.toList[base+i]? = some x)(hs:iQ key seg)(hD:∀x∈seg,D x)(hk:D kx)(kd:abb st=knd)(hh:hint<seg.length)(h:∀k,k<=seg.length->(∀x∈seg.take k,O.klt (key x) (key kx))->(∀x∈seg.drop k,O.kle (key kx) (key x))->Q (some k) st):wpS M A E s (gx true kx arr base seg.length hint) Q st:=by
 have at_:∀i,(hi:i<seg.length)->seg[i]? = some seg[i]:=λi hi=>ZM hi;refine uj (λi=>match seg[i]? with|some x=>O.blt (key x) (key kx)|none=>false) (λi hi Q q=>?_) (λi j tE hj e=>?_) hh λk zT h1 h2=>h k zT (λx hx=>?_) λx hx=>?_
 ·rw[at_ i hi] at q;unfold g7;refine Z7 (bK (LZ i _ (at_ i hi)) ?_);rw[hV rfl];exact C.lt _ _ st _ (hD _ (aaJ hi)) hk kd q
 ·have hi:i<seg.length:=by lia
  simp only[at_ i hi,at_ j hj] at e ⊢;by_cases c:i=j
  ·subst c;exact e
  ·have:=aco.mp hs i j hi hj (by lia);exact KeyOrd.klt_of_kle_of_klt this e
 ·obtain⟨i,hi,rfl⟩:=abU.mp hx;rw[aaM] at hi;have:=h1 i (by lia);simp only[at_ i (by lia)] at this;rw[ad3];exact this
 ·obtain⟨i,hi,rfl⟩:=abU.mp hx;rw[abf] at hi;have:=h2 (k+i) (by lia) (by lia);simp only[at_ (k+i) (by lia)] at this;rw[List.getElem_drop];exact this
end
end Hc.Ts
namespace Hc.Ts
noncomputable abbrev dO (st:aal)(g:Nat):aal:=SortSt.mk' (abb st) (aaC st) (aaz st) g (adq st)
noncomputable def cn (g:Nat):StateT aal Sem Unit:=modify λs=>dO s g
noncomputable def rn:Array aam->Array aam->StateT aal Sem (Array aam):=sortPriv% PySem.Builtin.mergeLo
noncomputable abbrev Jl:=Option (Array aam)×Array aam×Nat×Nat×Nat×Nat×Nat
noncomputable abbrev Mf:=Option (Array aam)×Array aam×Nat×Nat×Nat×Nat
noncomputable abbrev Py:=Option (Array aam)×Array aam×Nat×Nat×Nat
noncomputable def gU (a b out:Array aam)(ia ib:Nat):Array aam:=out++a.extract ia a.size++b.extract ib b.size
noncomputable def lS (a b out:Array aam)(ia ib:Nat):Array aam:=out++b.extract ib b.size++a.extract ia a.size
noncomputable def Hd (a b out:Array aam)(ia ib g k k1:Nat):StateT aal Sem (ForInStep Jl):=do
 let x ←ae0 a ia
 if (ia+1+1==a.size)=true then pure (.done (some (lS a b (out.push x) (ia+1) ib),out.push x,ia+1,ib,g,k,k1))
 else if (decide (k<7)&&decide (k1<7))=true then pure (.done (none,out.push x,ia+1,ib,g,k,k1))
 else pure (.yield (none,out.push x,ia+1,ib,g,k,k1))
noncomputable def He (a b out:Array aam)(ia ib g k bc:Nat):StateT aal Sem (ForInStep Jl):=do
 let y ←ae0 b ib
 if (ib+1==b.size)=true then pure (.done (some (gU a b (out.push y) ia (ib+1)),out.push y,ia,ib+1,g,k,bc))
 else do
  let x ←ae0 a ia
  let some k1 ←gx true x b (ib+1) (b.size-(ib+1)) 0|pure (.done (some (gU a b (out.push y) ia (ib+1)),out.push y,ia,ib+1,g,k,bc))
  if k1>0 then
   if (ib+1+k1==b.size)=true then pure (.done (some (gU a b (out.push y++b.extract (ib+1) (ib+1+k1)) ia (ib+1+k1)),out.push y++b.extract (ib+1) (ib+1+k1),ia,ib+1+k1,g,k,k1))
   else Hd a b (out.push y++b.extract (ib+1) (ib+1+k1)) ia (ib+1+k1) g k k1
  else Hd a b (out.push y) ia (ib+1) g k k1
noncomputable def Hg (a b out:Array aam)(ia ib g ac bc:Nat):StateT aal Sem (ForInStep Jl):=do
 cn g
 let y ←ae0 b ib
 let some k ←gx false y a ia (a.size-ia) 0|pure (.done (some (gU a b out ia ib),out,ia,ib,g,ac,bc))
 if k>0 then
  if (ia+k+1==a.size)=true then pure (.done (some (lS a b (out++a.extract ia (ia+k)) (ia+k) ib),out++a.extract ia (ia+k),ia+k,ib,g,k,bc))
  else if (ia+k==a.size)=true then pure (.done (some (gU a b (out++a.extract ia (ia+k)) (ia+k) ib),out++a.extract ia (ia+k),ia+k,ib,g,k,bc))
  else He a b (out++a.extract ia (ia+k)) (ia+k) ib g k bc
 else He a b out ia ib g k bc
noncomputable def QK (a b:Array aam)(_:Nat)(c:Jl):StateT aal Sem (ForInStep Jl):=
 if c.2.2.2.2.1>1 then Hg a b c.2.1 c.2.2.1 c.2.2.2.1 (c.2.2.2.2.1-1) c.2.2.2.2.2.1 c.2.2.2.2.2.2
 else Hg a b c.2.1 c.2.2.1 c.2.2.2.1 c.2.2.2.2.1 c.2.2.2.2.2.1 c.2.2.2.2.2.2
noncomputable def QL (a b:Array aam)(g:Nat)(_:Nat)(c:Mf):StateT aal Sem (ForInStep Mf):=do
 let y ←ae0 b c.2.2.2.1
 let x ←ae0 a c.2.2.1
 let some bWins ←lt' y x|pure (.done (some (gU a b c.2.1 c.2.2.1 c.2.2.2.1),c.2.1,c.2.2.1,c.2.2.2.1,c.2.2.2.2.1,c.2.2.2.2.2))
 if bWins=true then do
   let y ←ae0 b c.2.2.2.1
   if (c.2.2.2.1+1==b.size)=true then pure (.done (some (gU a b (c.2.1.push y) c.2.2.1 (c.2.2.2.1+1)),c.2.1.push y,c.2.2.1,c.2.2.2.1+1,0,c.2.2.2.2.2+1))
   else if c.2.2.2.2.2+1≥g then pure (.done (none,c.2.1.push y,c.2.2.1,c.2.2.2.1+1,0,c.2.2.2.2.2+1))
   else pure (.yield (none,c.2.1.push y,c.2.2.1,c.2.2.2.1+1,0,c.2.2.2.2.2+1))
 else do
   let x ←ae0 a c.2.2.1
   if (c.2.2.1+1+1==a.size)=true then pure (.done (some (lS a b (c.2.1.push x) (c.2.2.1+1) c.2.2.2.1),c.2.1.push x,c.2.2.1+1,c.2.2.2.1,c.2.2.2.2.1+1,0))
   else if c.2.2.2.2.1+1≥g then pure (.done (none,c.2.1.push x,c.2.2.1+1,c.2.2.2.1,c.2.2.2.2.1+1,0))
   else pure (.yield (none,c.2.1.push x,c.2.2.1+1,c.2.2.2.1,c.2.2.2.2.1+1,0))
noncomputable def QM (a b:Array aam)(_:Nat)(c:Py):StateT aal Sem (ForInStep Py):=do
 let d ←forIn [0:a.size+b.size] (none,c.2.1,c.2.2.1,c.2.2.2.1,0,0) (QL a b c.2.2.2.2)
 match d.1 with
 |some r=>pure (.done (some r,d.2.1,d.2.2.1,d.2.2.2.1,c.2.2.2.2))
 |none=>do
  liftM (rule "list.sort.gallop")
  let e ←forIn [0:a.size+b.size] (none,d.2.1,d.2.2.1,d.2.2.2.1,c.2.2.2.2+1,d.2.2.2.2.1,d.2.2.2.2.2) (QK a b)
  match e.1 with
  |some r=>pure (.done (some r,e.2.1,e.2.2.1,e.2.2.2.1,e.2.2.2.2.1))
  |none=>do
   cn (e.2.2.2.2.1+1)
   pure (.yield (none,e.2.1,e.2.2.1,e.2.2.2.1,e.2.2.2.2.1+1))
theorem vf (a b:Array aam):rn a b=(do
  liftM (rule "list.sort.merge-lo")
  let y ←ae0 b 0
  if (1==b.size)=true then pure (gU a b #[y] 0 1)
  else if (0+1==a.size)=true then pure (lS a b #[y] 0 1)
  else do
   let st ←get
   let c ←forIn [0:a.size+b.size] ((none,#[y],0,1,aeV st):Py) (QM a b)
   match c.1 with
   |some r=>pure r
   |none=>liftM (adZ "internal:list.sort.merge-bound")):=by kernel_rfl
section
variable {A:aaD}{O:afd}{key:aam->O.α}{knd:adp}{D:aam->Prop}
theorem pT (a:Array aam)(i:Nat):(a.extract i a.size).toList=a.toList.drop i:=by
 rw[acr,acp];exact ab8 (by simp)
theorem vg (a:Array aam)(i k:Nat):(a.extract i (i+k)).toList=(a.toList.drop i).take k:=by
 rw[acr,acp,abz]
theorem xm (a b out:Array aam)(ia ib:Nat):(gU a b out ia ib).toList=out.toList++(a.toList.drop ia++b.toList.drop ib):=by
 unfold gU;rw[aaO,aaO,pT,pT,aao]
theorem E_ (a b out:Array aam)(ia ib:Nat):(lS a b out ia ib).toList=out.toList++(b.toList.drop ib++a.toList.drop ia):=by
 unfold lS;rw[aaO,aaO,pT,pT,aao]
theorem kM (h:i<l.length):l.drop i=[l[i]]++l.drop (i+1):=aa8 h
theorem rq (i k:Nat):l.drop i=(l.drop i).take k++l.drop (i+k):=by rw[←List.drop_drop,abd]
def pU (key:aam->O.α)(T:List aam)(r:Array aam):Prop:=r.toList.Perm T/\iQ key r.toList
structure LI (key:aam->O.α)(T:List aam)(a b out:Array aam)(ia ib:Nat):Prop where
 ha:ia+1<a.size
 hb:ib<b.size
 mi:MI key T out.toList (a.toList.drop ia) (b.toList.drop ib)
structure LR (key:aam->O.α)(D:aam->Prop)(a b:Array aam):Prop where
 da:∀x∈a.toList,D x
 db:∀x∈b.toList,D x
 last:∀i,i+1=a.size->∀y∈b.toList,∀x,a.toList[i]? = some x->O.kle (key y) (key x)
variable {a b out:Array aam}{ia ib:Nat}
theorem LR.fin (R:LR key D a b)(h:MI key T out.toList (a.toList.drop ia) (b.toList.drop ib))(e:ia+1=a.size):pU key T (lS a b out ia ib):=by
 unfold pU;rw[E_];refine h.last λy hy x hx=>?_;have hl:ia<a.toList.length:=by rw[ZR];lia
 have hn:a.toList.drop (ia+1)=[]:=acM (by rw[ZR];lia);rw[kM hl,hn,aaF,aag] at hx;subst hx;exact R.last ia e y (abV hy) _ (ZM hl)
theorem AX (h:MI key T out.toList (a.toList.drop ia) (b.toList.drop ib))(e:ib=b.size):pU key T (gU a b out ia ib):=by
 have hn:b.toList.drop ib=[]:=acM (by rw[ZR];lia);unfold pU;rw[xm];rw[hn] at h ⊢;rw[aaF];exact h.endA
theorem NR (h:MI key T out.toList (a.toList.drop ia) (b.toList.drop ib))(e:ia=a.size):pU key T (gU a b out ia ib):=by
 have hn:a.toList.drop ia=[]:=acM (by rw[ZR];lia);unfold pU;rw[xm];rw[hn] at h ⊢;rw[abP];exact h.endB
theorem j6 (h:iQ key (l.drop i))(hl:i<l.length):∀x∈l.drop i,O.kle (key l[i]) (key x):=by
 intro x hx;rw[kM hl] at h hx;rcases aai.mp hx with hx|hx
 ·rw[aag] at hx;subst hx;exact abq _
 ·exact (bE.mp h).2.2 _ (by simp) x hx
theorem Jm (h:MI key T out.toList (a.toList.drop ia) (b.toList.drop ib))(hl:ia<a.toList.length)(hx:∀y∈b.toList.drop ib,O.kle (key a.toList[ia]) (key y)):MI key T (out.push a.toList[ia]).toList (a.toList.drop (ia+1)) (b.toList.drop ib):=by
 rw[ab3];rw[kM hl] at h;exact h.stepA λx sG y hy=>by rw[aag] at sG;subst sG;exact hx y hy
theorem Fb (h:MI key T out.toList (a.toList.drop ia) (b.toList.drop ib))(hl:ib<b.toList.length)(hx:∀x∈a.toList.drop ia,O.kle (key b.toList[ib]) (key x)):MI key T (out.push b.toList[ib]).toList (a.toList.drop ia) (b.toList.drop (ib+1)):=by
 rw[ab3];rw[kM hl] at h;exact h.stepB λx sG y hy=>by rw[aag] at sG;subst sG;exact hx y hy
def GE (key:aam->O.α)(T:List aam)(a b:Array aam)(n:Nat)(cG:aal)(c:Jl)(st:aal):Prop:=
 (∃g,st=dO cG g)/\((∃r,c.1=some r/\pU key T r)\/(c.1=none/\LI key T a b c.2.1 c.2.2.1 c.2.2.2.1/\n<=c.2.2.1+c.2.2.2.1))
def GS (key:aam->O.α)(T:List aam)(a b:Array aam)(n:Nat)(cG:aal)(r:ForInStep Jl)(st:aal):Prop:=
 match r with
 | .done c=>GE key T a b n cG c st
 | .yield c=>GE key T a b n cG c st/\c.1=none
theorem AY (R:LR key D a b){k1:Nat}{st cG:aal}(i4:∃g,st=dO cG g)(h:LI key T a b out ia ib)(hn:n<=ia+ib)(hx:∀(hl:ia<a.toList.length),∀y∈b.toList.drop ib,O.kle (key a.toList[ia]) (key y)) :
  wpS M A E s (Hd a b out ia ib g k k1) (GS key T a b n cG) st:=by
 have hl:ia<a.toList.length:=by have:=h.ha;rw[ZR];lia
 have m:=Jm h.mi hl (hx hl);unfold Hd;refine Z7 (bK (ZM hl) ?_);by_cases c:ia+1+1=a.size
 ·rw[hV (by simpa using c)];exact aad ⟨i4,.inl ⟨_,rfl,R.fin m c⟩⟩
 ·rw[hU (by simpa using c)];have L:LI key T a b (out.push a.toList[ia]) (ia+1) ib:=⟨by have:=h.ha;lia,h.hb,m⟩;by_cases c2:(decide (k<7)&&decide (k1<7))=true
  ·rw[hV c2];exact aad ⟨i4,.inr ⟨rfl,L,by simp only;lia⟩⟩
  ·rw[hU c2];exact aad ⟨⟨i4,.inr ⟨rfl,L,by simp only;lia⟩⟩,rfl⟩
theorem AZ (C:lx M A E s O key knd D)(R:LR key D a b){st cG:aal}(i4:∃g,st=dO cG g)(kd:abb cG=knd)(h:LI key T a b out ia ib)(hn:n<=ia+ib)(hx:∀(hl:ib<b.toList.length),∀x∈a.toList.drop ia,O.kle (key b.toList[ib]) (key x)) :
  wpS M A E s (He a b out ia ib g k bc) (GS key T a b n cG) st:=by
 have lZ:ib<b.toList.length:=by have:=h.hb;rw[ZR];lia
 have pL:ia<a.toList.length:=by have:=h.ha;rw[ZR];lia
 have m:=Fb h.mi lZ (hx lZ);have FX:abb st=knd:=by obtain⟨g,rfl⟩:=i4;exact kd
 unfold He;refine Z7 (bK (ZM lZ) ?_);by_cases c:ib+1=b.size
 ·rw[hV (by simpa using c)];exact aad ⟨i4,.inl ⟨_,rfl,AX m c⟩⟩
 ·rw[hU (by simpa using c)];refine Z7 (bK (ZM pL) ?_);have dw:b.size-(ib+1)=(b.toList.drop (ib+1)).length:=by rw[abf,ZR]
  rw[dw];refine Z7 (lR C (seg:=b.toList.drop (ib+1)) (λi x e=>by rw[adN] at e;exact e) m.sb (λx hx=>R.db x (abV hx)) (R.da _ (aaJ pL)) FX (by rw[←dw];have:=h.hb;lia) λk1 zT p1 p2=>?_);dsimp only;by_cases c1:k1>0
  ·rw[hV c1];have m2:MI key T (out.push b.toList[ib]++b.extract (ib+1) (ib+1+k1)).toList (a.toList.drop ia) (b.toList.drop (ib+1+k1)):=by
    rw[aaO,vg];have m':=m;rw[rq (l:=b.toList) (ib+1) k1] at m';exact m'.stepB λy hy x sG=>aaw (aaL (p1 y hy)) (j6 h.mi.sa pL x sG)
   by_cases c2:ib+1+k1=b.size
   ·rw[hV (by simpa using c2)];exact aad ⟨i4,.inl ⟨_,rfl,AX m2 c2⟩⟩
   ·rw[hU (by simpa using c2)];have:k1<=b.size-(ib+1):=by rw[dw];exact zT
    refine AY R i4 ⟨h.ha,by have:=h.hb;lia,m2⟩ (by lia) λhl y hy=>?_;rw[←List.drop_drop] at hy;exact p2 y hy
  ·rw[hU c1];have:k1=0:=by lia
   subst this;refine AY R i4 ⟨h.ha,by have:=h.hb;lia,m⟩ (by lia) λhl y hy=>p2 y hy
theorem A4 (C:lx M A E s O key knd D)(R:LR key D a b){ac:Nat}{st cG:aal}(i4:∃g,st=dO cG g)(kd:abb cG=knd)(h:LI key T a b out ia ib)(hn:n<=ia+ib) :
  wpS M A E s (Hg a b out ia ib g ac bc) (GS key T a b n cG) st:=by
 have lZ:ib<b.toList.length:=by have:=h.hb;rw[ZR];lia
 have pL:ia<a.toList.length:=by have:=h.ha;rw[ZR];lia
 unfold Hg cn;have yk:∃g',dO st g=dO cG g':=by obtain⟨g0,rfl⟩:=i4;exact⟨g,rfl⟩
 have FX:abb (dO st g)=knd:=by obtain⟨g0,rfl⟩:=i4;exact kd
 refine Z7 (adA ?_);refine Z7 (bK (ZM lZ) ?_);have dw:a.size-ia=(a.toList.drop ia).length:=by rw[abf,ZR]
 rw[dw];refine Z7 (lQ C (seg:=a.toList.drop ia) (λi x e=>by rw[adN] at e;exact e) h.mi.sa (λx hx=>R.da x (abV hx)) (R.db _ (aaJ lZ)) FX (by rw[←dw];have:=h.ha;lia) λk hk p1 p2=>?_);dsimp only;by_cases c1:k>0
 ·rw[hV c1];have m2:MI key T (out++a.extract ia (ia+k)).toList (a.toList.drop (ia+k)) (b.toList.drop ib):=by
   rw[aaO,vg];have m':=h.mi;rw[rq (l:=a.toList) ia k] at m';exact m'.stepA λx hx y hy=>aaw (p1 x hx) (j6 h.mi.sb lZ y hy)
  by_cases c2:ia+k+1=a.size
  ·rw[hV (by simpa using c2)];exact aad ⟨yk,.inl ⟨_,rfl,R.fin m2 c2⟩⟩
  ·rw[hU (by simpa using c2)];by_cases c3:ia+k=a.size
   ·rw[hV (by simpa using c3)];exact aad ⟨yk,.inl ⟨_,rfl,NR m2 c3⟩⟩
   ·rw[hU (by simpa using c3)];have:k<=a.size-ia:=by rw[dw];exact hk
    refine AZ C R yk kd ⟨by have:=h.ha;lia,h.hb,m2⟩ (by lia) λhl x hx=>?_;rw[←List.drop_drop] at hx;exact aaL (p2 x hx)
 ·rw[hU c1];have:k=0:=by lia
  subst this;exact AZ C R yk kd h hn λhl x hx=>aaL (p2 x hx)
theorem K7 (C:lx M A E s O key knd D)(R:LR key D a b){c:Jl}{st cG:aal}(i4:∃g,st=dO cG g)(kd:abb cG=knd)(h:LI key T a b c.2.1 c.2.2.1 c.2.2.2.1)(hn:n<=c.2.2.1+c.2.2.2.1) :
  wpS M A E s (QK a b i c) (GS key T a b n cG) st:=by
 unfold QK;split
 ·exact A4 C R i4 kd h hn
 ·exact A4 C R i4 kd h hn
theorem K8 (C:lx M A E s O key knd D)(R:LR key D a b){c:Mf}{st:aal}{Q:ForInStep Mf->aal->Prop}(kd:abb st=knd)(h:LI key T a b c.2.1 c.2.2.1 c.2.2.2.1)(h1:∀d:Mf,(∃r,d.1=some r/\pU key T r)\/(d.1=none/\LI key T a b d.2.1 d.2.2.1 d.2.2.2.1/\c.2.2.1+c.2.2.2.1+1=d.2.2.1+d.2.2.2.1)->Q (.done d) st)(h2:∀d:Mf,d.1=none->LI key T a b d.2.1 d.2.2.1 d.2.2.2.1->c.2.2.1+c.2.2.2.1+1=d.2.2.1+d.2.2.2.1->Q (.yield d) st) :
  wpS M A E s (QL a b g i c) Q st:=by
 obtain⟨r0,out,ia,ib,ac,bc⟩:=c;dsimp only at h h1 h2 ⊢;have lZ:ib<b.toList.length:=by have:=h.hb;rw[ZR];lia
 have pL:ia<a.toList.length:=by have:=h.ha;rw[ZR];lia
 unfold QL;dsimp only;refine Z7 (bK (ZM lZ) ?_);refine Z7 (bK (ZM pL) ?_);refine Z7 (C.lt _ _ st _ (R.db _ (aaJ lZ)) (R.da _ (aaJ pL)) kd ?_);dsimp only;cases e:O.blt (key b.toList[ib]) (key a.toList[ia]) with
 |true=>
  rw[hV rfl];have m:=Fb h.mi lZ λx hx=>aaw (aaL e) (j6 h.mi.sa pL x hx);refine Z7 (bK (ZM lZ) ?_);by_cases c:ib+1=b.size
  ·rw[hV (by simpa using c)];exact aad (h1 _ (.inl ⟨_,rfl,AX m c⟩))
  ·rw[hU (by simpa using c)];have L:LI key T a b (out.push b.toList[ib]) ia (ib+1):=⟨h.ha,by have:=h.hb;lia,m⟩;split
   ·exact aad (h1 _ (.inr ⟨rfl,L,by simp only;lia⟩))
   ·exact aad (h2 _ rfl L (by simp only;lia))
 |false=>
  rw[hU ZV];have m:=Jm h.mi pL λy hy=>aaw (show O.kle _ _ from e) (j6 h.mi.sb lZ y hy);refine Z7 (bK (ZM pL) ?_);by_cases c:ia+1+1=a.size
  ·rw[hV (by simpa using c)];exact aad (h1 _ (.inl ⟨_,rfl,R.fin m c⟩))
  ·rw[hU (by simpa using c)];have L:LI key T a b (out.push a.toList[ia]) (ia+1) ib:=⟨by have:=h.ha;lia,h.hb,m⟩;split
   ·exact aad (h1 _ (.inr ⟨rfl,L,by simp only;lia⟩))
   ·exact aad (h2 _ rfl L (by simp only;lia))
theorem K9 (C:lx M A E s O key knd D)(R:LR key D a b){c:Py}{st cG:aal}(i4:∃g,st=dO cG g)(kd:abb cG=knd)(h:LI key T a b c.2.1 c.2.2.1 c.2.2.2.1) :
  wpS M A E s (QM a b i c) (λr aN=>(∃g,aN=dO cG g)/\match r with
   | .done d=>∃r,d.1=some r/\pU key T r
   | .yield d=>d.1=none/\LI key T a b d.2.1 d.2.2.1 d.2.2.2.1/\c.2.2.1+c.2.2.2.1+1<=d.2.2.1+d.2.2.2.1) st:=by
 obtain⟨r0,out,ia,ib,g0⟩:=c;dsimp only at h ⊢;have FX:abb st=knd:=by obtain⟨g,rfl⟩:=i4;exact kd
 unfold QM;dsimp only;have hs:1<=a.size+b.size:=by have:=h.hb;lia
 refine Z7 (aci (abe (I:=λx d aN=>aN=st/\d.1=none/\LI key T a b d.2.1 d.2.2.1 d.2.2.2.1/\ia+ib+x=d.2.2.1+d.2.2.2.1)
  (Q:=λd aN=>aN=st/\((∃r,d.1=some r/\pU key T r)\/(d.1=none/\LI key T a b d.2.1 d.2.2.1 d.2.2.2.1/\ia+ib+1<=d.2.2.1+d.2.2.2.1))) ?step ?fin ⟨rfl,rfl,h,by simp only;lia⟩) ?post)
 case fin=>
  rintro d aN ⟨rfl,e1,e2,e3⟩;exact⟨rfl,.inr ⟨e1,e2,by lia⟩⟩
 case step=>
  rintro x d aN _ hx ⟨rfl,e1,e2,e3⟩;refine K8 C R FX e2 (λd' hd=>?_) λd' p1 p2 p3=>?_
  ·rcases hd with hd|⟨p1,p2,p3⟩
   ·exact⟨rfl,.inl hd⟩
   ·exact⟨rfl,.inr ⟨p1,p2,by lia⟩⟩
  ·exact⟨rfl,p1,p2,by lia⟩
 case post=>
  rintro d aN ⟨rfl,hd⟩;obtain⟨dr,dout,dia,dib,dac,dbc⟩:=d;dsimp only at hd ⊢;rcases hd with⟨r,rfl,hr⟩|⟨rfl,hL,hn⟩
  ·exact aad ⟨i4,r,rfl,hr⟩
  ·dsimp only;refine Z7 (wpS_lift (ab0 ⟨rfl,?_⟩));refine Z7 (aci (abe (I:=λx d aN=>GE key T a b (ia+ib+1) cG d aN/\d.1=none)
    (Q:=λd aN=>GE key T a b (ia+ib+1) cG d aN) ?_ (λd aN h=>h.1) ⟨⟨i4,.inr ⟨rfl,hL,hn⟩⟩,rfl⟩) ?_)
   ·rintro x d aN _ hx ⟨⟨hs',hd⟩,e1⟩;rcases hd with⟨r,e2,_⟩|⟨_,e3,e4⟩
    ·rw[e1] at e2;cases e2
    ·refine aci (K7 C R hs' kd e3 e4) λr L0 hr=>?_;cases r with
     |done d'=>exact hr
     |yield d'=>exact hr
   ·rintro d aN ⟨hs',hd⟩;obtain⟨er,eout,eia,eib,eg,eac,ebc⟩:=d;dsimp only at hd ⊢;rcases hd with⟨r,rfl,hr⟩|⟨rfl,hL2,JG⟩
    ·exact aad ⟨hs',r,rfl,hr⟩
    ·dsimp only;unfold cn;refine Z7 (adA (aad ⟨?_,rfl,hL2,JG⟩));obtain⟨g,rfl⟩:=hs';exact⟨_,rfl⟩
theorem zu (C:lx M A E s O key knd D)(R:LR key D a b){st:aal}{Q:Array aam->aal->Prop}(kd:abb st=knd)(sa:iQ key a.toList)(sb:iQ key b.toList)(ha:0<a.size)(hb:0<b.size)
  (first:∀y,b.toList[0]? = some y->∀x∈a.toList,O.kle (key y) (key x))
  (h:∀r g,r.toList.Perm (a.toList++b.toList)->iQ key r.toList->Q r (dO st g)):wpS M A E s (rn a b) Q st:=by
 have lZ:0<b.toList.length:=by rw[ZR];exact hb
 have m:MI key (a.toList++b.toList) (#[b.toList[0]]:Array aam).toList (a.toList.drop 0) (b.toList.drop 1):=by
  have m0:MI key (a.toList++b.toList) (#[]:Array aam).toList (a.toList.drop 0) (b.toList.drop 0):=
   ⟨by simp,List.Pairwise.nil,sa,sb,λx hx=>absurd hx (by simp),λx hx=>absurd hx (by simp)⟩
  exact Fb m0 lZ (λx hx=>first _ (ZM lZ) x hx)
 have fin:∀r g,pU key (a.toList++b.toList) r->Q r (dO st g):=λr g hr=>h r g hr.1 hr.2;rw[vf];refine Z7 (wpS_lift (ab0 ⟨rfl,?_⟩));refine Z7 (bK (ZM lZ) ?_);by_cases c:1=b.size
 ·rw[hV (by simpa using c)];exact aad (fin _ (aeV st) (AX m c))
 ·rw[hU (by simpa using c)];by_cases c2:0+1=a.size
  ·rw[hV (by simpa using c2)];exact aad (fin _ (aeV st) (R.fin m c2))
  ·rw[hU (by simpa using c2)];refine Z7 (ae1 ?_);refine Z7 (aci (abe (I:=λx d aN=>(∃g,aN=dO st g)/\d.1=none/\LI key (a.toList++b.toList) a b d.2.1 d.2.2.1 d.2.2.2.1/\x<=d.2.2.1+d.2.2.2.1)
    (Q:=λd aN=>(∃g,aN=dO st g)/\∃r,d.1=some r/\pU key (a.toList++b.toList) r) ?step ?fin ⟨⟨aeV st,rfl⟩,rfl,⟨by simp only;lia,by simp only;lia,m⟩,by simp only;lia⟩) ?post)
   case fin=>
    rintro d aN ⟨hs',e1,e2,e3⟩;have:=e2.ha;have:=e2.hb;lia
   case step=>
    rintro x d aN _ hx ⟨hs',e1,e2,e3⟩;refine aci (K9 C R hs' kd e2) λr L0 hr=>?_;obtain⟨cV,hr⟩:=hr;cases r with
    |done d'=>exact⟨cV,hr⟩
    |yield d'=>exact⟨cV,hr.1,hr.2.1,by have:=hr.2.2;lia⟩
   case post=>
    rintro d aN ⟨⟨g,rfl⟩,r,e,hr⟩;obtain⟨dr,d'⟩:=d;dsimp only at e ⊢;subst e;exact aad (fin r g hr)
end
end Hc.Ts
namespace Hc.Ts
noncomputable def rA:Array aam->Array aam->StateT aal Sem (Array aam):=sortPriv% PySem.Builtin.mergeHi
noncomputable abbrev Jn:=Option (Array aam)×Nat×Nat×Array aam×Nat×Nat×Nat
noncomputable abbrev Mg:=Option (Array aam)×Nat×Nat×Array aam×Nat×Nat
noncomputable abbrev Pz:=Option (Array aam)×Nat×Nat×Array aam×Nat
noncomputable def gW (a b out:Array aam)(na nb:Nat):Array aam:=a.extract 0 na++b.extract 0 nb++out.reverse
noncomputable def jD (a b out:Array aam)(na nb:Nat):Array aam:=b.extract 0 nb++a.extract 0 na++out.reverse
noncomputable def Hh (a b out:Array aam)(na nb g k k1:Nat):StateT aal Sem (ForInStep Jn):=do
 let x ←ae0 a (na-1)
 if (na-1==0)=true then pure (.done (some (gW a b (out.push x) (na-1) nb),na-1,nb,out.push x,g,k,k1))
 else if (decide (k<7)&&decide (k1<7))=true then pure (.done (none,na-1,nb,out.push x,g,k,k1))
 else pure (.yield (none,na-1,nb,out.push x,g,k,k1))
noncomputable def Hi (a b out:Array aam)(na nb g k bc:Nat):StateT aal Sem (ForInStep Jn):=do
 let y ←ae0 b (nb-1)
 if (nb-1==1)=true then pure (.done (some (jD a b (out.push y) na (nb-1)),na,nb-1,out.push y,g,k,bc))
 else do
  let x ←ae0 a (na-1)
  let some kr ←gx true x b 0 (nb-1) (nb-1-1)|pure (.done (some (gW a b (out.push y) na (nb-1)),na,nb-1,out.push y,g,k,bc))
  if nb-1-kr>0 then
   if (kr==1)=true then pure (.done (some (jD a b (out.push y++(b.extract kr (nb-1)).reverse) na kr),na,kr,out.push y++(b.extract kr (nb-1)).reverse,g,k,nb-1-kr))
   else if (kr==0)=true then pure (.done (some (gW a b (out.push y++(b.extract kr (nb-1)).reverse) na kr),na,kr,out.push y++(b.extract kr (nb-1)).reverse,g,k,nb-1-kr))
   else Hh a b (out.push y++(b.extract kr (nb-1)).reverse) na kr g k (nb-1-kr)
  else Hh a b (out.push y) na (nb-1) g k (nb-1-kr)
noncomputable def Hj (a b out:Array aam)(na nb g ac bc:Nat):StateT aal Sem (ForInStep Jn):=do
 cn g
 let y ←ae0 b (nb-1)
 let some uO ←gx false y a 0 na (na-1)|pure (.done (some (gW a b out na nb),na,nb,out,g,ac,bc))
 if na-uO>0 then
  if (uO==0)=true then pure (.done (some (gW a b (out++(a.extract uO na).reverse) uO nb),uO,nb,out++(a.extract uO na).reverse,g,na-uO,bc))
  else Hi a b (out++(a.extract uO na).reverse) uO nb g (na-uO) bc
 else Hi a b out na nb g (na-uO) bc
noncomputable def QN (a b:Array aam)(_:Nat)(c:Jn):StateT aal Sem (ForInStep Jn):=
 if c.2.2.2.2.1>1 then Hj a b c.2.2.2.1 c.2.1 c.2.2.1 (c.2.2.2.2.1-1) c.2.2.2.2.2.1 c.2.2.2.2.2.2
 else Hj a b c.2.2.2.1 c.2.1 c.2.2.1 c.2.2.2.2.1 c.2.2.2.2.2.1 c.2.2.2.2.2.2
noncomputable def QO (a b:Array aam)(g:Nat)(_:Nat)(c:Mg):StateT aal Sem (ForInStep Mg):=do
 let y ←ae0 b (c.2.2.1-1)
 let x ←ae0 a (c.2.1-1)
 let some aWins ←lt' y x|pure (.done (some (gW a b c.2.2.2.1 c.2.1 c.2.2.1),c.2.1,c.2.2.1,c.2.2.2.1,c.2.2.2.2.1,c.2.2.2.2.2))
 if aWins=true then do
  let x ←ae0 a (c.2.1-1)
  if (c.2.1-1==0)=true then pure (.done (some (gW a b (c.2.2.2.1.push x) (c.2.1-1) c.2.2.1),c.2.1-1,c.2.2.1,c.2.2.2.1.push x,c.2.2.2.2.1+1,0))
  else if c.2.2.2.2.1+1≥g then pure (.done (none,c.2.1-1,c.2.2.1,c.2.2.2.1.push x,c.2.2.2.2.1+1,0))
  else pure (.yield (none,c.2.1-1,c.2.2.1,c.2.2.2.1.push x,c.2.2.2.2.1+1,0))
 else do
  let y ←ae0 b (c.2.2.1-1)
  if (c.2.2.1-1==1)=true then pure (.done (some (jD a b (c.2.2.2.1.push y) c.2.1 (c.2.2.1-1)),c.2.1,c.2.2.1-1,c.2.2.2.1.push y,0,c.2.2.2.2.2+1))
  else if c.2.2.2.2.2+1≥g then pure (.done (none,c.2.1,c.2.2.1-1,c.2.2.2.1.push y,0,c.2.2.2.2.2+1))
  else pure (.yield (none,c.2.1,c.2.2.1-1,c.2.2.2.1.push y,0,c.2.2.2.2.2+1))
noncomputable def QP (a b:Array aam)(_:Nat)(c:Pz):StateT aal Sem (ForInStep Pz):=do
 let d ←forIn [0:a.size+b.size] (none,c.2.1,c.2.2.1,c.2.2.2.1,0,0) (QO a b c.2.2.2.2)
 match d.1 with
 |some r=>pure (.done (some r,d.2.1,d.2.2.1,d.2.2.2.1,c.2.2.2.2))
 |none=>do
  liftM (rule "list.sort.gallop")
  let e ←forIn [0:a.size+b.size] (none,d.2.1,d.2.2.1,d.2.2.2.1,c.2.2.2.2+1,d.2.2.2.2.1,d.2.2.2.2.2) (QN a b)
  match e.1 with
  |some r=>pure (.done (some r,e.2.1,e.2.2.1,e.2.2.2.1,e.2.2.2.2.1))
  |none=>do
   cn (e.2.2.2.2.1+1)
   pure (.yield (none,e.2.1,e.2.2.1,e.2.2.2.1,e.2.2.2.2.1+1))
theorem vh (a b:Array aam):rA a b=(do
  liftM (rule "list.sort.merge-hi")
  let x ←ae0 a (a.size-1)
  if (a.size-1==0)=true then pure (gW a b #[x] (a.size-1) b.size)
  else if (b.size==1)=true then pure (jD a b #[x] (a.size-1) b.size)
  else do
   let st ←get
   let c ←forIn [0:a.size+b.size] ((none,a.size-1,b.size,#[x],aeV st):Pz) (QP a b)
   match c.1 with
   |some r=>pure r
   |none=>liftM (adZ "internal:list.sort.merge-bound")):=by kernel_rfl
section
variable {A:aaD}{O:afd}{key:aam->O.α}{knd:adp}{D:aam->Prop}
theorem vi (a:Array aam)(n:Nat):(a.extract 0 n).toList=a.toList.take n:=by
 rw[acr,acp];rfl
theorem vj (a:Array aam)(i n:Nat):(a.extract i n).toList=(a.toList.take n).drop i:=by
 rw[acr,acp,List.drop_take]
theorem xn (a b out:Array aam)(na nb:Nat):(gW a b out na nb).toList=(a.toList.take na++b.toList.take nb)++out.toList.reverse:=by
 unfold gW;rw[aaO,aaO,vi,vi,adb]
theorem Ca (a b out:Array aam)(na nb:Nat):(jD a b out na nb).toList=(b.toList.take nb++a.toList.take na)++out.toList.reverse:=by
 unfold jD;rw[aaO,aaO,vi,vi,adb]
theorem nN (h0:0<n)(h:n-1<l.length):l.take n=l.take (n-1)++[l[n-1]]:=by
 obtain⟨m,rfl⟩:∃m,n=m+1:=⟨n-1,by lia⟩;simp only[Nat.add_sub_cancel] at h ⊢;exact abD h
theorem rB (h:k<=n):l.take n=l.take k++(l.take n).drop k:=by
 conv=>lhs;rw[←abd k (l.take n)]
 rw[List.take_take,acZ h]
structure HI (key:aam->O.α)(T:List aam)(a b out:Array aam)(na nb:Nat):Prop where
 a0:0<na
 a1:na<=a.size
 b0:1<nb
 b1:nb<=b.size
 mh:MH key T (a.toList.take na) (b.toList.take nb) out.toList.reverse
structure HR (key:aam->O.α)(D:aam->Prop)(a b:Array aam):Prop where
 da:∀x∈a.toList,D x
 db:∀x∈b.toList,D x
 first:∀y,b.toList[0]? = some y->∀x∈a.toList,O.kle (key y) (key x)
variable {a b out:Array aam}{na nb:Nat}
theorem HR.fin (R:HR key D a b)(h:MH key T (a.toList.take na) (b.toList.take nb) out.toList.reverse)(e:nb=1):pU key T (jD a b out na nb):=by
 unfold pU;rw[Ca];refine h.first λy hy x hx=>?_
 subst e;cases hb:b.toList with
 |nil=>rw[hb] at hy;cases hy
 |cons z r=>
  rw[hb] at hy;have:y=z:=by simpa using hy
  subst this;exact R.first y (by rw[hb];rfl) x (abA hx)
theorem vn (h:MH key T (a.toList.take na) (b.toList.take nb) out.toList.reverse)(e:na=0):pU key T (gW a b out na nb):=by
 subst e;unfold pU;rw[xn];rw[List.take_zero] at h ⊢;rw[abP];exact h.endB
theorem K_ (h:MH key T (a.toList.take na) (b.toList.take nb) out.toList.reverse)(e:nb=0):pU key T (gW a b out na nb):=by
 subst e;unfold pU;rw[xn];rw[List.take_zero] at h ⊢;rw[aaF];exact h.endA
theorem iz (h:iQ key (l.take n))(h0:0<n)(hl:n-1<l.length):∀x∈l.take n,O.kle (key x) (key l[n-1]):=by
 intro x hx;rw[nN h0 hl] at h hx;rcases aai.mp hx with hx|hx
 ·exact (bE.mp h).2.2 x hx _ (by simp)
 ·rw[aag] at hx;subst hx;exact abq _
theorem zv (h:MH key T (a.toList.take na) (b.toList.take nb) out.toList.reverse)(h0:0<na)(hl:na-1<a.toList.length)(hx:∀y∈b.toList.take nb,O.kle (key y) (key a.toList[na-1])):MH key T (a.toList.take (na-1)) (b.toList.take nb) (out.push a.toList[na-1]).toList.reverse:=by
 rw[ab3,adu];rw[nN h0 hl] at h;exact h.stepA λy hy x sG=>by rw[aag] at sG;subst sG;exact hx y hy
theorem Fc (h:MH key T (a.toList.take na) (b.toList.take nb) out.toList.reverse)(h0:0<nb)(hl:nb-1<b.toList.length)(hx:∀x∈a.toList.take na,O.kle (key x) (key b.toList[nb-1])):MH key T (a.toList.take na) (b.toList.take (nb-1)) (out.push b.toList[nb-1]).toList.reverse:=by
 rw[ab3,adu];rw[nN h0 hl] at h;exact h.stepB λx sG y hy=>by rw[aag] at hy;subst hy;exact hx x sG
def HE (key:aam->O.α)(T:List aam)(a b:Array aam)(n:Nat)(cG:aal)(c:Jn)(st:aal):Prop:=
 (∃g,st=dO cG g)/\((∃r,c.1=some r/\pU key T r)\/(c.1=none/\HI key T a b c.2.2.2.1 c.2.1 c.2.2.1/\c.2.1+c.2.2.1<=n))
def HS (key:aam->O.α)(T:List aam)(a b:Array aam)(n:Nat)(cG:aal)(r:ForInStep Jn)(st:aal):Prop:=
 match r with
 | .done c=>HE key T a b n cG c st
 | .yield c=>HE key T a b n cG c st/\c.1=none
theorem A5 (R:HR key D a b){k1:Nat}{st cG:aal}(i4:∃g,st=dO cG g)(h:HI key T a b out na nb)(hn:na+nb<=n)(hx:∀(hl:na-1<a.toList.length),∀y∈b.toList.take nb,O.kle (key y) (key a.toList[na-1])) :
  wpS M A E s (Hh a b out na nb g k k1) (HS key T a b n cG) st:=by
 have hl:na-1<a.toList.length:=by have:=h.a0;have:=h.a1;rw[ZR];lia
 have m:=zv h.mh h.a0 hl (hx hl);unfold Hh;refine Z7 (bK (ZM hl) ?_);by_cases c:na-1=0
 ·rw[hV (by simpa using c)];exact aad ⟨i4,.inl ⟨_,rfl,vn m c⟩⟩
 ·rw[hU (by simpa using c)];have L:HI key T a b (out.push a.toList[na-1]) (na-1) nb:=⟨by lia,by have:=h.a1;lia,h.b0,h.b1,m⟩;by_cases c2:(decide (k<7)&&decide (k1<7))=true
  ·rw[hV c2];exact aad ⟨i4,.inr ⟨rfl,L,by simp only;lia⟩⟩
  ·rw[hU c2];exact aad ⟨⟨i4,.inr ⟨rfl,L,by simp only;lia⟩⟩,rfl⟩
theorem A6 (C:lx M A E s O key knd D)(R:HR key D a b){st cG:aal}(i4:∃g,st=dO cG g)(kd:abb cG=knd)(h:HI key T a b out na nb)(hn:na+nb<=n)(hx:∀(hl:nb-1<b.toList.length),∀x∈a.toList.take na,O.kle (key x) (key b.toList[nb-1])) :
  wpS M A E s (Hi a b out na nb g k bc) (HS key T a b n cG) st:=by
 have lZ:nb-1<b.toList.length:=by have:=h.b0;have:=h.b1;rw[ZR];lia
 have pL:na-1<a.toList.length:=by have:=h.a0;have:=h.a1;rw[ZR];lia
 have b0:=h.b0;have b1:=h.b1;have a0:=h.a0;have a1:=h.a1;have m:=Fc h.mh (by lia) lZ (hx lZ);have FX:abb st=knd:=by obtain⟨g,rfl⟩:=i4;exact kd
 unfold Hi;refine Z7 (bK (ZM lZ) ?_);by_cases c:nb-1=1
 ·rw[hV (by simpa using c)];exact aad ⟨i4,.inl ⟨_,rfl,R.fin m c⟩⟩
 ·rw[hU (by simpa using c)];refine Z7 (bK (ZM pL) ?_);have dw:(b.toList.take (nb-1)).length=nb-1:=by rw[aaM,ZR];lia
  have FY:=λQ=>lR C (Q:=Q) (kx:=a.toList[na-1]) (arr:=b) (base:=0) (hint:=nb-1-1) (seg:=b.toList.take (nb-1)) (st:=st) (λi x e=>by
   rw[acd];rw[adQ] at e;split at e
   ·exact e
   ·cases e) m.sb (λx hx=>R.db x (abA hx)) (R.da _ (aaJ pL)) FX (by rw[dw];lia)
  rw[dw] at FY;refine Z7 (FY _ λkr zT p1 p2=>?_);dsimp only;rw[List.take_take,acZ zT] at p1;by_cases c1:nb-1-kr>0
  ·rw[hV c1];have m2:MH key T (a.toList.take na) (b.toList.take kr) (out.push b.toList[nb-1]++(b.extract kr (nb-1)).reverse).toList.reverse:=by
    rw[aaO,adb,adu,List.reverse_reverse,vj];have m':=m;rw[rB (l:=b.toList) (n:=nb-1) (k:=kr) (by lia)] at m';exact m'.stepB λx sG y hy=>aaw (iz h.mh.sa a0 pL x sG) (p2 y hy)
   by_cases c2:kr=1
   ·rw[hV (by simpa using c2)];exact aad ⟨i4,.inl ⟨_,rfl,R.fin m2 c2⟩⟩
   ·rw[hU (by simpa using c2)];by_cases c3:kr=0
    ·rw[hV (by simpa using c3)];exact aad ⟨i4,.inl ⟨_,rfl,K_ m2 c3⟩⟩
    ·rw[hU (by simpa using c3)];refine A5 R i4 ⟨a0,a1,by lia,by lia,m2⟩ (by lia) λhl y hy=>aaL (p1 y hy)
  ·rw[hU c1];have:kr=nb-1:=by lia
   subst this;refine A5 R i4 ⟨a0,a1,by lia,by lia,m⟩ (by lia) λhl y hy=>aaL (p1 y hy)
theorem A7 (C:lx M A E s O key knd D)(R:HR key D a b){ac:Nat}{st cG:aal}(i4:∃g,st=dO cG g)(kd:abb cG=knd)(h:HI key T a b out na nb)(hn:na+nb<=n) :
  wpS M A E s (Hj a b out na nb g ac bc) (HS key T a b n cG) st:=by
 have lZ:nb-1<b.toList.length:=by have:=h.b0;have:=h.b1;rw[ZR];lia
 have pL:na-1<a.toList.length:=by have:=h.a0;have:=h.a1;rw[ZR];lia
 have b0:=h.b0;have b1:=h.b1;have a0:=h.a0;have a1:=h.a1;unfold Hj cn;have yk:∃g',dO st g=dO cG g':=by obtain⟨g0,rfl⟩:=i4;exact⟨g,rfl⟩
 have FX:abb (dO st g)=knd:=by obtain⟨g0,rfl⟩:=i4;exact kd
 refine Z7 (adA ?_);refine Z7 (bK (ZM lZ) ?_);have dw:(a.toList.take na).length=na:=by rw[aaM,ZR];lia
 have FY:=λQ=>lQ C (Q:=Q) (kx:=b.toList[nb-1]) (arr:=a) (base:=0) (hint:=na-1) (seg:=a.toList.take na) (st:=dO st g) (λi x e=>by
   rw[acd];rw[adQ] at e;split at e
   ·exact e
   ·cases e) h.mh.sa (λx hx=>R.da x (abA hx)) (R.db _ (aaJ lZ)) FX (by rw[dw];lia)
 rw[dw] at FY;refine Z7 (FY _ λuO hk p1 p2=>?_);dsimp only;rw[List.take_take,acZ hk] at p1;by_cases c1:na-uO>0
 ·rw[hV c1];have m2:MH key T (a.toList.take uO) (b.toList.take nb) (out++(a.extract uO na).reverse).toList.reverse:=by
   rw[aaO,adb,adu,List.reverse_reverse,vj];have m':=h.mh;rw[rB (l:=a.toList) (n:=na) (k:=uO) (by lia)] at m';exact m'.stepA λy hy x hx=>aaw (iz h.mh.sb (by lia) lZ y hy) (aaL (p2 x hx))
  by_cases c2:uO=0
  ·rw[hV (by simpa using c2)];exact aad ⟨yk,.inl ⟨_,rfl,vn m2 c2⟩⟩
  ·rw[hU (by simpa using c2)];exact A6 C R yk kd ⟨by lia,by lia,b0,b1,m2⟩ (by lia) λhl x hx=>p1 x hx
 ·rw[hU c1];have:uO=na:=by lia
  subst this;exact A6 C R yk kd h hn λhl x hx=>p1 x hx
theorem La (C:lx M A E s O key knd D)(R:HR key D a b){c:Jn}{st cG:aal}(i4:∃g,st=dO cG g)(kd:abb cG=knd)(h:HI key T a b c.2.2.2.1 c.2.1 c.2.2.1)(hn:c.2.1+c.2.2.1<=n) :
  wpS M A E s (QN a b i c) (HS key T a b n cG) st:=by
 unfold QN;split
 ·exact A7 C R i4 kd h hn
 ·exact A7 C R i4 kd h hn
theorem Lb (C:lx M A E s O key knd D)(R:HR key D a b){c:Mg}{st:aal}{Q:ForInStep Mg->aal->Prop}(kd:abb st=knd)(h:HI key T a b c.2.2.2.1 c.2.1 c.2.2.1)(h1:∀d:Mg,(∃r,d.1=some r/\pU key T r)\/(d.1=none/\HI key T a b d.2.2.2.1 d.2.1 d.2.2.1/\c.2.1+c.2.2.1=d.2.1+d.2.2.1+1)->Q (.done d) st)(h2:∀d:Mg,d.1=none->HI key T a b d.2.2.2.1 d.2.1 d.2.2.1->c.2.1+c.2.2.1=d.2.1+d.2.2.1+1->Q (.yield d) st) :
  wpS M A E s (QO a b g i c) Q st:=by
 obtain⟨r0,na,nb,out,ac,bc⟩:=c;dsimp only at h h1 h2 ⊢;have lZ:nb-1<b.toList.length:=by have:=h.b0;have:=h.b1;rw[ZR];lia
 have pL:na-1<a.toList.length:=by have:=h.a0;have:=h.a1;rw[ZR];lia
 have b0:=h.b0;have b1:=h.b1;have a0:=h.a0;have a1:=h.a1;unfold QO;dsimp only;refine Z7 (bK (ZM lZ) ?_);refine Z7 (bK (ZM pL) ?_);refine Z7 (C.lt _ _ st _ (R.db _ (aaJ lZ)) (R.da _ (aaJ pL)) kd ?_);dsimp only;cases e:O.blt (key b.toList[nb-1]) (key a.toList[na-1]) with
 |true=>
  rw[hV rfl];have m:=zv h.mh a0 pL λy hy=>aaw (iz h.mh.sb (by lia) lZ y hy) (aaL e);refine Z7 (bK (ZM pL) ?_);by_cases c:na-1=0
  ·rw[hV (by simpa using c)];exact aad (h1 _ (.inl ⟨_,rfl,vn m c⟩))
  ·rw[hU (by simpa using c)];have L:HI key T a b (out.push a.toList[na-1]) (na-1) nb:=⟨by lia,by lia,b0,b1,m⟩;split
   ·exact aad (h1 _ (.inr ⟨rfl,L,by simp only;lia⟩))
   ·exact aad (h2 _ rfl L (by simp only;lia))
 |false=>
  rw[hU ZV];have m:=Fc h.mh (by lia) lZ λx hx=>aaw (iz h.mh.sa a0 pL x hx) (show O.kle _ _ from e);refine Z7 (bK (ZM lZ) ?_);by_cases c:nb-1=1
  ·rw[hV (by simpa using c)];exact aad (h1 _ (.inl ⟨_,rfl,R.fin m c⟩))
  ·rw[hU (by simpa using c)];have L:HI key T a b (out.push b.toList[nb-1]) na (nb-1):=⟨a0,a1,by lia,by lia,m⟩;split
   ·exact aad (h1 _ (.inr ⟨rfl,L,by simp only;lia⟩))
   ·exact aad (h2 _ rfl L (by simp only;lia))
theorem Lc (C:lx M A E s O key knd D)(R:HR key D a b){c:Pz}{st cG:aal}(i4:∃g,st=dO cG g)(kd:abb cG=knd)(h:HI key T a b c.2.2.2.1 c.2.1 c.2.2.1) :
  wpS M A E s (QP a b i c) (λr aN=>(∃g,aN=dO cG g)/\match r with
   | .done d=>∃r,d.1=some r/\pU key T r
   | .yield d=>d.1=none/\HI key T a b d.2.2.2.1 d.2.1 d.2.2.1/\d.2.1+d.2.2.1+1<=c.2.1+c.2.2.1) st:=by
 obtain⟨r0,na,nb,out,g0⟩:=c;dsimp only at h ⊢;have FX:abb st=knd:=by obtain⟨g,rfl⟩:=i4;exact kd
 have b0:=h.b0;have b1:=h.b1;have a0:=h.a0;have a1:=h.a1;unfold QP;dsimp only;have hs:1<=a.size+b.size:=by lia
 refine Z7 (aci (abe (I:=λx d aN=>aN=st/\d.1=none/\HI key T a b d.2.2.2.1 d.2.1 d.2.2.1/\na+nb=d.2.1+d.2.2.1+x)
  (Q:=λd aN=>aN=st/\((∃r,d.1=some r/\pU key T r)\/(d.1=none/\HI key T a b d.2.2.2.1 d.2.1 d.2.2.1/\d.2.1+d.2.2.1+1<=na+nb))) ?step ?fin ⟨rfl,rfl,h,by simp only;lia⟩) ?post)
 case fin=>
  rintro d aN ⟨rfl,e1,e2,e3⟩;exact⟨rfl,.inr ⟨e1,e2,by lia⟩⟩
 case step=>
  rintro x d aN _ hx ⟨rfl,e1,e2,e3⟩;refine Lb C R FX e2 (λd' hd=>?_) λd' p1 p2 p3=>?_
  ·rcases hd with hd|⟨p1,p2,p3⟩
   ·exact⟨rfl,.inl hd⟩
   ·exact⟨rfl,.inr ⟨p1,p2,by lia⟩⟩
  ·exact⟨rfl,p1,p2,by lia⟩
 case post=>
  rintro d aN ⟨rfl,hd⟩;obtain⟨dr,dna,dnb,dout,dac,dbc⟩:=d;dsimp only at hd ⊢;rcases hd with⟨r,rfl,hr⟩|⟨rfl,hL,hn⟩
  ·exact aad ⟨i4,r,rfl,hr⟩
  ·dsimp only;refine Z7 (wpS_lift (ab0 ⟨rfl,?_⟩));refine Z7 (aci (abe (I:=λx d aN=>HE key T a b (na+nb-1) cG d aN/\d.1=none)
    (Q:=λd aN=>HE key T a b (na+nb-1) cG d aN) ?_ (λd aN h=>h.1) ⟨⟨i4,.inr ⟨rfl,hL,by simp only;lia⟩⟩,rfl⟩) ?_)
   ·rintro x d aN _ hx ⟨⟨hs',hd⟩,e1⟩;rcases hd with⟨r,e2,_⟩|⟨_,e3,e4⟩
    ·rw[e1] at e2;cases e2
    ·refine aci (La C R hs' kd e3 e4) λr L0 hr=>?_;cases r with
     |done d'=>exact hr
     |yield d'=>exact hr
   ·rintro d aN ⟨hs',hd⟩;obtain⟨er,ena,enb,eout,eg,eac,ebc⟩:=d;dsimp only at hd ⊢;rcases hd with⟨r,rfl,hr⟩|⟨rfl,hL2,JG⟩
    ·exact aad ⟨hs',r,rfl,hr⟩
    ·dsimp only;unfold cn;refine Z7 (adA (aad ⟨?_,rfl,hL2,by simp only;lia⟩));obtain⟨g,rfl⟩:=hs';exact⟨_,rfl⟩
theorem zw (C:lx M A E s O key knd D)(R:HR key D a b){st:aal}{Q:Array aam->aal->Prop}(kd:abb st=knd)(sa:iQ key a.toList)(sb:iQ key b.toList)(ha:0<a.size)(hb:0<b.size)
  (last:∀i,i+1=a.size->∀y∈b.toList,∀x,a.toList[i]? = some x->O.kle (key y) (key x))
  (h:∀r g,r.toList.Perm (a.toList++b.toList)->iQ key r.toList->Q r (dO st g)):wpS M A E s (rA a b) Q st:=by
 have pL:a.size-1<a.toList.length:=by rw[ZR];lia
 have ta:a.toList.take a.size=a.toList:=ab8 (by simp);have tb:b.toList.take b.size=b.toList:=ab8 (by simp);have m:MH key (a.toList++b.toList) (a.toList.take (a.size-1)) (b.toList.take b.size) (#[a.toList[a.size-1]]:Array aam).toList.reverse:=by
  have m0:MH key (a.toList++b.toList) (a.toList.take a.size) (b.toList.take b.size) (#[]:Array aam).toList.reverse:=by
   rw[ta,tb];exact⟨by simp,List.Pairwise.nil,sa,sb,λx _ y hy=>absurd hy (by simp),λx _ y hy=>absurd hy (by simp)⟩
  exact zv m0 ha pL (λy hy=>last (a.size-1) (by lia) y (abA hy) _ (ZM pL))
 have fin:∀r g,pU key (a.toList++b.toList) r->Q r (dO st g):=λr g hr=>h r g hr.1 hr.2;rw[vh];refine Z7 (wpS_lift (ab0 ⟨rfl,?_⟩));refine Z7 (bK (ZM pL) ?_);by_cases c:a.size-1=0
 ·rw[hV (by simpa using c)];exact aad (fin _ (aeV st) (vn m c))
 ·rw[hU (by simpa using c)];by_cases c2:b.size=1
  ·rw[hV (by simpa using c2)];exact aad (fin _ (aeV st) (R.fin m c2))
  ·rw[hU (by simpa using c2)];refine Z7 (ae1 ?_);refine Z7 (aci (abe (I:=λx d aN=>(∃g,aN=dO st g)/\d.1=none/\HI key (a.toList++b.toList) a b d.2.2.2.1 d.2.1 d.2.2.1/\d.2.1+d.2.2.1+x<=a.size+b.size)
    (Q:=λd aN=>(∃g,aN=dO st g)/\∃r,d.1=some r/\pU key (a.toList++b.toList) r) ?step ?fin ⟨⟨aeV st,rfl⟩,rfl,⟨by simp only;lia,by simp only;lia,by simp only;lia,by simp only;lia,m⟩,by simp only;lia⟩) ?post)
   case fin=>
    rintro d aN ⟨hs',e1,e2,e3⟩;have:=e2.a0;have:=e2.b0;lia
   case step=>
    rintro x d aN _ hx ⟨hs',e1,e2,e3⟩;refine aci (Lc C R hs' kd e2) λr L0 hr=>?_;obtain⟨cV,hr⟩:=hr;cases r with
    |done d'=>exact⟨cV,hr⟩
    |yield d'=>exact⟨cV,hr.1,hr.2.1,by have:=hr.2.2;lia⟩
   case post=>
    rintro d aN ⟨⟨g,rfl⟩,r,e,hr⟩;obtain⟨dr,d'⟩:=d;dsimp only at e ⊢;subst e;exact aad (fin r g hr)
end
end Hc.Ts
namespace Hc.Ts
noncomputable def kN (l:List aam)(sa:Nat)(a:Array aam):Array aam:=l.zipIdx.foldl (λa (p,j)=>a.setIfInBounds (sa+j) p) a
noncomputable def Ld (x y:Array aam)(sa na nb:Nat):StateT aal Sem Bool:=do
 let merged ←if na<=nb then rn x y else rA x y
 modify λs=>setArr s (kN merged.toList sa (aaC s))
 let s ←get
 pure (adq s).isNone
theorem xo (i:Nat):mergeAt' i=(do
 let st ←get
 let (some (p,n,pw),some (q,m,_)):=((aaz st)[i]?,(aaz st)[i+1]?)|adZ "internal:list.sort.pending"
 set (setPending st (((aaz st).setIfInBounds i (p,n+m,pw)).eraseIdxIfInBounds (i+1)))
 let some k ←gx false (←ae0 (aaC st) q) (aaC st) p n 0|return false
 let (p,n):=(p+k,n-k)
 if n==0 then return true
 let some m ←gx true (←ae0 (aaC st) (p+n-1)) (aaC st) q m (m-1)|return false
 if m==0 then return true
 Ld ((aaC st).extract p q) ((aaC st).extract q (q+m)) p n m):=by kernel_rfl
section
variable {A:aaD}{O:afd}{key:aam->O.α}{knd:adp}{D:aam->Prop}
theorem rC:∀(l m P S:List aam) (n sa:Nat) (a:Array aam),m.length=l.length->sa+n=P.length->a.toList=P++(m++S)->((l.zipIdx n).foldl (λa (p,j)=>a.setIfInBounds (sa+j) p) a).toList=P++(l++S)
 | [],m,P,S,n,sa,a,h1,h2,h3=>by
  have:m=[]:=abT h1;subst this;exact h3
 |p::l,[],P,S,n,sa,a,h1,h2,h3=>by cases h1
 |p::l,q::m,P,S,n,sa,a,h1,h2,h3=>by
  rw[List.zipIdx_cons,List.foldl_cons];have h4:(a.setIfInBounds (sa+n) p).toList=(P++[p])++(m++S):=by
   rw[aeD,h3,h2,aca,List.set_append_right _ _ (Z2 _),aeT,abQ];simp
  have:=rC l m (P++[p]) S (n+1) sa (a.setIfInBounds (sa+n) p) (by simpa using h1) (by rw[ZZ,acR];lia) h4;rw[this];simp
theorem Cb {m P:List aam}{sa:Nat}{a:Array aam}(h1:m.length=l.length)(h2:sa=P.length)(h3:a.toList=P++(m++S)):(kN l sa a).toList=P++(l++S):=
 rC l m P S 0 sa a h1 (by lia) h3
theorem Hk (C:lx M A E s O key knd D){P x y:List aam}{sa:Nat}{st:aal}{Q:Bool->aal->Prop}{ax ay:Array aam}{na nb:Nat}(ex:ax.toList=x)(ey:ay.toList=y)(hf:adq st=none)(kd:abb st=knd)(ha:(aaC st).toList=P++((x++y)++S))(hs:sa=P.length)(dx:∀p∈x,D p)(dy:∀p∈y,D p)(sx:iQ key x)(sy:iQ key y)(x0:0<x.length)(y0:0<y.length)(first:∀q,y[0]? = some q->∀p∈x,O.kle (key q) (key p))(last:∀i,i+1=x.length->∀q∈y,∀p,x[i]? = some p->O.kle (key q) (key p))(h:∀z g,z.Perm (x++y)->iQ key z->Q true (dO (setArr st (P++(z++S)).toArray) g)):wpS M A E s (Ld ax ay sa na nb) Q st:=by
 subst ex;subst ey;have fin:∀(r:Array aam) (g:Nat),r.toList.Perm (ax.toList++ay.toList)->iQ key r.toList->wpS M A E s (do
   modify λs=>setArr s (kN r.toList sa (aaC s))
   let s ←get
   pure (adq s).isNone) Q (dO st g):=by
  intro r g hp hr;refine Z7 (adA ?_);refine Z7 (ae1 (aad ?_));have e1:kN r.toList sa (aaC st)=(P++(r.toList++S)).toArray:=by
   apply Array.ext';rw[Cb (m:=ax.toList++ay.toList) hp.length_eq.symm hs ha]
  have e2:(adq (setArr (dO st g) (kN r.toList sa (aaC (dO st g))))).isNone=true:=by
   show (adq st).isNone=true;rw[hf];rfl
  rw[e2];have e3:setArr (dO st g) (kN r.toList sa (aaC (dO st g)))=dO (setArr st (P++(r.toList++S)).toArray) g:=by
   rw[←e1]
  rw[e3];exact h r.toList g hp hr
 unfold Ld;dsimp only;split
 ·refine Z7 ?_;exact zu C ⟨dx,dy,λi hi=>last i (by rw[ZR];exact hi)⟩ kd sx sy (by simpa using x0) (by simpa using y0) first fin
 ·refine Z7 ?_;exact zw C ⟨dx,dy,first⟩ kd sx sy (by simpa using x0) (by simpa using y0) (λi hi=>last i (by rw[ZR];exact hi)) fin
theorem Hl {σ:Type}{st aN:σ}{Q:PUnit->σ->Prop}(h:Q ⟨⟩ aN):wpS M A E s (set aN:StateT σ Sem PUnit) Q st:=by
 unfold wpS;rw[StateT.run_set];exact ZN ⟨rfl,h⟩
theorem vo {P x R:List aam}(h:l=P++(x++R))(i:Nat)(p:aam)(e:x[i]? = some p):l[P.length+i]? = some p:=by
 have hi:i<x.length:=by
  rcases acV i x.length with h|h
  ·exact h
  ·rw[ac1 h] at e;cases e
 rw[h,aaQ (abr _ _),abz,aa7 hi,e]
noncomputable def uk (p:Array (Nat×Nat×Nat))(i sa n pw:Nat):Array (Nat×Nat×Nat):=(p.setIfInBounds i (sa,n,pw)).eraseIdxIfInBounds (i+1)
theorem zx (C:lx M A E s O key knd D){P x y:List aam}{pw pw2:Nat}{st:aal}{Q:Bool->aal->Prop}(hf:adq st=none)(kd:abb st=knd)(ha:(aaC st).toList=P++(x++(y++S)))(h1:(aaz st)[i]? = some (P.length,x.length,pw))(h2:(aaz st)[i+1]? = some (P.length+x.length,y.length,pw2))(dx:∀p∈x,D p)(dy:∀p∈y,D p)(sx:iQ key x)(sy:iQ key y)(x0:0<x.length)(y0:0<y.length)(h:∀z g,z.Perm (x++y)->iQ key z->Q true (dO (setArr (setPending st (uk (aaz st) i P.length (x.length+y.length) pw)) (P++(z++S)).toArray) g)):wpS M A E s (mergeAt' i) Q st:=by
 have all:∀(hz:iQ key (x++y)),Q true (setPending st (uk (aaz st) i P.length (x.length+y.length) pw)):=by
  intro hz;have:=h (x++y) (aeV st) (abh _) hz;have e:(P++(x++y++S)).toArray=aaC st:=by
   apply Array.ext';rw[ha,aao]
  rw[e] at this;exact this
 have Mm:(aaC st).toList=(P++x)++(y++S):=by rw[ha,aao]
 rw[xo];refine Z7 (ae1 ?_);rw[h1,h2];dsimp only;refine Z7 (Hl ?_);have ey:(aaC st).toList[P.length+x.length]? = some y[0]:=by
  have:=vo Mm 0 y[0] (ZM y0);rw[ZZ] at this;exact this
 refine Z7 (bK ey ?_);refine Z7 (lQ C (seg:=x) (λi p e=>vo ha i p e) sx dx (dy _ (aaJ y0)) kd x0 λk hk p1 p2=>?_);dsimp only;have yh:∀q∈y,O.kle (key y[0]) (key q):=by
  have:=j6 (l:=y) (i:=0) (key:=key) (by simpa using sy) y0;simpa using this
 by_cases c:x.length-k=0
 ·rw[hV (by simpa using c)];refine aad (all ?_);have:x.take k=x:=ab8 (by lia);rw[this] at p1;exact bE.mpr ⟨sx,sy,λp hp q hq=>aaw (p1 p hp) (yh q hq)⟩
 ·rw[hU (by simpa using c)];have PV:x.length-1<x.length:=by lia
  have X3:(aaC st).toList[P.length+k+(x.length-k)-1]? = some x[x.length-1]:=by
   have:=vo ha (x.length-1) _ (ZM PV);rw[show P.length+k+(x.length-k)-1=P.length+(x.length-1) by lia];exact this
  refine Z7 (bK X3 ?_);refine Z7 (lR C (seg:=y) (λi p e=>by have:=vo Mm i p e;rw[ZZ] at this;exact this) sy dy (dx _ (aaJ PV)) kd (by lia) λnb X4 q1 q2=>?_);dsimp only;have JQ:∀p∈x,O.kle (key p) (key x[x.length-1]):=by
   have:=iz (l:=x) (n:=x.length) (key:=key) (by rw[ads];exact sx) x0 PV;rw[ads] at this;exact this
  by_cases c2:nb=0
  ·rw[hV (by simpa using c2)];refine aad (all ?_);subst c2;exact bE.mpr ⟨sx,sy,λp hp q hq=>aaw (JQ p hp) (q2 q hq)⟩
  ·rw[hU (by simpa using c2)];have xs:x=x.take k++x.drop k:=(abd k x).symm;have ys:y=y.take nb++y.drop nb:=(abd nb y).symm;obtain⟨sx1,sx2,sx3⟩:=bE.mp (xs▸sx);obtain⟨sy1,sy2,sy3⟩:=bE.mp (ys▸sy);refine Hk C (P:=P++x.take k) (x:=x.drop k) (y:=y.take nb) (S:=y.drop nb++S) ?ex ?ey hf kd ?ha ?hs (λp hp=>dx p (abV hp)) (λp hp=>dy p (abA hp)) sx2 sy1 (by rw[abf];lia) (by rw[aaM];lia) ?first ?last λz g hz sz=>?_
   case ex=>
    rw[vj,Mm];rw[show P.length+x.length=(P++x).length by rw[ZZ]];rw[List.take_left,List.drop_append,acM (by lia),abz];rfl
   case ey=>
    rw[vg,Mm];rw[show P.length+x.length=(P++x).length by rw[ZZ],List.drop_left,List.take_append_of_le_length X4]
   case ha=>
    show (aaC st).toList=_;rw[ha]
    conv=>lhs;rw[xs,ys]
    simp only[aao]
   case hs=>rw[ZZ,aaM];lia
   case first=>
    intro q hq p hp;have:(y.take nb)[0]? = y[0]? := by rw[adQ,hV (by lia)]
    rw[this,ZM y0] at hq;injection hq with hq
    subst hq;exact aaL (p2 p hp)
   case last=>
    intro i hi q hq p hp;rw[abf] at hi;rw[adN,show k+i=x.length-1 by lia,ZM PV] at hp;injection hp with hp
    subst hp;exact aaL (q1 q hq)
   have mz:∀r∈z,r∈x.drop k\/r∈y.take nb:=λr hr=>aai.mp (hz.mem_iff.mp hr);have jX:(x.take k++(z++y.drop nb)).Perm (x++y):=by
    have e:x++y=x.take k++((x.drop k++y.take nb)++y.drop nb):=by
     conv=>lhs;rw[xs,ys]
     simp only[aao]
    rw[e];exact abc _ (abF _ hz)
   have X5:iQ key (x.take k++(z++y.drop nb)):=by
    refine bE.mpr ⟨sx1,bE.mpr ⟨sz,sy2,λp hp q hq=>?_⟩,λp hp q hq=>?_⟩
    ·rcases mz p hp with hp|hp
     ·exact aaw (JQ p (abV hp)) (q2 q hq)
     ·exact sy3 p hp q hq
    ·rcases aai.mp hq with hq|hq
     ·rcases mz q hq with hq|hq
      ·exact sx3 p hp q hq
      ·exact aaw (p1 p hp) (yh q (abA hq))
     ·exact aaw (p1 p hp) (yh q (abV hq))
   have:=h _ g jX X5;have e:P++(x.take k++(z++y.drop nb)++S)=P++x.take k++(z++(y.drop nb++S)):=by simp only[aao]
   rw[e] at this;exact this
end
end Hc.Ts
namespace Hc.Ts
noncomputable def A8 (lo n m:Nat):StateT aal Sem AscSt:=forIn [n:m] ((none,n):AscSt) λ_ c=>do
 let some sm ←ltAt' (lo+c.2) (lo+c.2-1)|pure (.done (some none,c.2))
 if sm=true then pure (.done (none,c.2)) else pure (.yield (none,c.2+1))
noncomputable def A9 (lo n m:Nat):StateT aal Sem (Option Nat):=do
 aen lo (lo+n)
 let c ←A8 lo n m
 match c.1 with
 |some r=>pure r
 |none=>pure (some c.2)
noncomputable def Jo (lo:Nat)(c:DescSt):StateT aal Sem (ForInStep DescSt):=do
 let some sm ←ltAt' (lo+c.2.1) (lo+c.2.1-1)|pure (.done (some none,c.2.1,c.2.2))
 if sm=true then
  if c.2.2>0 then do
   aen (lo+c.2.1-(c.2.2+1)) (lo+c.2.1)
   pure (.yield (none,c.2.1+1,0))
  else pure (.yield (none,c.2.1+1,0))
 else do
  let some lg ←ltAt' (lo+c.2.1-1) (lo+c.2.1)|pure (.done (some none,c.2.1,c.2.2))
  if lg=true then pure (.done (none,c.2.1,c.2.2)) else pure (.yield (none,c.2.1+1,c.2.2+1))
noncomputable def Fd (lo n m:Nat):StateT aal Sem DescSt:=forIn [n:m] ((none,n,0):DescSt) λ_ c=>Jo lo c
noncomputable def A_ (lo n m:Nat):StateT aal Sem (Option Nat):=do
 liftM (rule "list.sort.descending-run")
 let c ←Fd lo (n+1) m
 match c.1 with
 |some r=>pure r
 |none=>
  if c.2.2>0 then do
   aen (lo+c.2.1-(c.2.2+1)) (lo+c.2.1)
   A9 lo c.2.1 m
  else A9 lo c.2.1 m
theorem xp (lo m:Nat):countRun' lo m=(do
  let c ←A8 lo 1 m
  match c.1 with
  |some r=>pure r
  |none=>
   if (c.2==m)=true then pure (some c.2)
   else if c.2>1 then do
    let some rs ←ltAt' lo (lo+c.2-1)|pure none
    if rs=true then pure (some c.2)
    else do
     aen lo (lo+c.2)
     A_ lo c.2 m
   else A_ lo c.2 m):=by kernel_rfl
section
variable {A:aaD}{O:afd}{key:aam->O.α}{knd:adp}{D:aam->Prop}{lo:Nat}{a0:Array aam}{cG:aal}
noncomputable def kx (key:aam->O.α)(l:Array aam)(i:Nat):O.α:=key ((l[i]?).getD (Value.none,Value.none))
theorem xq {l m:Array aam}(h:l[i]? = m[j]?):kx key l i=kx key m j:=by unfold kx;rw[h]
theorem zy {l:Array aam}(hm:lo+m<=l.size)(k:Nat):kx key (mirror l (lo+n) (lo+m) ((lo+m-(lo+n)) / 2)) (lo+k)=if n<=k/\k<m then kx key l (lo+(n+m-1-k)) else kx key l (lo+k):=by
 have e:=getElem?_mirror_all (i:=lo+n) hm (lo+k);by_cases c:n<=k/\k<m
 ·rw[hV (by lia)] at e;rw[hV c];exact xq (e.trans (by congr 1;lia))
 ·rw[hU (by lia)] at e;rw[hU c];exact xq e
theorem gF {l:Array aam}(hm:lo+m<=l.size)(he:∀k,n<=k->k<m->kx key l (lo+k)=kx key l (lo+m-1))(k:Nat):kx key (mirror l (lo+n) (lo+m) ((lo+m-(lo+n)) / 2)) (lo+k)=kx key l (lo+k):=by
 rw[zy hm];split
 ·rename_i c;rw[he _ (by lia) (by lia),he k c.1 c.2]
 ·rfl
theorem Fe {l:Array aam}{p d:Nat}(hp:lo+p<l.size)(hd:d<=p)(k:Nat):kx key (bubble l (lo+p) d) (lo+k)=if k=p-d then kx key l (lo+p) else if p-d<k/\k<=p then kx key l (lo+(k-1)) else kx key l (lo+k):=by
 have e:=getElem?_bubble hp d (by lia) (lo+k);by_cases c:k=p-d
 ·rw[hV (by lia)] at e;rw[hV c];exact xq e
 ·rw[hU (by lia)] at e;rw[hU c];by_cases c2:p-d<k/\k<=p
  ·rw[hV (by lia)] at e;rw[hV c2];exact xq (e.trans (by congr 1;lia))
  ·rw[hU (by lia)] at e;rw[hU c2];exact xq e
def CJ (key:aam->O.α)(lo:Nat)(l:Array aam)(n:Nat):Prop:=∀i j,i<=j->j<n->O.kle (kx key l (lo+i)) (kx key l (lo+j))
def Mh (key:aam->O.α)(lo:Nat)(l:Array aam)(n:Nat):Prop:=∀i j,i<=j->j<n->O.kle (kx key l (lo+j)) (kx key l (lo+i))
structure SB (lo:Nat)(a0:Array aam)(cG st:aal):Prop where
 perm:(aaC st).Perm a0
 same:∀k,k<lo->(aaC st)[k]? = a0[k]?
 rest:st=setArr cG (aaC st)
theorem SB.size {st:aal}(h:SB lo a0 cG st):(aaC st).size=a0.size:=h.perm.size_eq
theorem SB.put {st:aal}(h:SB lo a0 cG st){l:Array aam}(hp:l.Perm (aaC st))(hs:∀k,k<lo->l[k]? = (aaC st)[k]?):SB lo a0 cG (setArr st l):=by
 refine⟨hp.trans h.perm,λk hk=>(hs k hk).trans (h.same k hk),?_⟩;have:=h.rest;generalize aaC st=z at this;subst this;rfl
theorem SB.mir {st:aal}(h:SB lo a0 cG st)(hm:lo+m<=a0.size):SB lo a0 cG (setArr st (mirror (aaC st) (lo+n) (lo+m) ((lo+m-(lo+n)) / 2))):=by
 refine h.put (mirror_perm _ _ _ _) λk hk=>?_;rw[getElem?_mirror_all (by rw[h.size];exact hm),hU (by lia)]
theorem SB.bub {st:aal}(h:SB lo a0 cG st){p d:Nat}(hp:lo+p<a0.size)(hd:d<=p):SB lo a0 cG (setArr st (bubble (aaC st) (lo+p) d)):=by
 refine h.put (bubble_perm _ _ _) λk hk=>?_;rw[getElem?_bubble (by rw[h.size];exact hp) d (by lia),hU (by lia),hU (by lia)]
theorem SB.kind {st:aal}(h:SB lo a0 cG st)(kd:abb cG=knd):abb st=knd:=by rw[h.rest];exact kd
theorem rD (C:lx M A E s O key knd D){st:aal}{Q:Option Bool->aal->Prop}(kd:abb cG=knd)(hD:∀p∈a0.toList,D p)(hB:SB lo a0 cG st)(hi:i<a0.size)(hj:j<a0.size)(h:Q (some (O.blt (kx key (aaC st) i) (kx key (aaC st) j))) st):wpS M A E s (ltAt' i j) Q st:=by
 have fd:∀i,i<a0.size->∃p,(aaC st)[i]? = some p/\D p/\kx key (aaC st) i=key p:=λi hi=>by
  have we:i<(aaC st).size:=by rw[hB.size];exact hi
  refine⟨(aaC st)[i],getElem?_pos _ i we,hD _ ((aeE.mp hB.perm).mem_iff.mp (by simp)),?_⟩;unfold kx;rw[getElem?_pos _ i we];rfl
 obtain⟨p,e1,d1,k1⟩:=fd i hi;obtain⟨q,e2,d2,k2⟩:=fd j hj;rw[k1,k2] at h;rw[ltAt'_eq];refine Z7 (ae1 ?_);dsimp only;rw[elem'_eq,elem'_eq,e1,e2];refine Z7 (aad (Z7 (aad ?_)));exact C.lt p q st Q d1 d2 (hB.kind kd) h
theorem vp {st:aal}{Q:Unit->aal->Prop}(h:Q () (setArr st (mirror (aaC st) i j ((j-i) / 2)))):wpS M A E s (aen i j) Q st:=by
 rw[reverseSlice'_eq];exact adA h
theorem xr (C:lx M A E s O key knd D){st:aal}{Q:AscSt->aal->Prop}(kd:abb cG=knd)(hD:∀p∈a0.toList,D p)(hm:lo+m<=a0.size)(n1:1<=n)(nm:n<=m)(hB:SB lo a0 cG st)(ha:CJ key lo (aaC st) n)(h:∀r,n<=r->r<=m->CJ key lo (aaC st) r->(r=m\/O.klt (kx key (aaC st) (lo+r)) (kx key (aaC st) (lo+r-1)))->Q (none,r) st):wpS M A E s (A8 lo n m) Q st:=by
 unfold A8;refine abe (I:=λx c aN=>aN=st/\c=(none,x)/\CJ key lo (aaC st) x) ?go ?out ⟨rfl,rfl,ha⟩
 case out=>
  rintro c aN ⟨rfl,rfl,zU⟩;have e:max n m=m:=by lia
  rw[e] at zU ⊢;exact h m nm (Z2 _) zU (.inl rfl)
 case go=>
  rintro x c aN h1 h2 ⟨rfl,rfl,zU⟩;dsimp only;refine Z7 (rD C kd hD hB (by lia) (by lia) ?_);dsimp only;cases e:O.blt (kx key (aaC aN) (lo+x)) (kx key (aaC aN) (lo+x-1)) with
  |true=>
   rw[hV rfl];exact aad (h x h1 (by lia) zU (.inr e))
  |false=>
   rw[hU ZV];refine aad ⟨rfl,rfl,λi j tE hj=>?_⟩;by_cases c1:j<x
   ·exact zU i j tE c1
   ·have:j=x:=by lia
    subst this;by_cases c2:i=j
    ·subst c2;exact abq _
    ·have:=zU i (j-1) (by lia) (by lia);rw[show lo+(j-1)=lo+j-1 by lia] at this;exact aaw this e
theorem xt (C:lx M A E s O key knd D){st:aal}{Q:Option Nat->aal->Prop}(kd:abb cG=knd)(hD:∀p∈a0.toList,D p)(hm:lo+m<=a0.size)(n1:1<=n)(nm:n<=m)(hB:SB lo a0 cG st)(hd:Mh key lo (aaC st) n)(h:∀r aN,SB lo a0 cG aN->1<=r->r<=m->CJ key lo (aaC aN) r->Q (some r) aN):wpS M A E s (A9 lo n m) Q st:=by
 unfold A9;refine Z7 (vp ?_);have Mn:=hB.mir (n:=0) (m:=n) (by lia);have hz:lo+n<=(aaC st).size:=by rw[hB.size];lia
 rw[aeU] at Mn;refine Z7 (xr C kd hD hm n1 nm Mn (λi j tE hj=>?_) λr r1 r2 r3 _=>aad (h r _ Mn (by lia) r2 r3));have e1:=zy (key:=key) (lo:=lo) (n:=0) hz i;have e2:=zy (key:=key) (lo:=lo) (n:=0) hz j;rw[aeU,hV (by lia)] at e1 e2;rw[e1,e2];exact hd _ _ (by lia) (by lia)
theorem Ff (C:lx M A E s O key knd D){st:aal}{Q:DescSt->aal->Prop}(kd:abb cG=knd)(hD:∀p∈a0.toList,D p)(hm:lo+m<=a0.size)(n1:1<=n)(nm:n<=m)(hB:SB lo a0 cG st)(hd:Mh key lo (aaC st) n)(h:∀r q aN,SB lo a0 cG aN->n<=r->r<=m->Mh key lo (aaC aN) r->q+1<=r->(∀i,r-(q+1)<=i->i<r->kx key (aaC aN) (lo+i)=kx key (aaC aN) (lo+r-1))->Q (none,r,q) aN):wpS M A E s (Fd lo n m) Q st:=by
 unfold Fd;refine abe (I:=λx c aN=>∃q,c=(none,x,q)/\SB lo a0 cG aN/\Mh key lo (aaC aN) x/\q+1<=x/\∀i,x-(q+1)<=i->i<x->kx key (aaC aN) (lo+i)=kx key (aaC aN) (lo+x-1)) ?go ?out
  ⟨0,rfl,hB,hd,by lia,λi a1 a2=>by congr 1;lia⟩
 case out=>
  rintro c aN ⟨q,rfl,b1,b2,b3,b4⟩;have e:max n m=m:=by lia
  rw[e] at b2 b3 b4 ⊢;exact h m q aN b1 nm (Z2 _) b2 b3 b4
 case go=>
  rintro x c aN h1 h2 ⟨q,rfl,b1,b2,b3,b4⟩;have hz:lo+x<=(aaC aN).size:=by rw[b1.size];lia
  unfold Jo;dsimp only;refine Z7 (rD C kd hD b1 (by lia) (by lia) ?_);dsimp only;cases e:O.blt (kx key (aaC aN) (lo+x)) (kx key (aaC aN) (lo+x-1)) with
  |true=>
   rw[hV rfl];have nx:∀l:Array aam,(∀k,kx key l (lo+k)=kx key (aaC aN) (lo+k))->Mh key lo l (x+1):=by
    intro l hl i j tE hj;rw[hl,hl];by_cases c1:j<x
    ·exact b2 i j tE c1
    ·have:j=x:=by lia
     subst this;by_cases c2:i=j
     ·subst c2;exact abq _
     ·have:=b2 i (j-1) (by lia) (by lia);rw[show lo+(j-1)=lo+j-1 by lia] at this;exact aaw (aaL e) this
   by_cases c:q>0
   ·rw[hV c];refine Z7 (vp ?_);have e3:lo+x-(q+1)=lo+(x-(q+1)):=by lia
    rw[e3];refine aad ⟨0,rfl,b1.mir (by lia),nx _ (gF hz b4),by lia,λi a1 a2=>?_⟩;congr 1;lia
   ·rw[hU c];exact aad ⟨0,rfl,b1,nx _ (λ_=>rfl),by lia,λi a1 a2=>by congr 1;lia⟩
  |false=>
   rw[hU ZV];refine Z7 (rD C kd hD b1 (by lia) (by lia) ?_);dsimp only;cases e2:O.blt (kx key (aaC aN) (lo+x-1)) (kx key (aaC aN) (lo+x)) with
   |true=>
    rw[hV rfl];exact aad (h x q aN b1 h1 (by lia) b2 b3 b4)
   |false=>
    rw[hU ZV];have eq:kx key (aaC aN) (lo+x)=kx key (aaC aN) (lo+x-1):=KeyOrd.kle_antisymm e2 e;refine aad ⟨q+1,rfl,b1,λi j tE hj=>?_,by lia,λi a1 a2=>?_⟩
    ·by_cases c1:j<x
     ·exact b2 i j tE c1
     ·have:j=x:=by lia
      subst this;by_cases c2:i=j
      ·subst c2;exact abq _
      ·rw[eq];have:=b2 i (j-1) (by lia) (by lia);rw[show lo+(j-1)=lo+j-1 by lia] at this;exact this
    ·rw[show lo+(x+1)-1=lo+x by lia];by_cases c1:i=x
     ·subst c1;rfl
     ·rw[eq];exact b4 i (by lia) (by lia)
theorem xu (C:lx M A E s O key knd D){st:aal}{Q:Option Nat->aal->Prop}(kd:abb cG=knd)(hD:∀p∈a0.toList,D p)(hm:lo+m<=a0.size)(nm:n+1<=m)(hB:SB lo a0 cG st)(hd:Mh key lo (aaC st) (n+1))(h:∀r aN,SB lo a0 cG aN->1<=r->r<=m->CJ key lo (aaC aN) r->Q (some r) aN):wpS M A E s (A_ lo n m) Q st:=by
 unfold A_;refine Z7 (wpS_lift (ab0 ⟨rfl,?_⟩));refine Z7 (Ff C kd hD hm (by lia) nm hB hd λr q aN b1 r1 r2 b2 b3 b4=>?_);dsimp only;have hz:lo+r<=(aaC aN).size:=by rw[b1.size];lia
 by_cases c:q>0
 ·rw[hV c];refine Z7 (vp ?_);have e3:lo+r-(q+1)=lo+(r-(q+1)):=by lia
  rw[e3];refine xt C kd hD hm (by lia) r2 (b1.mir (by lia)) (λi j tE hj=>?_) h;have e1:=gF (key:=key) hz b4 i;have e2:=gF (key:=key) hz b4 j;rw[e1,e2];exact b2 i j tE hj
 ·rw[hU c];exact xt C kd hD hm (by lia) r2 b1 b2 h
theorem xv (C:lx M A E s O key knd D){st:aal}{Q:Option Nat->aal->Prop}(kd:abb cG=knd)(hD:∀p∈a0.toList,D p)(hm:lo+m<=a0.size)(m1:1<=m)(hB:SB lo a0 cG st)(h:∀r aN,SB lo a0 cG aN->1<=r->r<=m->CJ key lo (aaC aN) r->Q (some r) aN):wpS M A E s (countRun' lo m) Q st:=by
 rw[xp];refine Z7 (xr C kd hD hm (Z2 1) m1 hB (λi j tE hj=>by rw[show i=j by lia];exact abq _) λn n1 n2 ha ho=>?_);dsimp only;by_cases c:n=m
 ·rw[hV (by simpa using c)];exact aad (h n st hB n1 n2 ha)
 ·rw[hU (by simpa using c)];have hl:=ho.resolve_left c;by_cases c2:n>1
  ·rw[hV c2];refine Z7 (rD C kd hD hB (by lia) (by lia) ?_);dsimp only;cases e:O.blt (kx key (aaC st) lo) (kx key (aaC st) (lo+n-1)) with
   |true=>
    rw[hV rfl];exact aad (h n st hB n1 n2 ha)
   |false=>
    rw[hU ZV];have hz:lo+n<=(aaC st).size:=by rw[hB.size];lia
    have al:∀k,0<=k->k<n->kx key (aaC st) (lo+k)=kx key (aaC st) (lo+n-1):=by
     intro k _ hk;have p1:=ha 0 k (by lia) hk;have p2:=ha k (n-1) (by lia) (by lia);rw[show lo+(n-1)=lo+n-1 by lia] at p2;exact KeyOrd.kle_antisymm p2 (aaw (show O.kle _ (kx key (aaC st) lo) from e) p1)
    refine Z7 (vp ?_);have Mn:=hB.mir (n:=0) (m:=n) (by lia);rw[aeU] at Mn;refine xu C kd hD hm (by lia) Mn (λi j tE hj=>?_) h;have e1:=gF (key:=key) (n:=0) hz al i;have e2:=gF (key:=key) (n:=0) hz al j;rw[aeU] at e1 e2;rw[e1,e2];by_cases c3:j<n
    ·rw[al i (by lia) (by lia),al j (by lia) c3];exact abq _
    ·have:j=n:=by lia
     subst this;by_cases c4:i=j
     ·subst c4;exact abq _
     ·rw[al i (by lia) (by lia)];exact aaL hl
  ·rw[hU c2];have:n=1:=by lia
   subst this;refine xu C kd hD hm (by lia) hB (λi j tE hj=>?_) h;by_cases c4:i=j
   ·subst c4;exact abq _
   ·have RQ:i=0:=by lia
    have X6:j=1:=by lia
    subst RQ;subst X6;exact aaL hl
theorem zz (C:lx M A E s O key knd D){st:aal}{ok:Nat}{Q:Bool->aal->Prop}(kd:abb cG=knd)(hD:∀p∈a0.toList,D p)(hn:lo+n<=a0.size)(hok:ok<=n)(hB:SB lo a0 cG st)(ha:CJ key lo (aaC st) ok)(h:∀aN,SB lo a0 cG aN->CJ key lo (aaC aN) n->Q true aN):wpS M A E s (binarySort' lo n ok) Q st:=by
 rw[binarySort'_eq];refine Z7 (aci (abe (I:=λk c aN=>c=(none,())/\SB lo a0 cG aN/\CJ key lo (aaC aN) (min k n))
  (Q:=λc aN=>c=(none,())/\SB lo a0 cG aN/\CJ key lo (aaC aN) n) ?go ?out ?uO) ?end_)
 case end_=>
  rintro c aN ⟨rfl,b1,b2⟩;exact aad (h aN b1 b2)
 case uO=>
  refine⟨rfl,hB,λi j tE hj=>?_⟩;by_cases c:ok=0
  ·rw[show i=j by lia];exact abq _
  ·exact ha i j tE (by lia)
 case out=>
  rintro c aN ⟨e,b1,b2⟩;have e2:min (max (max ok 1) n) n=n:=by lia
  rw[e2] at b2;exact⟨e,b1,b2⟩
 case go=>
  rintro k c yi zT WW ⟨rfl,b1,b2⟩;have e1:min k n=k:=by lia
  rw[e1] at b2;have hk:lo+k<a0.size:=by lia
  refine Z7 (aci (abe (I:=λx c kR=>kR=yi/\∃l r,c=(none,l,r)/\l<=r/\r<=k/\r-l<=k-x/\
    (∀i,i<l->O.kle (kx key (aaC yi) (lo+i)) (kx key (aaC yi) (lo+k)))/\∀i,r<=i->i<k->O.klt (kx key (aaC yi) (lo+k)) (kx key (aaC yi) (lo+i)))
   (Q:=λc kR=>kR=yi/\∃l,c=(none,l,l)/\l<=k/\(∀i,i<l->O.kle (kx key (aaC yi) (lo+i)) (kx key (aaC yi) (lo+k)))/\∀i,l<=i->i<k->O.klt (kx key (aaC yi) (lo+k)) (kx key (aaC yi) (lo+i))) ?go2 ?out2 ?JR) ?end2)
  case JR=>exact⟨rfl,0,k,rfl,by lia,by lia,by lia,λi hi=>by lia,λi a1 a2=>by lia⟩
  case out2=>
   rintro c kR ⟨rfl,l,r,rfl,q1,q2,q3,q4,q5⟩;have:l=r:=by lia
   subst this;exact⟨rfl,l,rfl,q2,q4,q5⟩
  case go2=>
   rintro x c kR _ hx ⟨rfl,l,r,rfl,q1,q2,q3,q4,q5⟩;dsimp only;by_cases c:l≥r
   ·rw[hV c];have:l=r:=by lia
    subst this;exact aad ⟨rfl,l,rfl,q2,q4,q5⟩
   ·rw[hU c];refine Z7 (rD C kd hD b1 hk (by lia) ?_);cases e:O.blt (kx key (aaC kR) (lo+k)) (kx key (aaC kR) (lo+(l+r) / 2)) with
    |true=>
     simp only[if_true];exact aad ⟨rfl,l,(l+r) / 2,rfl,by lia,by lia,by lia,q4,λi a1 a2=>KeyOrd.klt_of_klt_of_kle e (b2 _ _ a1 a2)⟩
    |false=>
     simp only[aau,if_false];exact aad ⟨rfl,(l+r) / 2+1,r,rfl,by lia,by lia,by lia,λi a1=>aaw (b2 i ((l+r) / 2) (by lia) (by lia)) (show O.kle _ _ from e),q5⟩
  case end2=>
   rintro c kR ⟨rfl,l,rfl,q2,q4,q5⟩;dsimp only;rw[moveDown'_eq];have e2:lo+k-(lo+l)=k-l:=by lia
   refine Z7 (adA (aad ⟨rfl,?_,?_⟩))
   ·rw[e2];exact b1.bub hk (by lia)
   ·rw[show min (k+1) n=k+1 by lia];have hz:lo+k<(aaC kR).size:=by rw[b1.size];exact hk
    intro i j tE hj;show O.kle (kx key (bubble (aaC kR) (lo+k) (lo+k-(lo+l))) (lo+i)) (kx key (bubble (aaC kR) (lo+k) (lo+k-(lo+l))) (lo+j));rw[e2,Fe hz (by lia),Fe hz (by lia),show k-(k-l)=l by lia]
    repeat' split
    all_goals first
     | (exfalso;lia)
     |exact abq _
     |exact q4 _ (by lia)
     |exact aaL (q5 _ (by lia) (by lia))
     |exact b2 _ _ (by lia) (by lia)
end
end Hc.Ts
namespace Hc.Ts
noncomputable def vq (lo n:Nat):StateT aal Sem (ForInStep (Option Unit×Nat)):=do
 modify λst=>setPending st ((aaz st).push (lo,n,0))
 pure (.yield (none,lo+n))
noncomputable def QQ (pw:Nat)(_:Nat)(_:Option Unit×Unit):StateT aal Sem (ForInStep (Option Unit×Unit)):=do
 let st ←get
 let some (_,_,old):=(if (aaz st).size>1 then (aaz st)[(aaz st).size-2]? else none)|pure (.done (none,()))
 if old<=pw then pure (.done (none,())) else do
  let r ←mergeAt' ((aaz st).size-2)
  if (!r)=true then pure (.done (some (),())) else pure (.yield (none,()))
noncomputable def QR (pw:Nat)(st:aal):aal:=setPending st ((aaz st).modify ((aaz st).size-1) λx=>match x with|(p,n,_)=>(p,n,pw))
noncomputable def Jp (size lo n pw:Nat):StateT aal Sem (ForInStep (Option Unit×Nat)):=do
 let c ←forIn [0:size] ((none,()):Option Unit×Unit) (QQ pw)
 match c.1 with
 |some r=>pure (.done (some r,lo))
 |none=>do
  modify (QR pw)
  vq lo n
noncomputable def PB (size lo n:Nat):StateT aal Sem (ForInStep (Option Unit×Nat)):=do
 let st ←get
 let some (p1,n1,_):=(aaz st).back? | vq lo n
 Jp size lo n (power' size (2*p1+n1) (2*p1+n1+n1+n) size)
noncomputable def QS (size nZ:Nat)(_:Nat)(c:Option Unit×Nat):StateT aal Sem (ForInStep (Option Unit×Nat)):=
 if c.2≥size then pure (.done (none,c.2)) else do
  let some n ←countRun' c.2 (size-c.2)|pure (.done (some (),c.2))
  if n<nZ then do
   liftM (rule "list.sort.binary-insertion")
   let r ←binarySort' c.2 (min (size-c.2) nZ) n
   if (!r)=true then pure (.done (some (),c.2)) else PB size c.2 (min (size-c.2) nZ)
  else PB size c.2 n
noncomputable def QT (p:Array (Nat×Nat×Nat)):Nat:=
 if Option.any (λx=>decide (x<(p[p.size-2+1]?).elim 0 λx=>x.2.1)) (if p.size-2>0 then Option.map (λx=>x.2.1) p[p.size-2-1]? else none)=true then p.size-2-1 else p.size-2
noncomputable def Ws (_:Nat)(_:Option Unit×Unit):StateT aal Sem (ForInStep (Option Unit×Unit)):=do
 let st ←get
 if (aaz st).size<=1 then pure (.done (none,())) else do
  let r ←mergeAt' (QT (aaz st))
  if (!r)=true then pure (.done (some (),())) else pure (.yield (none,()))
theorem vt:sortRuns'=(do
  let st ←get
  let c ←forIn [0:(aaC st).size] ((none,0):Option Unit×Nat) (QS (aaC st).size (minRun' (aaC st).size (aaC st).size 0))
  match c.1 with
  |some r=>pure r
  |none=>do
   let d ←forIn [0:(aaC st).size] ((none,()):Option Unit×Unit) Ws
   match d.1 with
   |some r=>pure r
   |none=>pure ()):=by kernel_rfl
section
variable {A:aaD}{O:afd}{key:aam->O.α}{knd:adp}{D:aam->Prop}
def rE (key:aam->O.α):Nat->List (List aam)->List (Nat×Nat×Nat)->Prop
 |_,[],[]=>True
 |p,g::gs,e::es=>e.1=p/\e.2.1=g.length/\0<g.length/\iQ key g/\rE key (p+g.length) gs es
 |_,_,_=>False
theorem rE.len:∀{p:Nat} {gs:List (List aam)} {es:List (Nat×Nat×Nat)},rE key p gs es->gs.length=es.length/\gs.length<=gs.flatten.length
 |_,[],[],_=>⟨rfl,Z2 _⟩
 |p,g::gs,e::es,h=>by
  obtain⟨h1,h2⟩:=rE.len h.2.2.2.2;have:=h.2.2.1;rw[aaS,ZZ,ZT,ZT];lia
theorem rE.app:∀{p:Nat} {gs:List (List aam)} {es:List (Nat×Nat×Nat)} {gs2:List (List aam)} {es2:List (Nat×Nat×Nat)},rE key p gs es->rE key (p+gs.flatten.length) gs2 es2->rE key p (gs++gs2) (es++es2)
 |_,[],[],_,_,_,h2=>h2
 |p,g::gs,e::es,gs2,es2,h,h2=>by
  refine⟨h.1,h.2.1,h.2.2.1,h.2.2.2.1,rE.app h.2.2.2.2 ?_⟩;rw[aaS,ZZ,←acG] at h2;exact h2
theorem rE.split:∀{i p:Nat} {gs:List (List aam)} {es:List (Nat×Nat×Nat)},rE key p gs es->i+1<es.length->∃g1 x y g2 e1 pw pw2 e2,gs=g1++x::y::g2/\es=e1++(p+g1.flatten.length,x.length,pw)::(p+g1.flatten.length+x.length,y.length,pw2)::e2/\e1.length=i/\rE key p g1 e1/\0<x.length/\iQ key x/\0<y.length/\iQ key y/\rE key (p+g1.flatten.length+x.length+y.length) g2 e2
 |0,p,x::y::g2,(a,b,pw)::(c,d,pw2)::e2,h,_=>by
  obtain⟨h1,h2,h3,h4,k1,k2,k3,k4,h5⟩:=h;dsimp only at h1 h2 k1 k2;subst h1;subst h2;subst k1;subst k2;exact⟨[],x,y,g2,[],pw,pw2,e2,rfl,rfl,rfl,trivial,h3,h4,k3,k4,h5⟩
 |0,p,[x],[e],h,hl=>absurd hl (by simp)
 |0,p,[],[],h,hl=>absurd hl (by simp)
 |0,p,[x],_::_::_,h,hl=>h.2.2.2.2.elim
 |0,p,_::_::_,[e],h,hl=>h.2.2.2.2.elim
 |i+1,p,[],[],h,hl=>absurd hl (by simp)
 |i+1,p,g::gs,e::es,h,hl=>by
  obtain⟨g1,x,y,g2,e1,pw,pw2,e2,q1,q2,q3,q4,q5⟩:=rE.split h.2.2.2.2 (i:=i) (by simpa using hl);refine⟨g::g1,x,y,g2,e::e1,pw,pw2,e2,by rw[q1];rfl,?_,by rw[ZT,q3],⟨h.1,h.2.1,h.2.2.1,h.2.2.2.1,q4⟩,?_⟩
  ·rw[q2,aaS,ZZ,←acG];rfl
  ·rw[aaS,ZZ,←acG];exact q5
theorem rE.power {f:Nat×Nat×Nat->Nat×Nat×Nat}(hf:∀e,(f e).1=e.1/\(f e).2.1=e.2.1):∀{i p:Nat} {gs:List (List aam)} {es:List (Nat×Nat×Nat)},rE key p gs es->rE key p gs (es.modify i f)
 |_,_,[],[],_=>by rw[List.modify_nil];exact trivial
 |0,p,g::gs,e::es,h=>by
  rw[List.modify_zero_cons];exact⟨(hf e).1.trans h.1,(hf e).2.trans h.2.1,h.2.2⟩
 |i+1,p,g::gs,e::es,h=>by
  rw[List.modify_succ_cons];exact⟨h.1,h.2.1,h.2.2.1,h.2.2.2.1,rE.power hf h.2.2.2.2⟩
structure SI (key:aam->O.α)(knd:adp)(a0:Array aam)(lo:Nat)(rest:List aam)(st:aal):Prop where
 failed:adq st=none
 kind:abb st=knd
 perm:(aaC st).toList.Perm a0.toList
 segs:∃gs:List (List aam),(aaC st).toList=gs.flatten++rest/\gs.flatten.length=lo/\rE key 0 gs (aaz st).toList
variable {a0:Array aam}{lo:Nat}{rest:List aam}
theorem SI.size {st:aal}(h:SI key knd a0 lo rest st):lo+rest.length=a0.size:=by
 obtain⟨gs,e,l,_⟩:=h.segs;have:=h.perm.length_eq;rw[e,ZZ,l,ZR] at this;exact this
theorem SI.few {st:aal}(h:SI key knd a0 lo rest st):(aaz st).size<=lo:=by
 obtain⟨gs,e,l,p⟩:=h.segs;have h1:=p.len;have h2:(aaz st).toList.length=(aaz st).size:=ZR;lia
theorem SI.merge (C:lx M A E s O key knd D)(hD:∀p∈a0.toList,D p){st:aal}(h:SI key knd a0 lo rest st)(hi:i+1<(aaz st).size){Q:Bool->aal->Prop}(q:∀aN,SI key knd a0 lo rest aN->(aaz aN).size+1=(aaz st).size->Q true aN):wpS M A E s (mergeAt' i) Q st:=by
 obtain⟨gs,e,l,p⟩:=h.segs;obtain⟨g1,x,y,g2,e1,pw,pw2,e2,q1,q2,q3,q4,x0,sx,y0,sy,q5⟩:=p.split (i:=i) (by rw[ZR];exact hi);rw[acd] at q2 q5;subst q3;have ea:(aaC st).toList=g1.flatten++(x++(y++(g2.flatten++rest))):=by
  rw[e,q1,ab5,aaS,aaS];simp only[aao]
 have mem:∀p∈(aaC st).toList,D p:=λp hp=>hD p (h.perm.mem_iff.mp hp);refine zx C (pw:=pw) (pw2:=pw2) h.failed h.kind ea ?_ ?_ (λp hp=>mem p (by rw[ea];simp[hp])) (λp hp=>mem p (by rw[ea];simp[hp])) sx sy x0 y0 λz g hz sz=>q _ ?_ ?_
 ·rw[←aaa,q2,aaQ (Z2 _),aeT];rfl
 ·rw[←aaa,q2,aaQ (abr _ 1),abz];rfl
 all_goals
  have ep:(uk (aaz st) e1.length g1.flatten.length (x.length+y.length) pw).toList=e1++(g1.flatten.length,x.length+y.length,pw)::e2:=by
   unfold uk;rw[Array.toList_eraseIdxIfInBounds,aeD,q2,List.set_append_right _ _ (Z2 _),aeT,abQ,List.eraseIdx_append_of_length_le (abr _ 1),abz];rfl
 ·refine⟨h.failed,h.kind,?_,g1++z::g2,?_,?_,?_⟩
  ·show (g1.flatten++(z++(g2.flatten++rest))).Perm a0.toList;refine List.Perm.trans ?_ h.perm;rw[ea];refine abc _ ?_;rw[←aao x];exact abF _ hz
  ·show g1.flatten++(z++(g2.flatten++rest))=_;rw[ab5,aaS];simp only[aao]
  ·rw[←l,q1,ab5,ab5,aaS,aaS,aaS];have:=hz.length_eq;rw[ZZ] at this;simp only[ZZ];lia
  ·show rE key 0 _ (uk (aaz st) e1.length g1.flatten.length (x.length+y.length) pw).toList;have hl:z.length=x.length+y.length:=by rw[hz.length_eq,ZZ]
   rw[ep];refine q4.app ⟨by rw[acd],hl.symm,by rw[hl];lia,sz,?_⟩;rw[acd,hl,←acG];exact q5
 ·show (uk (aaz st) e1.length g1.flatten.length (x.length+y.length) pw).size+1=_;rw[←ZR,ep,←ZR (xs:=aaz st),q2];simp only[ZZ,ZT];lia
theorem Le (C:lx M A E s O key knd D)(hD:∀p∈a0.toList,D p){st:aal}(h:SI key knd a0 lo rest st){pw:Nat}{c:Option Unit×Unit}{Q:ForInStep (Option Unit×Unit)->aal->Prop}(q1:∀aN,SI key knd a0 lo rest aN->Q (.done (none,())) aN)(q2:∀aN,SI key knd a0 lo rest aN->Q (.yield (none,())) aN):wpS M A E s (QQ pw i c) Q st:=by
 unfold QQ;refine Z7 (ae1 ?_);by_cases c1:(aaz st).size>1
 ·rw[hV c1,getElem?_pos (aaz st) _ (by lia)];obtain⟨a,b,old⟩:=(aaz st)[(aaz st).size-2];dsimp only;split
  ·exact aad (q1 st h)
  ·refine Z7 (h.merge C hD (by lia) λaN h' _=>?_);rw[hU (by decide)];exact aad (q2 aN h')
 ·rw[hU c1];exact aad (q1 st h)
theorem um {st:aal}(h:SI key knd a0 lo rest st){Q:ForInStep (Option Unit×Nat)->aal->Prop}(n1:1<=n)(n2:n<=rest.length)(sr:iQ key (rest.take n))(q:∀aN,SI key knd a0 (lo+n) (rest.drop n) aN->Q (.yield (none,lo+n)) aN):wpS M A E s (vq lo n) Q st:=by
 unfold vq;refine Z7 (adA (aad (q _ ?_)));obtain⟨gs,e,l,p⟩:=h.segs;have hl:(rest.take n).length=n:=by rw[aaM];lia
 refine⟨h.failed,h.kind,h.perm,gs++[rest.take n],?_,?_,?_⟩
 ·show (aaC st).toList=_;rw[e,ab5,aao];congr 1;rw[aaS,List.flatten_nil,aaF,abd]
 ·rw[ab5,ZZ,l,aaS,List.flatten_nil,aaF,hl]
 ·show rE key 0 _ ((aaz st).push (lo,n,0)).toList;rw[ab3];exact p.app ⟨by rw[acd,l],hl.symm,by lia,sr,trivial⟩
theorem Fg (C:lx M A E s O key knd D)(hD:∀p∈a0.toList,D p){st:aal}(h:SI key knd a0 lo rest st){size:Nat}{Q:ForInStep (Option Unit×Nat)->aal->Prop}(n1:1<=n)(n2:n<=rest.length)(sr:iQ key (rest.take n))(q:∀aN,SI key knd a0 (lo+n) (rest.drop n) aN->Q (.yield (none,lo+n)) aN):wpS M A E s (PB size lo n) Q st:=by
 unfold PB;refine Z7 (ae1 ?_);cases e:(aaz st).back? with
 |none=>exact um h n1 n2 sr q
 |some v=>
  obtain⟨p1,m1,w⟩:=v;dsimp only;unfold Jp;refine Z7 (aci (abe (I:=λx c aN=>c=(none,())/\SI key knd a0 lo rest aN) (Q:=λc aN=>c=(none,())/\SI key knd a0 lo rest aN) ?go (λ_ _ z=>z) ⟨rfl,h⟩) ?fin)
  case go=>
   rintro x c aN _ _ ⟨rfl,h'⟩;exact Le C hD h' (λkR z=>⟨rfl,z⟩) λkR z=>⟨rfl,z⟩
  case fin=>
   rintro c aN ⟨rfl,h'⟩;dsimp only;refine Z7 (adA (um ?_ n1 n2 sr q));obtain⟨gs,e,l,p⟩:=h'.segs;refine⟨h'.failed,h'.kind,h'.perm,gs,e,l,?_⟩;show rE key 0 gs ((aaz aN).modify _ _).toList;rw[Array.toList_modify];refine rE.power (λe=>?_) p;exact⟨rfl,rfl⟩
theorem Hm {l:Array aam}{P R:List aam}(e:l.toList=P++R)(h:CJ key P.length l n):iQ key (R.take n):=by
 refine aco.mpr λi j hi hj tE=>?_;rw[aaM] at hi hj;have at_:∀k,(hk:k<R.length)->kx key l (P.length+k)=key R[k]:=λk hk=>by
  unfold kx;rw[←aaa,e,aaQ (abr _ _),abz,ZM hk];rfl
 have:=h i j (by lia) (by lia);rw[at_ i (by lia),at_ j (by lia)] at this;rw[ad3,ad3];exact this
theorem SI.run {cG st:aal}(h:SI key knd a0 lo rest cG)(b:SB lo (aaC cG) cG st):∃r,SI key knd a0 lo r st/\r.length=rest.length/\∀n,CJ key lo (aaC st) n->iQ key (r.take n):=by
 obtain⟨gs,e,l,p⟩:=h.segs;have hp:=aeE.mp b.perm;have hl:lo<=(aaC st).toList.length:=by rw[hp.length_eq,e,ZZ,l];lia
 have ht:(aaC st).toList.take lo=gs.flatten:=by
  apply acA;intro k;rw[adQ];split
  ·rename_i c;rw[aaa,b.same k c,←aaa,e,aa7 (by lia)]
  ·rename_i c;rw[ac1 (by lia)]
 have e2:(aaC st).toList=gs.flatten++(aaC st).toList.drop lo:=by
  conv=>lhs;rw[←abd lo (aaC st).toList,ht]
 refine⟨(aaC st).toList.drop lo,⟨?_,?_,hp.trans h.perm,gs,e2,l,?_⟩,?_,λn hn=>?_⟩
 ·rw[b.rest];exact h.failed
 ·rw[b.rest];exact h.kind
 ·rw[b.rest];exact p
 ·have:=hp.length_eq;rw[e,ZZ,l] at this;rw[abf];lia
 ·subst l;exact Hm e2 hn
theorem Lf (C:lx M A E s O key knd D)(hD:∀p∈a0.toList,D p){st:aal}{nZ:Nat}{c:Option Unit×Nat}(h:SI key knd a0 c.2 rest st){Q:ForInStep (Option Unit×Nat)->aal->Prop}(q1:SI key knd a0 a0.size [] st->c.2=a0.size->Q (.done (none,a0.size)) st)(q2:∀n r aN,1<=n->SI key knd a0 (c.2+n) r aN->Q (.yield (none,c.2+n)) aN):wpS M A E s (QS a0.size nZ i c) Q st:=by
 obtain⟨c1,lo⟩:=c;dsimp only at h q1 q2;have hs:=h.size;unfold QS;dsimp only;by_cases c2:lo≥a0.size
 ·rw[hV c2];have e1:lo=a0.size:=by lia
  have e2:rest=[]:=abT (by lia);subst e1;subst e2;exact aad (q1 h rfl)
 ·rw[hU c2];have WZ:∀p∈(aaC st).toList,D p:=λp hp=>hD p (h.perm.mem_iff.mp hp);have hz:(aaC st).size=a0.size:=by have:=h.perm.length_eq;rwa [ZR,ZR] at this
  have b0:SB lo (aaC st) st st:=⟨Array.Perm.refl _,λ_ _=>rfl,rfl⟩;refine Z7 (xv C h.kind WZ (by lia) (by lia) b0 λn aN b1 n1 n2 ha=>?_);dsimp only;by_cases c3:n<nZ
  ·rw[hV c3];refine Z7 (wpS_lift (ab0 ⟨rfl,?_⟩));refine Z7 (zz C h.kind WZ (by lia) (by lia) b1 ha λkR b2 Mm=>?_);rw[hU (by decide)];obtain⟨r,h',hl,hr⟩:=h.run b2;exact Fg C hD h' (by lia) (by lia) (hr _ Mm) λF7 h3=>q2 _ _ F7 (by lia) h3
  ·rw[hU c3];obtain⟨r,h',hl,hr⟩:=h.run b1;exact Fg C hD h' n1 (by lia) (hr _ ha) λF7 h3=>q2 _ _ F7 n1 h3
theorem Lg {p:Array (Nat×Nat×Nat)}(h:¬p.size<=1):QT p+1<p.size:=by
 unfold QT;generalize (Option.any _ _)=z;cases z with
 |true=>rw[hV rfl];lia
 |false=>rw[hU ZV];lia
theorem xw (C:lx M A E s O key knd D)(hD:∀p∈a0.toList,D p){st:aal}(hk:abb st=knd)(hf:adq st=none)(ha:aaC st=a0)(hp:aaz st=#[]){Q:Unit->aal->Prop}
  (q:∀aN,adq aN=none->(aaC aN).toList.Perm a0.toList->iQ key (aaC aN).toList->Q () aN):wpS M A E s sortRuns' Q st:=by
 rw[vt];refine Z7 (ae1 ?_);rw[ha];have h0:SI key knd a0 0 a0.toList st:=⟨hf,hk,by rw[ha],[],by rw[ha];rfl,rfl,by rw[hp];exact trivial⟩;refine Z7 (aci (abe (I:=λx c aN=>c.1=none/\x<=c.2/\∃r,SI key knd a0 c.2 r aN) (Q:=λc aN=>c.1=none/\SI key knd a0 a0.size [] aN) ?go ?out ⟨rfl,Z2 _,_,h0⟩) ?post)
 case out=>
  rintro⟨c1,lo⟩ aN ⟨e,hx,r,h⟩;dsimp only at e hx h;have hs:=h.size;have e1:lo=a0.size:=by lia
  have e2:r=[]:=abT (by lia);subst e1;subst e2;exact⟨e,h⟩
 case go=>
  rintro x c aN _ hx ⟨e,hx2,r,h⟩;refine Lf C hD h (λh1 h2=>⟨rfl,h1⟩) λn r kR n1 h2=>⟨rfl,?_,r,h2⟩;show x+1<=c.2+n;lia
 case post=>
  rintro⟨c1,lo⟩ aN ⟨e,h⟩;dsimp only at e ⊢;subst e;dsimp only;refine Z7 (aci (abe (I:=λx c aN=>c=(none,())/\SI key knd a0 a0.size [] aN/\(aaz aN).size+x<=a0.size) (Q:=λc aN=>c=(none,())/\SI key knd a0 a0.size [] aN/\(aaz aN).size<=1) ?_ ?_ ⟨rfl,h,by have:=h.few;lia⟩) ?_)
  ·rintro x c kR _ hx ⟨rfl,h2,h3⟩;unfold Ws;refine Z7 (ae1 ?_);by_cases c:(aaz kR).size<=1
   ·rw[hV c];exact aad ⟨rfl,h2,c⟩
   ·rw[hU c];refine Z7 (h2.merge C hD (Lg c) λF7 h4 h5=>?_);rw[hU (by decide)];exact aad ⟨rfl,h4,by lia⟩
  ·rintro c kR ⟨rfl,h2,h3⟩;exact⟨rfl,h2,by lia⟩
  ·rintro c kR ⟨rfl,h2,h3⟩;refine aad (q kR h2.failed h2.perm ?_);obtain⟨gs,e,l,p⟩:=h2.segs;rw[e,aaF]
   match gs,(aaz kR).toList,p,(show (aaz kR).toList.length<=1 by rw[ZR];exact h3) with
   | [],_,_,_=>exact List.Pairwise.nil
   | [g],[e1],p,_=>
    rw[aaS,List.flatten_nil,aaF];exact p.2.2.2.1
   |g::g2::gs,[e1],p,_=>exact p.2.2.2.2.elim
   |g::gs,e1::e2::es,p,hl=>exact absurd hl (by simp)
end
end Hc.Ts
namespace Hc.Ts
section
variable {A:aaD}{O:afd}{key:aam->O.α}{knd:adp}{D:aam->Prop}
theorem uo {vs:List ZO}(h:l.Perm (vs.zip vs)):(l.map (·.2)).Perm vs/\∀p∈l,p=(p.2,p.2):=by
 have e:(vs.zip vs).map (·.2)=vs:=by
  induction vs with
  |nil=>rfl
  |cons v r ih=>rw[adE,Z_,List.map_snd_zip (by simp)]
 refine⟨by have:=h.map (·.2);rwa [e] at this,λp hp=>?_⟩;have hp:=h.mem_iff.mp hp;clear h e
 induction vs with
 |nil=>cases hp
 |cons v r ih=>
  rw[adE,Z4] at hp;rcases hp with hp|hp
  ·subst hp;rfl
  ·exact ih hp
theorem Fh {vs:List ZO}{P:Fin->Z8->Prop}(ho:s.heap.get? a=some (aeR "list" vs.toArray n))(hz:vs.length<=1000000)(hk:2<=vs.length->∀(h6:acj) (Q:adp->Z8->Prop),(∀b o,b≠a->s.heap.get? b=some o->h6.get? b=some o)->Q knd {s with heap:=h6}->aac (aar prog w) A (keyKind' vs.toArray) Q E {s with heap:=h6})(hC:2<=vs.length->∀h6:acj,(∀b o,b≠a->s.heap.get? b=some o->h6.get? b=some o)->lx (aar prog w) A E {s with heap:=h6} O key knd D)(hD:∀v∈vs,D (v,v))(h:∀out:List ZO,out.Perm vs->out.Pairwise (λx y=>O.kle (key (x,x)) (key (y,y)))->P (.done (.ret .none)) {s with heap:=sortedHeap s.heap a vs out.toArray}) :
  aac (aar prog w) A (Builtin.«list.sort» ⟨[.ref a],[]⟩) P E s:=by
 have ym:vs.length<=ZY:=by rw[abG];lia
 have la:a<s.heap.objs.size:=Z9 ho;rw[list_sort_plain];refine ZL (listItems_at ho rfl (ZL (listUpdate_at ho rfl ?_ (hsz:=by rw[ZU];exact ym))));obtain⟨e1,o1⟩:∃e1,(s.heap.update a (ac4 λ_=>#[])).get? a=some (aeR "list" #[] e1):=⟨_,get?_update_seq ho (λ_=>#[])⟩;refine ZL (seqEpoch_at o1 rfl (ZL (wpAny_newTuple (ZL (wpAny_newList (abi ?_))) (by simpa using ym))));have kp:∀b o,b≠a->s.heap.get? b=some o->(((s.heap.update a (ac4 λ_=>#[])).push (aeR "tuple" vs.toArray 0)).push (aeR "list" #[] 0)).get? b=some o:=λb o hb e=>
  ZP _ (ZP _ ((Heap.get?_update_ne _ _ _ _ hb).trans e))
 have o6:(((s.heap.update a (ac4 λ_=>#[])).push (aeR "tuple" vs.toArray 0)).push (aeR "list" #[] 0)).get? a=some (aeR "list" #[] e1):=ZP _ (ZP _ o1);change aac (aar prog w) A _ P E {s with heap:=((s.heap.update a (ac4 λ_=>#[])).push (aeR "tuple" vs.toArray 0)).push (aeR "list" #[] 0)};dsimp only;have fin:∀aN:aal,adq aN=none->(aaC aN).toList.Perm (pairsOf vs).toList->iQ key (aaC aN).toList->aac (aar prog w) A (do
   let touched:=(←seqEpoch a) != e1
   Builtin.List.listUpdate (.ref a) λ_=>(aaC aN).map (·.2)
   if let some e:=adq aN then rule "list.sort.comparison-raised";throw e
   if touched then rule "list.sort.modified";raiseError "ValueError" "list modified during sort"
   ret .none) P E {s with heap:=((s.heap.update a (ac4 λ_=>#[])).push (aeR "tuple" vs.toArray 0)).push (aeR "list" #[] 0)}:=by
  intro aN f1 f2 f3;rw[pairsOf_toList] at f2;obtain⟨m1,m2⟩:=uo f2;refine ZL (seqEpoch_at o6 rfl (ZL (listUpdate_at o6 rfl ?_ (hsz2:=by
   rw[Array.size_map,←ZR,f2.length_eq,List.length_zip,Nat.min_self];lia))))
  rw[f1];simp only[bne_self_eq_false,aau,if_false];refine ZN ?_;have e:(aaC aN).map (·.2)=((aaC aN).toList.map (·.2)).toArray:=by apply Array.ext';simp
  rw[e];refine h _ m1 (abJ.mpr (acB (λ{x y} hx hy r=>?_) f3));rw[←m2 x hx,←m2 y hy];exact r
 by_cases h2:vs.length<2
 ·rw[hV (by rw[ZU];exact h2),hV (by rw[ZU];exact h2)];refine ZL (ZN ?_);rw[StateT.run_pure];refine ZL (ZN ?_);refine fin (SortSt.mk' general' (vs.toArray.zip vs.toArray) #[] 7 none) rfl (abh _) ?_;change iQ key (pairsOf vs).toList;rw[pairsOf_toList]
  match vs,h2 with
  | [],_=>exact List.Pairwise.nil
  | [v],_=>exact aaU _ _
  |_::_::_,h2=>exact absurd h2 (by simp)
 ·rw[hU (by rw[ZU];exact h2),hU (by rw[ZU];exact h2)];refine ZL (hk (by lia) _ _ kp ?_);refine ZL (aa6 (xw (hC (by lia) _ kp) (a0:=pairsOf vs) (λp hp=>?_) (st:=SortSt.mk' knd (vs.toArray.zip vs.toArray) #[] 7 none) rfl rfl rfl rfl
   (Q:=λ_ aN=>adq aN=none/\(aaC aN).toList.Perm (pairsOf vs).toList/\iQ key (aaC aN).toList) λaN a1 a2 a3=>⟨a1,a2,a3⟩) ?_ λ_ _ e=>e)
  ·rw[pairsOf_toList] at hp;obtain⟨m1,m2⟩:=uo (abh (vs.zip vs));rw[m2 p hp];exact hD _ (m1.mem_iff.mp (ab6 hp))
  ·rintro⟨⟨⟩,aN⟩ s' ⟨rfl,f1,f2,f3⟩;exact fin aN f1 f2 f3
end
end Hc.Ts
namespace Hc.Ts
open PySem.W
noncomputable def fy:List Int->List Int->Bool
 | [],[]=>false
 | [],_::_=>true
 |_::_,[]=>false
 |x::xs,y::ys=>if x=y then fy xs ys else decide (x<y)
theorem j7:∀a,fy a a=false
 | []=>rfl
 |x::xs=>by unfold fy;rw[hV rfl];exact j7 xs
theorem lT:∀a b c,fy a b=true->fy b c=true->fy a c=true
 | [],[],_,h,_=>by cases h
 | [],_::_,[],_,h=>by cases h
 | [],_::_,_::_,_,_=>rfl
 |_::_,[],_,h,_=>by cases h
 |_::_,_::_,[],_,h=>by cases h
 |x::xs,y::ys,z::zs,h1,h2=>by
  unfold fy at h1 h2 ⊢;by_cases e1:x=y
  ·subst e1;rw[hV rfl] at h1;by_cases e2:x=z
   ·subst e2;rw[hV rfl] at h2 ⊢;exact lT xs ys zs h1 h2
   ·rw[hU e2] at h2 ⊢;exact h2
  ·rw[hU e1] at h1;have h1:=of_decide_eq_true h1;by_cases e2:y=z
   ·subst e2;rw[hU e1];exact hG h1
   ·rw[hU e2] at h2;have h2:=of_decide_eq_true h2;rw[hU (by lia)];exact hG (by lia)
theorem rF:∀a b c,fy a c=true->fy a b=true\/fy b c=true
 | [],[],_::_,_=>.inr rfl
 | [],_::_,_::_,_=>.inl rfl
 | [],_,[],h=>by cases h
 |_::_,_,[],h=>by cases h
 |_::_,[],_::_,_=>.inr rfl
 |x::xs,y::ys,z::zs,h=>by
  unfold fy at h ⊢;by_cases e:x=z
  ·subst e;rw[hV rfl] at h;by_cases e2:x=y
   ·subst e2;rw[hV rfl,hV rfl];exact rF xs ys zs h
   ·rw[hU e2,hU (λq=>e2 q.symm),decide_eq_true_eq,decide_eq_true_eq];lia
  ·rw[hU e] at h;have h:=of_decide_eq_true h;by_cases e2:x=y
   ·subst e2;exact .inr (by rw[hU e];exact hG h)
   ·by_cases e3:y=z
    ·subst e3;exact .inl (by rw[hU e];exact hG h)
    ·rw[hU e2,hU e3,decide_eq_true_eq,decide_eq_true_eq];lia
theorem iA:∀a b,fy a b=false->fy b a=false->a=b
 | [],[],_,_=>rfl
 | [],_::_,h,_=>by cases h
 |_::_,[],_,h=>by cases h
 |x::xs,y::ys,h1,h2=>by
  unfold fy at h1 h2;by_cases e:x=y
  ·subst e;rw[hV rfl] at h1 h2;rw[iA xs ys h1 h2]
  ·rw[hU e] at h1;rw[hU (λq=>e q.symm)] at h2;have h1:=of_decide_eq_false h1;have h2:=of_decide_eq_false h2;lia
noncomputable def Hn:afd:=⟨List Int,fy,j7,lT,rF,iA⟩
noncomputable def vv (h:acj)(v:ZO):List Int:=match v with
 | .ref a=>match h.get? a with
  |some o=>match o.data with
   | .seq its _=>its.toList.map numOf
   |_=>[]
  |none=>[]
 |_=>[]
def xx (h:acj)(v:ZO):Prop:=∃a its ns,v=.ref a/\h.IsTuple a its/\abW its.toList ns/\ns≠[]
theorem xy:∀{vs:List ZO} {ns:List Int},abW vs ns->vs.map numOf=ns
 |_,_,.nil=>rfl
 |_,_,.cons n t r=>by rw[Z_,xy r];rfl
theorem mP {its:Array ZO}(t:h.IsTuple a its)(i:abW its.toList ns):vv h (.ref a)=ns:=by
 obtain⟨o,e,_,n,d⟩:=t;unfold vv;dsimp only;rw[e];dsimp only;rw[d];exact xy i
section
variable {A:aaD}{b fin:Bool}{Q:Bool->Z8->Prop}
theorem xA:∀{xs ys:List ZO} {ns ms:List Int} {i:Nat},abW xs ns->abW ys ms->fin=decide (ns.length<ms.length)->Q (fy ns ms) s->KatLex prog w A b fin Q (xs.zip ys) i s
 |_,_,_,_,i,.nil,.nil,hf,h=>by subst hf;exact kat_nil h
 |_,_,_,_,i,.nil,.cons m t r,hf,h=>by subst hf;exact kat_nil (by rw[show decide (([]:List Int).length<(m::_).length)=true from hG (by simp)];exact h)
 |_,_,_,_,i,.cons n t r,.nil,hf,h=>by subst hf;exact kat_nil (by rw[show decide ((n::_).length<([]:List Int).length)=false from hJ (by simp)];exact h)
 |_,_,_,_,i,.cons n t r,.cons m u q,hf,h=>by
  refine kat_cons (wpAny_eqBool_int ?_);unfold fy at h;by_cases e:n=m
  ·subst e;rw[hV rfl] at h;rw[beq_self_eq_true];refine kat_yes (xA r q ?_ h);rw[hf];simp
  ·rw[hU e] at h;rw[show (n==m)=false from beq_eq_false_iff_ne.mpr e];refine kat_no ?_;cases hb:(b&&i==0) with
   |true=>exact oneLt_int h
   |false=>exact kat_one _ _ (lt_int h)
theorem Ho {hp:acj}(keep:∀v,xx hp v->xx s.heap v/\vv s.heap v=vv hp v):lx (aar prog w) A E s Hn (λx=>vv hp x.1) (tuples' true) (λx=>xx hp x.1) where
 lt:=λx y st Q dx dy kd q=>by
  obtain⟨k1,k2⟩:=keep _ dx;obtain⟨k3,k4⟩:=keep _ dy;obtain⟨a,xs,ns,e1,t1,i1,_⟩:=k1;obtain⟨c,ys,ms,e2,t2,i2,_⟩:=k3;rw[←k2,←k4,e1,e2,mP t1 i1,mP t2 i2] at q;rw[lt'_eq];refine Z7 (ae1 ?_);rw[kd,e1,e2];obtain⟨o1,g1,_,n1,d1⟩:=t1;obtain⟨o2,g2,_,n2,d2⟩:=t2;refine Z7 (wpS_lift (acH (kat_lt g1 d1 g2 d2 (xA i1 i2 ?_ ⟨rfl,?_⟩))))
  ·rw[←i1.length,←i2.length,ZR,ZR]
  ·exact aad q
end
end Hc.Ts
namespace Hc.Dw
open PySem.W PySem.Calls
section
variable {A:aaD}{d r I:Z5}
theorem Lh (hh:A.handled=none)(JK:d≠I):Walks prog w A I [I,d] [I] ds.size (λi v=>∃e,ds[i]? = some e/\v=e.key) (λi h=>h.IsKeyIter I d i ds.size ep/\nK h d ds ep) where
 sub:=λb hb=>by simp at hb;simp[hb]
 frame:=λ_ _ _ st hk=>⟨st.1.at λo e=>hk I (by simp) o e,st.2.at λo e=>hk d (by simp) o e⟩
 item:=λi s Q E hi st hQ=>NN st.1 st.2 hi λh' t' sb=>hQ _ h' s.toks ⟨_,getElem?_pos ds i hi,rfl⟩ ⟨t',st.2.at λo e=>sb.extBut _ _ JK e⟩ λb o hb e=>sb.extBut b o (λh=>hb (by simp[h])) e
 done:=λs Q E st hQ=>NO hh st.1 st.2 (Z2 _) λh' eb=>hQ h' s.toks λb o hb e=>eb b o (λh=>hb (by simp[h])) e
 self:=λ_ _ _ _ st hQ=>wpAny_pyIter_keyiter st.1 hQ
theorem NT (lo:(d==abZ)=false):KdlSrc prog w "dict" d d ds.size (λi v=>∃e,ds[i]? = some e/\v=e.key) (λh=>nK h d ds ep) where
 type:=λ_ hm=>hm.ty
 there:=λ_ hm=>⟨hm.lt,hm.lt⟩
 keep:=λ_ _ hm hk=>hm.at λo e=>hk d (.inl rfl) o e
 notList:=by decide
 notTuple:=by decide
 hint:=λ_ _ _ _ hm hq=>kdl_hint_dict hm.ty hq
 iter:=λ_ s hh hm=>⟨_,_,(λ_ _ hq=>NM lo hm hq),Lh hh (aaq hm.lt),⟨⟨_,Z3 _ rfl,rfl,rfl⟩,hm.at λo e=>ZP _ e⟩⟩
theorem j8 {T:String}{P:Nat->ZO->Prop}{OK:acj->Prop}(K:KdlSrc prog w T r d n P OK)(hh:A.handled=none)(hok:OK s.heap)(hn:n<=ZY){Q:List ZO->Z8->Prop}(q:∀h' tk cN,(∀b o,s.heap.get? b=some o->h'.get? b=some o)->ItemsOf P cN n->Q cN.toList {s with heap:=h',toks:=tk}):aac (aar prog w) A (collect (.ref r)) Q E s:=by
 have lt:=K.there _ hok;unfold collect;refine ZL (wpAny_runValue (acX PySem.F.entry_proto_collect ?_));rw[acs PySem.F.plain_proto_collect _];change aac _ A.in1 (newList [] >>= λl=>again (.builtin "list.__iadd__" ⟨[l,.ref r],[]⟩)) _ _ s;refine ZL (aaG (ZN ⟨plainId_quiet PySem.F.plain_list_iadd _,acX PySem.F.entry_list_iadd ?_⟩));rw[acs PySem.F.plain_list_iadd _];have hS:(s.heap.push {cls:=.type "list",data:=.seq ([]:List ZO).toArray}).get? s.heap.objs.size=some {cls:=.type "list",data:=.seq #[] 0}:=Z3 _ rfl;change aac _ A.in1 (Builtin.List.listExtendWith (.ref s.heap.objs.size) (.ref r) (.ref s.heap.objs.size)) _ _ _;refine kdl_extend (A:=A) (R:=λx s'=>match x with
  | .ok (.ret v)=>aac (aar prog w) A (match v with
   | .ref a=>do match (←load a).data with
    | .seq xs _=>pure xs.toList
    |_=>adZ "internal:collect"
   |_=>adZ "internal:collect") Q E s'
  | .ok _=>False
  | .error e=>E e s') (s:={s with heap:=s.heap.push {cls:=.type "list",data:=.seq ([]:List ZO).toArray}}) K hh (K.keep _ _ hok λb _ o e=>ZP _ e) _ (acO lt.1) (acO lt.2) _ 0 hS (λh' tk cN c' k' JI FO=>?_) hn
 change aac _ A (load s.heap.objs.size >>= _) _ _ _;refine ZL (wpAny_load JI ?_);exact ZN (q h' tk cN (λb o e=>k' b o (aaq (Z9 e)) (ZP _ e)) FO)
end
end Hc.Dw
namespace Hc.Sy
open PySem.SetTable Hc.Sx
theorem Mi:Slot "set_iterator" "__next__" "set_iterator.__next__":=by
 refine .of (owner:="set_iterator") (n:="__next__") ?_ (by decide+kernel) (by decide+kernel) (by decide+kernel) ?_ ?_
 ·rw[typeLookup_type,builtinLookup_eq_fast];kernel_rfl
 ·first|exact .inl (by decide+kernel)|exact .inr (by decide+kernel)
 ·rw[isSubtype_type];kernel_rfl
theorem Wt:entryFor table "set_iterator.__next__"=some Builtin.«set_iterator.__next__»:=entryFor_of_tree (by kernel_rfl)
theorem Wu (a:ZO):argsOk "set_iterator.__next__" ⟨[a],[]⟩:=by unfold argsOk;kernel_rfl
theorem Wv:Slot "set_iterator" "__iter__" "set_iterator.__iter__":=by
 refine .of (owner:="set_iterator") (n:="__iter__") ?_ (by decide+kernel) (by decide+kernel) (by decide+kernel) ?_ ?_
 ·rw[typeLookup_type,builtinLookup_eq_fast];kernel_rfl
 ·first|exact .inl (by decide+kernel)|exact .inr (by decide+kernel)
 ·rw[isSubtype_type];kernel_rfl
theorem Xt:entryFor table "set_iterator.__iter__"=some Builtin.«dict_keyiterator.__iter__»:=entryFor_alias (id':="dict_keyiterator.__iter__") (by kernel_rfl) rfl (by decide+kernel) (by kernel_rfl)
theorem Xu (a:ZO):argsOk "set_iterator.__iter__" ⟨[a],[]⟩:=by unfold argsOk;kernel_rfl
theorem Xv:entryFor table "set.__iter__"=some Builtin.«frozenset.__iter__»:=entryFor_alias (id':="frozenset.__iter__") (by kernel_rfl) rfl (by decide+kernel) (by kernel_rfl)
theorem Xw (a:ZO):argsOk "set.__iter__" ⟨[a],[]⟩:=by unfold argsOk;kernel_rfl
def kZ (w:acJ)(h:acj)(a:Z5)(es:Array (Int×ZO))(ep:Nat)(t:adi):Prop:=
 ∃o,h.get? a=some o/\o.ExactSet/\o.data=.set es ep t/\t.fits es.size=true/\t.plain=true/\(yn w=true\/t.led=true)/\Nm t.place/\t.place.size=es.size
theorem kZ.at {es:Array (Int×ZO)}(x:kZ w h a es ep t)(e:∀o,h.get? a=some o->h'.get? a=some o):kZ w h' a es ep t:=by
 obtain⟨o,q,r⟩:=x;exact⟨o,e o q,r⟩
theorem kZ.ty {es:Array (Int×ZO)}(x:kZ w s.heap a es ep t):s.TypeIs (.ref a) "set":=by
 obtain⟨o,e,c,_⟩:=x;exact⟨o,e,c.1⟩
theorem kZ.lt {es:Array (Int×ZO)}(x:kZ w h a es ep t):a<h.objs.size:=by
 obtain⟨o,e,_⟩:=x;exact Z9 e
noncomputable def sR (w:acJ)(a:Z5)(ep:Nat)(es:Array (Int×ZO)):Array (Int×ZO):=if yn w=true then aff (w.params.setOrder a ep) es else es
noncomputable def eV (w:acJ)(t:adi):Nat->Nat
 |0=>0
 |i+1=>if yn w=true then 0 else t.place.getD i 0+1
noncomputable def Li (w:acJ)(a:Z5)(n ep:Nat)(t:adi)(i:Nat):Array ZO:=#[.int (eV w t i:Nat) 0,.int i 0,.ref a,.int n 0,.int ep 0]
def zA (w:acJ)(h:acj)(it a:Z5)(n ep:Nat)(t:adi)(i:Nat):Prop:=∃o,h.get? it=some o/\o.cls=.type "set_iterator"/\o.data=.fields (Li w a n ep t i)
theorem zA.at (x:zA w h it a n ep t i)(e:∀o,h.get? it=some o->h'.get? it=some o):zA w h' it a n ep t i:=by
 obtain⟨o,q,r⟩:=x;exact⟨o,e o q,r⟩
theorem fj {A:aaD}{α:Type}{b:Bool}{x y:Sem α}{Q:α->Z8->Prop}(h:b=false)(q:aac M A y Q E s):aac M A (if b=true then x else y) Q E s:=by
 rw[h,hU ZV];exact q
section
variable {A:aaD}{es:Array (Int×ZO)}
theorem NU (x:kZ w s.heap a es ep t)(q:Q (.ref s.heap.objs.size) {s with heap:=s.heap.push {cls:=.type "set_iterator",data:=.fields (Li w a es.size ep t 0)}}):aac (aar prog w) A (pyIter (.ref a)) Q E s:=by
 have ty:=x.ty;obtain⟨o,e1,e2,e3,e4,e5,e6,e7,e8⟩:=x;refine afb ty PySem.F.slot_set_iter (aaH PySem.F.slot_set_iter ty Xv ?_ (Xw _));unfold Builtin.«frozenset.__iter__» Builtin.Frozenset.slot0 slotArgs;simp only[List.isEmpty_nil,ac7,aau,↓reduceIte,bind_assoc,ab4,bne_self_eq_false];unfold Builtin.Frozenset.addrOf Builtin.Frozenset.sizeOf;refine ZL (ZN ?_)
 try dsimp only
 refine ZL (ZN ?_);refine ZL (ZL (aey e1 e3 e4 (ZN ?_)));unfold setDrawn setsByText;refine ZL (ZL (aa9 e1 e3 e4 ?_));dsimp only;refine ZL (ZL (abR (ZN (ZN ?_))));have nd:(!(w.params.followText "set-order")&&(!t.plain&&decide (es.size>1)))=false:=by rw[e5];simp
 refine fj nd ?_;refine ZL (ZN ?_);unfold setEpoch;refine ZL (ZL (aa9 e1 e3 e4 (ZN ?_)));refine ZL (aaG (ZN ⟨_,rfl,"set_iterator",_,⟨_,Z3 _ rfl,rfl⟩,Mi.lookup,?_⟩));simpa [aeH,Li,eV] using q
theorem vx {Q:Option (ZO×Nat)->Z8->Prop}(x:kZ w s.heap a es ep t)(hi:i<es.size){e:Int×ZO}(he:(sR w a ep es)[i]? = some e)(q:Q (some (e.2,eV w t (i+1))) s) :
  aac (aar prog w) A (setNext a (eV w t i) i ep) Q E s:=by
 obtain⟨o,e1,e2,e3,e4,e5,e6,e7,e8⟩:=x;unfold setNext;refine ZL (aa9 e1 e3 e4 ?_);dsimp only;unfold setsByText;refine ZL (ZL (abR (ZN ?_)));unfold sR at he;by_cases b:yn w=true
 ·rw[hV b] at he;rw[hV (show (aar prog w).w.params.followText "set-order"=true from b),hU (by simp)];unfold setWalk setsByText;refine ZL (ZL (aa9 e1 e3 e4 ?_));dsimp only;refine ZL (ZL (abR (ZN ?_)));rw[hV (show (aar prog w).w.params.followText "set-order"=true from b)];refine ZL (abR (ZN (ZN ?_)));have X7:(aff ((aar prog w).w.params.setOrder a ep) es)[i]? = some e:=he;rw[X7];have z:eV w t i=0:=by
   cases i with
   |zero=>rfl
   |succ i=>show (if yn w=true then 0 else _)=0;rw[hV b]
  have z':eV w t (i+1)=0:=by show (if yn w=true then 0 else _)=0;rw[hV b]
  rw[z'] at q;rw[z];exact q
 ·rw[hU b] at he;rw[hU (show ¬(aar prog w).w.params.followText "set-order"=true from b)];have led:t.led=true:=e6.resolve_left b;have nd:(!t.plain&&decide (es.size>1))=false:=by rw[e5];rfl
  refine fj nd ?_;refine ZL (ad0 (a:=()) (by show (if (!t.led && !es.isEmpty)=true then _ else _)=_;rw[led];rfl) (ZN ?_));have hb:below t.place (eV w t i)=i:=by
   obtain⟨b1,b2,b3⟩:=mH (j:=eV w t i) e7;rcases adY (below t.place (eV w t i)) i with z|z|z
   ·exfalso;cases i with
    |zero=>lia
    |succ i=>
     have hs:eV w t (i+1)=t.place.getD i 0+1:=by show (if yn w=true then 0 else _)=_;rw[hU b]
     have g:t.place.getD i 0=t.place[i]'(by lia):=by simp[adX,show i<t.place.size from by lia]
     have:=b2 i (by lia) (by lia);rw[hs,g] at this;lia
   ·exact z
   ·exfalso;have:=b1 i (by lia) z;cases i with
    |zero=>exact absurd this (Nat.not_lt_zero _)
    |succ i=>
     have hs:eV w t (i+1)=t.place.getD i 0+1:=by show (if yn w=true then 0 else _)=_;rw[hU b]
     have g:t.place.getD i 0=t.place[i]'(by lia):=by simp[adX,show i<t.place.size from by lia]
     have r:=(show t.place[i]'(by lia)<t.place[i+1]'(by lia) from e7 i (i+1) (by lia) (by lia) (by lia));rw[hs,g] at this;lia
  rw[hb,he,getElem?_pos t.place i (by lia)];have hs:eV w t (i+1)=t.place.getD i 0+1:=by show (if yn w=true then 0 else _)=_;rw[hU b]
  have g:t.place.getD i 0=t.place[i]'(by lia):=by simp[adX,show i<t.place.size from by lia]
  rw[hs,g] at q;exact q
theorem NV {Q:Option ZO->Z8->Prop}(k:zA w s.heap it a es.size ep t i)(x:kZ w s.heap a es ep t)(ne:it≠a)(hi:i<es.size){e:Int×ZO}(he:(sR w a ep es)[i]? = some e)
  (q:∀h',zA w h' it a es.size ep t (i+1)->abM it s.heap h'->Q (some e.2) {s with heap:=h'}):aac (aar prog w) A (aef (.ref it)) Q E s:=by
 obtain⟨oi,i1,i2,i3⟩:=k;have ty:s.TypeIs (.ref it) "set_iterator":=⟨oi,i1,i2⟩;have x0:=x;obtain⟨o,e1,e2,e3,e4,e5,e6,e7,e8⟩:=x;unfold aef;refine ZL (acH (aaK (name:=abN "__next__") ty Mi (aaH Mi ty Wt ?_ (Wu _))));unfold Builtin.«set_iterator.__next__»;refine ZL (ZN ?_);refine ZL (aeZ i1 i3 ?_);change aac _ _ (setEntries a >>= _) _ _ s;refine ZL (aey e1 e3 e4 ?_);rw[hU (by simp)];change aac _ _ (setNext a (eV w t i:Int).toNat (i:Int).toNat (ep:Int).toNat >>= _) _ _ s;rw[abl,abl,abl];refine ZL (vx x0 hi he ?_);dsimp only;change aac _ _ (setField (.ref it) 0 _ >>= _) _ _ s;refine ZL (acL i1 i3 (by simp[Li]) ?_);have W0:=abv (Obj.mapFields (·.setIfInBounds 0 (aeH (eV w t (i+1):Nat)))) i1 (acY (aby i3 _));have RS:=aby i3 (·.setIfInBounds 0 (aeH (eV w t (i+1):Nat)));change aac _ _ (setField (.ref it) 1 _ >>= _) _ _ _;refine ZL (acL W0 RS (by simp[Li]) ?_);refine ZN ⟨_,rfl,ZN (q _ ⟨_,abv _ W0 (acY (aby RS _)),(ad1 ..).trans ((ad1 ..).trans i2),?_⟩ ((aa2 ..).trans (aa2 ..)))⟩;rw[aby RS];simp[Li,aeH]
end
end Hc.Sy
namespace Hc.Sy
open PySem.SetTable Hc.Sx PySem.W
section
variable {A:aaD}{es:Array (Int×ZO)}
theorem Ba {α:Type}(next:Nat->Nat):∀(n k:Nat) (left:List α) (out:Array α),left.length=n->(pickOrder.go next n k left out).toList.Perm (out.toList++left)
 |0,k,left,out,h=>by
  have:left=[]:=abT h;subst this;unfold pickOrder.go;rw[aaF]
 |n+1,k,left,out,h=>by
  have hl:next k % left.length<left.length:=ac8 _ (by lia)
  unfold pickOrder.go;rw[ZM hl];dsimp only;refine (Ba next n (k+1) _ _ (by rw[List.length_eraseIdx_of_lt hl];lia)).trans ?_;rw[ab3,aao];refine abc _ ?_;rw[List.eraseIdx_eq_take_drop_succ,List.singleton_append];refine List.perm_middle.symm.trans ?_;rw[←aa8 hl,abd]
theorem uq {α:Type}(next:Nat->Nat)(xs:Array α):(aff next xs).toList.Perm xs.toList:=by
 have:=Ba next xs.size 0 xs.toList #[] (by simp)
 simpa [aff] using this
theorem xB:(sR w a ep es).toList.Perm es.toList:=by
 unfold sR;split
 ·exact uq _ _
 ·exact abh _
theorem xC:(sR w a ep es).size=es.size:=by
 have:=(xB (w:=w) (a:=a) (ep:=ep) (es:=es)).length_eq;simpa using this
theorem vy {Q:Option (ZO×Nat)->Z8->Prop}(x:kZ w s.heap a es ep t)(q:Q none s):aac (aar prog w) A (setNext a (eV w t es.size) es.size ep) Q E s:=by
 obtain⟨o,e1,e2,e3,e4,e5,e6,e7,e8⟩:=x;unfold setNext;refine ZL (aa9 e1 e3 e4 ?_);dsimp only;unfold setsByText;refine ZL (ZL (abR (ZN ?_)));by_cases b:yn w=true
 ·rw[hV (show (aar prog w).w.params.followText "set-order"=true from b),hU (by simp)];unfold setWalk setsByText;refine ZL (ZL (aa9 e1 e3 e4 ?_));dsimp only;refine ZL (ZL (abR (ZN ?_)));rw[hV (show (aar prog w).w.params.followText "set-order"=true from b)];refine ZL (abR (ZN (ZN ?_)));have hz:(aff ((aar prog w).w.params.setOrder a ep) es)[es.size]? = none:=by
   have:=(uq ((aar prog w).w.params.setOrder a ep) es).length_eq;rw[adT (by simpa using Nat.le_of_eq this)]
  rw[hz];exact q
 ·rw[hU (show ¬(aar prog w).w.params.followText "set-order"=true from b)];have led:t.led=true:=e6.resolve_left b;have nd:(!t.plain&&decide (es.size>1))=false:=by rw[e5];rfl
  refine fj nd ?_;refine ZL (ad0 (a:=()) (by show (if (!t.led && !es.isEmpty)=true then _ else _)=_;rw[led];rfl) (ZN ?_));have hb:es.size<=below t.place (eV w t es.size):=by
   obtain⟨b1,b2,b3⟩:=mH (j:=eV w t es.size) e7;rcases acV (below t.place (eV w t es.size)) es.size with z|z
   ·exfalso;obtain⟨m,hm⟩:∃m,es.size=m+1:=⟨es.size-1,by lia⟩;have hs:eV w t es.size=t.place.getD m 0+1:=by rw[hm];show (if yn w=true then 0 else _)=_;rw[hU b]
    have g:t.place.getD m 0=t.place[m]'(by lia):=by simp[adX,show m<t.place.size from by lia]
    have:=b2 m (by lia) (by lia);rw[hs,g] at this;lia
   ·exact z
  rw[adT hb];exact q
theorem NW {Q:Option ZO->Z8->Prop}(hh:A.handled=none)(k:zA w s.heap it a es.size ep t es.size)(x:kZ w s.heap a es ep t)
  (q:∀h',Heap.ExtBut it s.heap h'->Q none {s with heap:=h'}):aac (aar prog w) A (aef (.ref it)) Q E s:=by
 obtain⟨oi,i1,i2,i3⟩:=k;have ty:s.TypeIs (.ref it) "set_iterator":=⟨oi,i1,i2⟩;have x0:=x;obtain⟨o,e1,e2,e3,e4,e5,e6,e7,e8⟩:=x;unfold aef;refine ZL (acH (aaK (name:=abN "__next__") ty Mi (aaH Mi ty Wt ?_ (Wu _))));unfold Builtin.«set_iterator.__next__»;refine ZL (ZN ?_);refine ZL (aeZ i1 i3 ?_);change aac _ _ (setEntries a >>= _) _ _ s;refine ZL (aey e1 e3 e4 ?_);rw[hU (by simp)];change aac _ _ (setNext a (eV w t es.size:Int).toNat (es.size:Int).toNat (ep:Int).toNat >>= _) _ _ s;rw[abl,abl,abl];refine ZL (vy x0 ?_);dsimp only;change aac _ _ (setField (.ref it) 2 .none >>= _) _ _ s;refine ZL (acL i1 i3 (by simp[Li]) ?_);change aac _ _ (newExc (.type "StopIteration") [] >>= _) _ _ _;refine ZL ?_;simp only[newExc,newTuple];refine ZL (aaG (hd:=by size_fits) ?_);refine ZL (m:=adg _ _) (ad0 (a:=Value.none) (by first|rfl|(simp only[adg];rfl)) (aaG (hd:=by size_fits) ?_));simp only[raiseNew];refine ZL (wpAny_handled ?_);rw[show A.in1.handled=none from hh];refine ZL (ZN (wpAny_throw ?_));refine ZL (adl (b:=true) (T:="StopIteration") ⟨_,Z3 _ rfl,rfl⟩ isSubtype_stop ?_);exact ZN (q _ (((aa2 ..).extBut.push _).push _))
theorem Lj (hh:A.handled=none)(JK:a≠it):Walks prog w A it [it,a] [it] es.size (λi v=>∃e,(sR w a ep es)[i]? = some e/\v=e.2) (λi h=>zA w h it a es.size ep t i/\kZ w h a es ep t) where
 sub:=λb hb=>by simp at hb;simp[hb]
 frame:=λ_ _ _ st hk=>⟨st.1.at λo e=>hk it (by simp) o e,st.2.at λo e=>hk a (by simp) o e⟩
 item:=λi s Q E hi st hQ=>by
  have we:i<(sR w a ep es).size:=by rw[xC];exact hi
  exact NV st.1 st.2 (Ne.symm JK) hi (getElem?_pos _ i we) λh' t' sb=>hQ _ h' s.toks ⟨_,getElem?_pos _ i we,rfl⟩ ⟨t',st.2.at λo e=>sb.extBut _ _ JK e⟩ λb o hb e=>sb.extBut b o (λh=>hb (by simp[h])) e
 done:=λs Q E st hQ=>NW hh st.1 st.2 λh' eb=>hQ h' s.toks λb o hb e=>eb b o (λh=>hb (by simp[h])) e
 self:=λi s Q E st hQ=>by
  obtain⟨oi,i1,i2,i3⟩:=st.1;have ty:s.TypeIs (.ref it) "set_iterator":=⟨oi,i1,i2⟩;refine afb ty Wv (aaH Wv ty Xt ?_ (Xu _));change aac _ _ (ret (.ref it)) _ _ s;exact ZN ⟨_,rfl,"set_iterator",_,ty,Mi.lookup,hQ⟩
theorem NY {Q:Bool->Z8->Prop}(hT:s.TypeIs (.ref a) "set")(h:Q false s):aac (aar prog w) A (aez (.ref a)) Q E s:=by
 unfold aez;refine ZL (acS hT PySem.F.slot_set_len.lookup ?_);generalize hid:("set.__len__":String)=id0
 wp_delta
 rw[show splitId id0=some ("set","__len__") from by subst hid;decide+kernel];subst hid;refine ZL (adl (T:="set") (b:=true) hT (by rw[isSubtype_type];kernel_rfl) ?_);refine wpAny_ite_split (λuN=>absurd uN (by decide)) (λ_=>?_);refine wpAny_ite_split (λ_=>?_) (λuN=>absurd (by decide+kernel) uN);refine ZL (aeP hT ?_);exact ZN h
theorem QU:KdlSrc prog w "set" a a es.size (λi v=>∃e,(sR w a ep es)[i]? = some e/\v=e.2) (λh=>kZ w h a es ep t) where
 type:=λ_ hm=>hm.ty
 there:=λ_ hm=>⟨hm.lt,hm.lt⟩
 keep:=λ_ _ hm hk=>hm.at λo e=>hk a (.inl rfl) o e
 notList:=by decide
 notTuple:=by decide
 hint:=λ_ _ _ _ hm hq=>NY hm.ty hq
 iter:=λ_ s hh hm=>⟨_,_,(λ_ _ hq=>NU hm hq),Lj hh (aaq hm.lt),⟨⟨_,Z3 _ rfl,rfl,rfl⟩,hm.at λo e=>ZP _ e⟩⟩
end
end Hc.Sy
namespace Hc.Sy
open PySem.SetTable Hc.Sx PySem.W
noncomputable abbrev tI (prog:ack)(w:acJ):adK prog w (List Int):=tupleKind (aeW prog w)
section
variable {A:aaD}
theorem rG {α β:Type}(f:α->β->Sem (ForInStep β))(b:β)(xs:Array α)(h:∀x∈xs.toList,f x b=pure (.yield b)):forIn xs b f=pure b:=by
 rw[←aeS];generalize xs.toList=l at h
 induction l with
 |nil=>rfl
 |cons x l ih=>
  rw[adI,h x ZS,pure_bind];exact ih λy hy=>h y (ZX _ hy)
theorem Jq {its:Array ZO}{o:Obj}{Q:Option (Array ZO)->Z8->Prop}(e1:s.heap.get? a=some o)(e3:o.data=.seq its n)(q:Q (some its) s):aac (aar prog w) A (seqItems? (.ref a)) Q E s:=by
 unfold seqItems?;refine ZL (wpAny_load e1 ?_);rw[e3];exact ZN q
theorem rH {ks:List Int}{vs:List ZO}(h:ItemsAre (aeW prog w) ks vs):∀v∈vs,∃n t,v=.int n t:=by
 induction h with
 |nil=>intro v hv;cases hv
 | @cons k v' ks vs h1 _ ih=>
  intro v hv;rcases Z4.mp hv with rfl|hv
  ·obtain⟨t,rfl⟩:=Value.isInt_shape h1;exact⟨k,t,rfl⟩
  ·exact ih v hv
theorem Xx:oj (tI prog w) where
 cls:=λ{A E s k a Q} hk q=>by
  obtain⟨o,its,n,e1,e2,e3,e4⟩:=hk;have ty:s.TypeIs (.ref a) "tuple":=⟨o,e1,e2⟩;unfold ofAClassStatement;refine ZL (aeP ty ?_);change aac _ _ (pure true >>= _) _ _ s;refine ZL (ZN ?_);change aac _ _ (seqItems? (.ref a) >>= _) _ _ s;refine ZL (Jq e1 e3 ?_);dsimp only;rw[rG]
  ·exact ZL (ZN (ZN q))
  ·intro x hx;obtain⟨n,t,rfl⟩:=rH e4 x hx;rfl
 byv:=λ{A E s k a Q} hk q=>by
  obtain⟨o,its,n,e1,e2,e3,e4⟩:=hk;have ty:s.TypeIs (.ref a) "tuple":=⟨o,e1,e2⟩;unfold hashByValue;refine ZL (acS ty PySem.F.slot_tuple_hash.lookup ?_);change aac _ _ (seqItems? (.ref a) >>= _) _ _ s;refine ZL (Jq e1 e3 ?_);dsimp only[Option.getD];rw[rG]
  ·exact ZL (ZN (ZN q))
  ·intro x hx;obtain⟨n,t,rfl⟩:=rH e4 x hx;rfl
 kept:=λ{h h' k a d o es ep t} hk ho hd hs=>by
  obtain⟨o1,its,n,e1,e2,e3,e4⟩:=hk;have ne:a≠d:=λz=>by
   subst z;rw[e1] at ho;cases ho;rw[e3] at hd;cases hd
  exact⟨o1,its,n,hs.extBut _ _ ne e1,e2,e3,e4⟩
end
end Hc.Sy
namespace L2
open Hc.Dw Hc.Ts
noncomputable def NZ:V->Int
 | .int i=>i
 |_=>0
noncomputable def cD (H:Hp)(b:Z5):List Int:=match H b with
 |some (.tup xs)=>xs.map NZ
 |_=>[]
theorem xD (ns:List Int):(ns.map V.int).map NZ=ns:=by
 induction ns with
 |nil=>rfl
 |cons n r ih=>rw[Z_,Z_,ih];rfl
def Cc (K:ZQ)(H:Hp)(p:Z5)(bs:List Z5):Prop:=fS K H p (bs.map V.ref)\/gz K H p (bs.map V.ref)\/∃ep es,H p=some (DN p ep es)/\es.map (·.2.1)=bs
theorem gg:∀{bs:List Z5} {its:List ZO},bh (bs.map V.ref) its->its=bs.map Value.ref
 | [],_,.nil=>rfl
 |b::bs,_,.cons r t=>by rw[Z_,gg t];cases r;rfl
theorem ur:∀(bs:List Z5),bh (bs.map V.ref) (bs.map Value.ref)
 | []=>.nil
 |b::bs=>.cons rfl (ur bs)
theorem uu {bs:List Z5}{out:List ZO}(h:out.Perm (bs.map Value.ref)):∃ig:List Z5,out=ig.map Value.ref/\ig.Perm bs:=by
 let g:ZO->Z5:=λv=>match v with
  | .ref a=>a
  |_=>0
 refine⟨out.map g,?_,?_⟩
 ·rw[abC]
  conv=>lhs;rw[←List.map_id out]
  apply acI;intro v hv;obtain⟨b,_,rfl⟩:=aaP.mp (h.mem_iff.mp hv);rfl
 ·have:=h.map g;rw[abC] at this;have e:bs.map (g∘Value.ref)=bs:=by
   conv=>rhs;rw[←List.map_id bs]
   apply acI;intro b _;rfl
  rw[e] at this;exact this
theorem Hq (I:aJ X pins σ H s)(h:H b=some (.tup (ns.map V.int)))(n:ns≠[]):xx s.heap (.ref b)/\vv s.heap (.ref b)=cD H b:=by
 obtain⟨_,its,rv,it,_⟩:=I.hok b _ h;have ia:=dZ rv;refine⟨⟨b,its.toArray,ns,rfl,it,by simpa using ia,n⟩,?_⟩;rw[mP it (by simpa using ia)];unfold cD;rw[h];exact (xD ns).symm
theorem uv {v:ZO}(t:xx h v)(k:∀b its,h.IsTuple b its->h'.IsTuple b its):xx h' v/\vv h' v=vv h v:=by
 obtain⟨a,its,ns,rfl,q,i,n⟩:=t;refine⟨⟨a,its,ns,rfl,k a its q,i,n⟩,?_⟩;rw[mP q i,mP (k a its q) i]
theorem Bb {h:acj}:∀{vs:List ZO},(∀v∈vs,xx h v)->∃fs,PySem.W.KatTups h vs fs/\fs.length=vs.length/\∀f∈fs,∃n t,f=.int n t
 | [],_=>⟨[],.nil,rfl,λf hf=>by cases hf⟩
 |v::vs,hv=>by
  obtain⟨fs,k1,k2,k3⟩:=Bb (vs:=vs) λu hu=>hv u (ZX _ hu);obtain⟨a,its,ns,rfl,⟨o,e,c,n,d⟩,i,ne⟩:=hv v ZS;have:∃m t r,its.toList=.int m t::r:=by
   generalize its.toList=l at i;cases i with
   |nil=>exact absurd rfl ne
   |cons m t r=>exact⟨m,t,_,rfl⟩
  obtain⟨m,t,r,el⟩:=this;refine⟨.int m t::fs,.cons e c d (by rw[←aaa,el];rfl) k1,by rw[ZT,ZT,k2],λf hf=>?_⟩;rcases Z4.mp hf with rfl|hf
  ·exact⟨m,t,rfl⟩
  ·exact k3 f hf
noncomputable def N0:ZO->Z5
 | .ref a=>a
 |_=>0
theorem rJ {O:afd}{bs:List Z5}{Q:VK}(kf:Z5->O.α)(knd:adp)(I:aJ X pins σ H s)(hz:bs.length<=1000000)(hu:X.A.units+64<abH)(kk:∀(A:aaD) (E:ZO->Z8->Prop) (jc:List Z5) (s6:Z8) (Q6:adp->Z8->Prop),jc.Perm bs->2<=jc.length->(∀b o,s.heap.get? b=some o->s6.heap.get? b=some o)->Q6 knd s6->aac (aar X.prog X.w) A (keyKind' (jc.map Value.ref).toArray) Q6 E s6)(kc:2<=bs.length->∀(A:aaD) (E:ZO->Z8->Prop) (s6:Z8),A.units<abH->(∀b o,s.heap.get? b=some o->s6.heap.get? b=some o)->lx (aar X.prog X.w) A E s6 O (λx=>kf (N0 x.1)) knd (λx=>∃b∈bs,x.1=.ref b))(OQ:∀(Q:List ZO->Z8->Prop) (E:ZO->Z8->Prop),(∀h1 tk (jc:List Z5),jc.Perm bs->(∀b o,s.heap.get? b=some o->h1.get? b=some o)->Q (jc.map Value.ref) {s with heap:=h1,toks:=tk})->aac (aar X.prog X.w) X.A.in1 (collect (.ref p)) Q E s)(q:∀(l:Z5) (ig:List Z5),H l=none->ig.Perm bs->ig.Pairwise (λx y=>O.blt (kf y) (kf x)=false)->Q (.ref l) (c_ H l (.lst (ig.map V.ref)))) :
  aac (aar X.prog X.w) X.A (call (.builtin "sorted") [.ref p]) (EP X pins σ Q) X.xe s:=by
 refine aeX kind_sorted plain_sorted entry_sorted (args_sorted1 _) ?_;unfold Builtin.«sorted»;refine ZL (m:=checkCount "sorted" 1 1 _) (ZN ?_);refine ZL (OQ _ _ λh1 tk jc Bs k1=>?_);have hz:jc.length<=1000000:=by rw[Bs.length_eq];exact hz
 have ym:jc.length<=ZY:=by rw[abG];lia
 have I1:aJ X pins σ H {s with heap:=h1,toks:=tk}:=I.kept (t':=tk) k1;refine ZL (wpAny_newList ?_ (by rw[ZW];exact ym));have LP:(h1.push {cls:=.type "list",data:=.seq (jc.map Value.ref).toArray}).get? h1.objs.size=some (aeR "list" (jc.map Value.ref).toArray 0):=Z3 _ rfl;have kt:∀(h6:acj),(∀b o,b≠h1.objs.size->(h1.push {cls:=.type "list",data:=.seq (jc.map Value.ref).toArray}).get? b=some o->h6.get? b=some o)->∀b o,s.heap.get? b=some o->h6.get? b=some o:=λh6 k6 b o e=>
  k6 b o (aaq (Z9 (k1 b o e))) (ZP _ (k1 b o e))
 refine ZL (abi (aaH slot_list_sort ⟨_,LP,rfl⟩ entry_list_sort (Fh (s:={s with heap:=h1.push {cls:=.type "list",data:=.seq (jc.map Value.ref).toArray},toks:=tk}) (O:=O) (key:=λx=>kf (N0 x.1)) (knd:=knd) (D:=λx=>∃b∈bs,x.1=.ref b) LP (by rw[ZW];exact hz)
  (λh2 h6 Q6 k6 q6=>kk _ _ jc _ _ Bs (by rw[ZW] at h2;exact h2) (kt h6 k6) q6) (λh2 h6 k6=>kc (by rw[ZW] at h2;rw[←Bs.length_eq];exact h2) _ _ _ (by show X.A.units+1+1<abH;lia) (kt h6 k6)) (λv hv=>by
   obtain⟨b,hb,rfl⟩:=aaP.mp hv;exact⟨b,Bs.mem_iff.mp hb,rfl⟩) λout hp hw=>⟨_,rfl,?_⟩) (args_list_sort _)))
 obtain⟨ig,e,Bq⟩:=uu hp;subst e;obtain⟨ee,he⟩:=sortedHeap_at (out:=(ig.map Value.ref).toArray) LP;have keep:∀b o,h1.get? b=some o->(sortedHeap (h1.push {cls:=.type "list",data:=.seq (jc.map Value.ref).toArray}) h1.objs.size (jc.map Value.ref) (ig.map Value.ref).toArray).get? b=some o:=λb o e=>by
  have hb:=Z9 e;rw[sortedHeap_old (aaq hb) (by rw[abg];exact ab1 hb)];exact ZP _ e
 have LO:(ig.map V.ref).length<=ZY:=by rw[ZW,Bq.length_eq];exact ym
 refine ZN ⟨_,rfl,.ref h1.objs.size,_,I1.laid (t':=tk) keep (Z2 _) (show dX X.prog X.w _ _ _ (.lst _) from ⟨LO,ig.map Value.ref,ee,ur ig,by simpa using he⟩),rfl,q _ ig (I1.hok.fresh (Z2 _)) (Bq.trans Bs) ?_⟩;exact abJ.mp hw
theorem oO {bs:List Z5}{Q:VK}(I:aJ X pins σ H s)(hz:bs.length<=1000000)(hu:X.A.units+64<abH)(tu:∀b∈bs,∃ns:List Int,H b=some (.tup (ns.map V.int))/\ns≠[])(OQ:∀(Q:List ZO->Z8->Prop) (E:ZO->Z8->Prop),(∀h1 tk (jc:List Z5),jc.Perm bs->(∀b o,s.heap.get? b=some o->h1.get? b=some o)->Q (jc.map Value.ref) {s with heap:=h1,toks:=tk})->aac (aar X.prog X.w) X.A.in1 (collect (.ref p)) Q E s)(q:∀(l:Z5) (ig:List Z5),H l=none->ig.Perm bs->ig.Pairwise (λx y=>fy (cD H y) (cD H x)=false)->Q (.ref l) (c_ H l (.lst (ig.map V.ref)))) :
  aac (aar X.prog X.w) X.A (call (.builtin "sorted") [.ref p]) (EP X pins σ Q) X.xe s:=by
 have tI:∀b∈bs,xx s.heap (.ref b)/\vv s.heap (.ref b)=cD H b:=λb hb=>by
  obtain⟨ns,e,ne⟩:=tu b hb;exact Hq I e ne
 have kt:∀(h6:acj),(∀b o,s.heap.get? b=some o->h6.get? b=some o)->∀b its,s.heap.IsTuple b its->h6.IsTuple b its:=λh6 k6 b its ⟨o,e,z⟩=>⟨o,k6 b o e,z⟩;refine rJ (O:=Hn) (cD H) (tuples' true) I hz hu (λA E jc s6 Q6 Bs h2 k6 q6=>?_) (λ_ A E s6 hA k6=>?_) OQ q
 ·obtain⟨fs,f1,f2,f3⟩:=Bb (h:=s6.heap) (vs:=jc.map Value.ref) λv hv=>by
   obtain⟨b,hb,rfl⟩:=aaP.mp hv;exact (uv (tI b (Bs.mem_iff.mp hb)).1 (kt _ k6)).1
  exact PySem.W.kat_kind (T:=.type "int") f1 (by rw[f2,ZW];lia) (λv hv=>by
   obtain⟨n,t,rfl⟩:=f3 v hv;exact PySem.W.Looks.of_pure rfl) (by decide) q6
 ·have c:=Ho (prog:=X.prog) (w:=X.w) (A:=A) (E:=E) (s:=s6) (hp:=s.heap) λv hv=>uv hv (kt _ k6);refine⟨λx y st Q dx dy kd qq=>?_⟩;obtain⟨b,hb,e1⟩:=dx;obtain⟨d,hd,e2⟩:=dy;refine c.lt x y st Q (by rw[e1];exact (tI b hb).1) (by rw[e2];exact (tI d hd).1) kd ?_;rw[e1,e2,(tI b hb).2,(tI d hd).2];rw[e1,e2] at qq;exact qq
theorem vz (hc:X.calm=true)(hu:X.A.units+64<abH):eU X (.builtin "sorted") (λxs H Q=>∃(p:Z5) (bs:List Z5),xs=[.ref p]/\Cc X.K H p bs/\bs.length<=1000000/\(∀b∈bs,∃ns:List Int,H b=some (.tup (ns.map V.int))/\ns≠[])/\
  ∀(l:Z5) (ig:List Z5),H l=none->ig.Perm bs->ig.Pairwise (λx y=>fy (cD H y) (cD H x)=false)->Q (.ref l) (c_ H l (.lst (ig.map V.ref)))):=by
 intro pins s σ H xs us Q I r h;obtain⟨p,bs,rfl,CK,hz,tu,q⟩:=h;obtain⟨u,rfl,rx⟩:=iT r;cases rx;have ym:bs.length<=ZY:=by rw[abG];lia
 have OQ:∀(Q:List ZO->Z8->Prop) (E:ZO->Z8->Prop),(∀h1 tk (jc:List Z5),jc.Perm bs->(∀b o,s.heap.get? b=some o->h1.get? b=some o)->Q (jc.map Value.ref) {s with heap:=h1,toks:=tk})->aac (aar X.prog X.w) X.A.in1 (collect (.ref p)) Q E s:=by
  intro Q E hq;rcases CK with hs|hs|⟨ep,es,hs,rfl⟩
  ·obtain⟨its,rv,pl,_⟩:=I.list hs;obtain⟨o,e,c,n,d⟩:=pl.isList;have e2:=gg rv;subst e2;exact ac6 p (.inl rfl) e c d (λh1 k1=>by simpa using hq h1 s.toks bs (abh _) k1) (by rw[ZU,ZW];exact ym)
  ·obtain⟨its,rv,pl,_⟩:=I.tuple hs;obtain⟨o,e,c,n,d⟩:=pl;have e2:=gg rv;subst e2;exact ac6 p (.inr rfl) e c d (λh1 k1=>by simpa using hq h1 s.toks bs (abh _) k1) (by rw[ZU,ZW];exact ym)
  ·obtain⟨lo,ds,rd,n,at_⟩:=I.rawD hs;refine j8 (A:=X.A.in1) (NT lo) (I.ok.hd hc) rd (by rw[n];rw[ZW] at ym;exact ym) λh1 tk cN k1 ia=>?_;have e:cN.toList=(es.map (·.2.1)).map Value.ref:=by
    apply acA;intro i;rw[aaa,abC,aay];by_cases hi:i<cN.size
    ·rw[getElem?_pos cN i hi];obtain⟨en,e1,e2⟩:=ia.2 i _ (getElem?_pos cN i hi);have we:i<ds.size:=by rw[←ia.1];exact hi
     rw[getElem?_pos ds i we] at e1;cases e1;obtain⟨x,m,ek,_⟩:=at_ i we;rw[m,e2,ek];rfl
    ·rw[getElem?_neg cN i hi,ac1 (by rw[←n,←ia.1];lia)];rfl
   rw[e];exact hq h1 tk _ (abh _) k1
 exact oO I hz hu tu OQ q
end L2
namespace L2
open Hc.Dw Hc.Ts
noncomputable def bq (ns:List Int):U:=.tup (ns.map .int)
noncomputable def Fi:U->Option (List Int)
 | .tup xs=>match iW xs with
  |some (n::ns)=>some (n::ns)
  |_=>none
 |_=>none
noncomputable def jL:List U->Option (List (List Int))
 | []=>some []
 |u::us=>match Fi u,jL us with
  |some ns,some cZ=>some (ns::cZ)
  |_,_=>none
noncomputable def Cd (x:List Int):List (List Int)->List (List Int)
 | []=>[x]
 |y::r=>if fy y x=true then y::Cd x r else x::y::r
noncomputable def uw (l:List (List Int)):List (List Int):=l.foldr Cd []
theorem nO (x:List Int):∀l,(Cd x l).Perm (x::l)
 | []=>.refl _
 |y::r=>by
  unfold Cd;split
  ·exact ((nO x r).cons y).trans (.swap x y r)
  ·exact .refl _
theorem lU:∀l,(uw l).Perm l
 | []=>.refl _
 |x::l=>(nO x _).trans ((lU l).cons x)
def N1 (l:List (List Int)):Prop:=l.Pairwise λx y=>fy y x=false
theorem Bc (x:List Int):∀{l},N1 l->N1 (Cd x l)
 | [],_=>aaU _ _
 |y::r,h=>by
  obtain⟨h1,h2⟩:=aaN.mp h;unfold Cd;split
  ·rename_i c;refine aaN.mpr ⟨λz hz=>?_,Bc x h2⟩;rcases Z4.mp ((nO x r).mem_iff.mp hz) with rfl|hz
   ·exact KeyOrd.klt_asymm (O:=Hn) c
   ·exact h1 z hz
  ·rename_i c;have c:fy y x=false:=by simpa using c
   refine aaN.mpr ⟨λz hz=>?_,h⟩;rcases Z4.mp hz with rfl|hz
   ·exact c
   ·exact aaw (O:=Hn) (a:=x) (b:=y) (c:=z) c (h1 z hz)
theorem rK:∀l,N1 (uw l)
 | []=>List.Pairwise.nil
 |x::l=>Bc x (rK l)
theorem vA:∀{l m:List (List Int)},l.Perm m->N1 l->N1 m->l=m
 | [],m,p,_,_=>(List.nil_perm.mp p).symm
 |x::l,[],p,_,_=>absurd p.length_eq (by simp)
 |x::l,y::m,p,h1,h2=>by
  obtain⟨a1,a2⟩:=aaN.mp h1;obtain⟨b1,b2⟩:=aaN.mp h2;have e:x=y:=by
   have hx:x∈y::m:=p.mem_iff.mp ZS;have hy:y∈x::l:=p.mem_iff.mpr ZS;rcases Z4.mp hx with rfl|hx
   ·rfl
   ·rcases Z4.mp hy with rfl|hy
    ·rfl
    ·exact iA x y (b1 x hx) (a1 y hy)
  subst e;rw[vA (p.cons_inv) a2 b2]
theorem Hr (h:Fi u=some ns):u=bq ns/\ns≠[]:=by
 unfold Fi at h;split at h
 ·split at h
  ·rename_i xs n r e;cases h;rw[iX e];exact⟨rfl,by simp⟩
  ·cases h
 ·cases h
theorem j9:∀{us:List U} {cZ:List (List Int)},jL us=some cZ->us=cZ.map bq/\∀ns∈cZ,ns≠[]
 | [],_,h=>by cases h;exact⟨rfl,λns hn=>by cases hn⟩
 |u::us,cZ,h=>by
  unfold jL at h;split at h
  ·rename_i ns r e1 e2;cases h;obtain⟨e3,n3⟩:=Hr e1;obtain⟨e4,n4⟩:=j9 e2;refine⟨by rw[Z_,←e3,←e4],λz hz=>?_⟩;rcases Z4.mp hz with rfl|hz
   ·exact n3
   ·exact n4 z hz
  ·cases h
theorem Lk (h:Rp K H A (bq ns) v):∃b,v=.ref b/\H b=some (.tup (ns.map V.int))/\ns.length<=ZY:=by
 unfold bq Rp at h;obtain⟨b,ys,e,q,l,r⟩:=h;rw[r.toI] at q;exact⟨b,e,q,by simpa using l⟩
theorem Ll (q:H b=some (.tup (ns.map V.int)))(l:ns.length<=ZY):Rp K H A (bq ns) (.ref b):=by
 unfold bq Rp;exact⟨b,_,rfl,q,by simpa using l,mF ns⟩
theorem vB (q:H b=some (.tup (ns.map V.int))):cD H b=ns:=by unfold cD;rw[q];exact xD ns
theorem jn:∀{cZ:List (List Int)} {xs:List V},aK K H A (cZ.map bq) xs->∃bs:List Z5,xs=bs.map V.ref/\bs.map (cD H)=cZ/\∀b∈bs,H b=some (.tup ((cD H b).map V.int))/\(cD H b).length<=ZY
 | [],xs,h=>by rw[abO] at h;unfold aK at h;subst h;exact⟨[],rfl,rfl,λb hb=>by cases hb⟩
 |ns::cZ,xs,h=>by
  rw[Z_] at h;unfold aK at h;obtain⟨x,r,rfl,h1,h2⟩:=h;obtain⟨b,rfl,q,l⟩:=Lk h1;obtain⟨bs,rfl,e,z⟩:=jn h2;refine⟨b::bs,rfl,by rw[Z_,e,vB q],λc hc=>?_⟩;rcases Z4.mp hc with rfl|hc
  ·rw[vB q];exact⟨q,l⟩
  ·exact z c hc
theorem xE {bs:List Z5}(h:∀b∈bs,H b=some (.tup ((cD H b).map V.int))/\(cD H b).length<=ZY):aK K H A ((bs.map (cD H)).map bq) (bs.map V.ref):=by
 induction bs with
 |nil=>exact aK.nil
 |cons b bs ih=>exact aK.cons (Ll (h b ZS).1 (h b ZS).2) (ih λc hc=>h c (ZX _ hc))
noncomputable def j_ (us:List U):R U:=match jL us with
 |some cZ=>if cZ.length<=1000000 then .ok (.lst ((uw cZ).map bq)) else .stk
 |none=>.stk
noncomputable def rL:List U->R U:=λus=>match us with
 | [.lst xs]=>j_ xs
 | [.tup xs]=>j_ xs
 | [.dct ks _]=>if NQ ks=true then j_ ks else .stk
 |_=>.stk
def vC (K:ZQ):List V->Hp->VK->Prop:=λxs H Q=>∃(p:Z5) (bs:List Z5),xs=[.ref p]/\Cc K H p bs/\bs.length<=1000000/\(∀b∈bs,∃ns:List Int,H b=some (.tup (ns.map V.int))/\ns≠[])/\
  ∀(l:Z5) (ig:List Z5),H l=none->ig.Perm bs->ig.Pairwise (λx y=>fy (cD H y) (cD H x)=false)->Q (.ref l) (c_ H l (.lst (ig.map V.ref)))
theorem Ce:kX K (vC K) .O rL:=λA H vs us z Q h mu e q=>by
 have fin:∀(xs:List U) (p:Z5) (bs:List Z5),j_ xs=.ok z->aK K H A xs (bs.map V.ref)->Cc K H p bs->vC K [.ref p] H Q:=by
  intro xs p bs e r CK;unfold j_ at e;split at e
  ·rename_i cZ e1;split at e
   ·rename_i hz;cases e;obtain⟨e2,ne⟩:=j9 e1;subst e2;obtain⟨jc,e3,e4,e5⟩:=jn r;have e6:bs=jc:=by
     have:Function.Injective V.ref:=λa b h=>by cases h;rfl
     exact (List.map_inj_right λ_ _ h=>by cases h;rfl).mp e3
    subst e6;have n1:bs.length=cZ.length:=by rw[←e4,ZW]
    refine⟨p,bs,rfl,CK,by lia,λb hb=>⟨_,(e5 b hb).1,ne _ (by rw[←e4];exact ab6 hb)⟩,λl ig hn hp hw=>?_⟩;have e7:ig.map (cD H)=uw cZ:=vA ((hp.map (cD H)).trans (by rw[e4];exact (lU cZ).symm)) (abJ.mpr hw) (rK cZ);refine q _ _ (de hn _) ⟨l,rfl,hn,?_⟩;rw[←e7];refine bZ mu (xE λb hb=>e5 b (hp.mem_iff.mp hb)) hn ?_;have:ZY=16777216:=rfl;rw[ZW,ZW,hp.length_eq];lia
   ·cases e
  ·cases e
 unfold rL at e;split at e
 ·obtain⟨v,rfl,p⟩:=h.one;unfold Pk at p;obtain⟨a,ys,rfl,h1,l1,r1⟩:=p;have e':=e;unfold j_ at e';split at e'
  ·rename_i cZ e1;have r2:=r1;rw[(j9 e1).1] at r2;obtain⟨bs,rfl,_⟩:=jn r2;exact fin _ a bs e r1 (.inl (fS.of h1))
  ·cases e'
 ·obtain⟨v,rfl,p⟩:=h.one;unfold Pk at p;obtain⟨a,ys,rfl,h1,l1,r1⟩:=p;have e':=e;unfold j_ at e';split at e'
  ·rename_i cZ e1;have r2:=r1;rw[(j9 e1).1] at r2;obtain⟨bs,rfl,_⟩:=jn r2;exact fin _ a bs e r1 (.inr (.inl (gz.of h1)))
  ·cases e'
 ·rename_i ks ws;split at e
  ·rename_i c;obtain⟨v,rfl,p⟩:=h.one;unfold Pk at p;obtain⟨a,ys,rfl,h1,l1,r1⟩:=p;obtain⟨es,ep,q1,kt,e1,e2⟩:=E8 c h1;refine fin ks a (es.map (·.2.1)) e ?_ (.inr (.inr ⟨ep,es,q1,rfl⟩));subst e1;clear e fin e2 r1 h1 c q1 h
   induction es with
   |nil=>exact aK.nil
   |cons x es ih=>exact aK.cons (Jk (kt x ZS)) (ih λy hy=>kt y (ZX _ hy))
  ·cases e
 ·cases e
def Fj (K:ZQ):List V->Hp->VK->Prop:=λxs H Q=>∃(p:Z5) (ns:List Int),xs=[.ref p]/\(fS K H p (ns.map V.int)\/gz K H p (ns.map V.int))/\ns.length<64/\
  ∀(l:Z5) (nY:List Int),H l=none->nY.Perm ns->nY.Pairwise (·<=·)->Q (.ref l) (c_ H l (.lst (nY.map V.int)))
noncomputable def oP:List U->R U:=λus=>match yV us with
 | .ok z=>.ok z
 |_=>rL us
theorem rM:kX K (λxs H Q=>Fj K xs H Q\/vC K xs H Q) .O oP:=λA H vs us z Q h mu e q=>by
 unfold oP at e;split at e
 ·rename_i z' e1;cases e;exact .inl (BP A H vs us _ Q h mu e1 q)
 ·exact .inr (Ce A H vs us z Q h mu e q)
theorem nP (hc:X.calm=true)(hu:X.A.units+64<abH):eU X (.builtin "sorted") (λxs H Q=>Fj X.K xs H Q\/vC X.K xs H Q):=by
 intro pins s σ H xs us Q I r h;rcases h with h|h
 ·exact uU pins s σ H xs us Q I r h
 ·exact vz hc hu pins s σ H xs us Q I r h
end L2
namespace L2
open Hc.Dw Hc.Ts Hc.Sx Hc.Sy
noncomputable def vD (cN:List (List Int))(x:List Int):List (List Int):=if x∈cN then cN else cN++[x]
noncomputable def jM (l:List (List Int)):List (List Int):=l.foldl vD []
def Cf (w:acJ)(l:Z5)(bs:List Z5)(h:acj):Prop:=∃es ep t,kZ w h l es ep t/\(es.toList.map (·.2)).Perm (bs.map Value.ref)
theorem Fl {vs:List ZO}(h:abW vs ns):ItemsAre (aeW prog w) ns vs:=by
 induction h with
 |nil=>exact .nil
 |cons n t _ ih=>exact .cons (intKind_is _ _ _ _) ih
section
variable {e:abE}{jW p1 p2:Pos}{b1:Bool}{ga:Ev->R (List U×Ev)}
noncomputable def mQ (H:Hp)(bs:List Z5)(i:Nat):List Int×Z5:=(cD H (bs.getD i 0),bs.getD i 0)
theorem ux (H:Hp)(bs:List Z5):∀n,n<=bs.length->(eM (mQ H bs) n).map (·.1)=jM ((bs.take n).map (cD H))
 |0,_=>by simp[eM,jM]
 |n+1,h=>by
  have hn:n<bs.length:=by lia
  have ih:=ux H bs n (by lia);have e1:bs.take (n+1)=bs.take n++[bs[n]]:=abD hn;have e2:mQ H bs n=(cD H bs[n],bs[n]):=by unfold mQ;simp[adL,ZM hn]
  rw[e1,abp];unfold jM at ih ⊢;rw[List.foldl_append,←ih];show (lu (eM (mQ H bs) n) (mQ H bs n).1 (mQ H bs n).2).map (·.1)=vD ((eM (mQ H bs) n).map (·.1)) (cD H bs[n]);rw[e2];unfold lu vD;dsimp only;by_cases c:cD H bs[n]∈(eM (mQ H bs) n).map (·.1)
  ·rw[hV c,hV c]
  ·rw[hU c,hU c,abp];rfl
theorem xF (H:Hp)(bs:List Z5):(eM (mQ H bs) bs.length).map (·.1)=jM (bs.map (cD H)):=by
 rw[ux H bs _ (Z2 _),ads]
def Jr (w:acJ)(K:ZQ):List V->Hp->VK->Prop:=λxs H Q=>∃(p:Z5) (bs:List Z5),xs=[.ref p]/\fS K H p (bs.map V.ref)/\(∀b∈bs,H b=some (.tup ((cD H b).map V.int)))/\(jM (bs.map (cD H))).length<2046/\
 ∀(l:Z5) (jc:List Z5),H l=none->jc.map (cD H)=jM (bs.map (cD H))->(∀b∈jc,b∈bs)->Q (.ref l) (c_ H l (.ext (Cf w l jc)))
theorem Cg (hc:X.calm=true)(hu:X.A.units+64<abH):eU X (.type "set") (Jr X.w X.K):=by
 intro pins s σ H xs us Q I r h;obtain⟨p,bs,rfl,hs,tu,hb,q⟩:=h;obtain⟨u,rfl,rx⟩:=iT r;cases rx;obtain⟨its,rv,pl,_⟩:=I.list hs;have e2:=gg rv;subst e2;have sz:(bs.map Value.ref).toArray.size=bs.length:=by simp
 refine xi (knd:=tI X.prog X.w) (val:=mQ H bs) Xx (λ{h h' k a} hk m=>?_) (show X.A.units+1+1+1<abH by lia) (I.ok.hd hc) pl.isList (λi v hv=>?_) (λj hj=>?_) ?_ λh' tk hS hk=>?_
 ·obtain⟨o,its,n,e1,e2,e3,e4⟩:=hk;obtain⟨o',yj,HV,n',e3'⟩:=m a its ⟨o,e1,e2,n,e3⟩;exact⟨o',its,n',yj,HV,e3',e4⟩
 ·rw[←aaa] at hv;rw[aay] at hv;unfold mQ;cases z:bs[i]? with
  |none=>rw[z] at hv;cases hv
  |some b=>rw[z] at hv;simp only[adL,z,acK];exact (aaj hv).symm
 ·have hj:j<bs.length:=by rw[sz] at hj;exact hj
  have em:bs.getD j 0=bs[j]:=by simp[adL,ZM hj]
  unfold mQ;rw[em];obtain⟨_,its,rv,it,_⟩:=I.hok _ _ (tu _ (aaJ hj));obtain⟨o,h1,h2,n,h3⟩:=it;exact⟨o,_,n,h1,h2,h3,by simpa using Fl (dZ rv)⟩
 ·rw[sz];have:=congrArg List.length (xF H bs);rw[ZW] at this;lia
 ·rw[sz] at hS;obtain⟨o,es,ep,t,C,g1,g2,g3,g4,g5⟩:=hS;have RT:kZ X.w h' s.heap.objs.size es ep t:=⟨o,g1,g2,g3,g4.fits,g4.pl,g5,g4.tab.ris,g4.tab.sz⟩;have mem:∀x∈eM (mQ H bs) bs.length,x.1=cD H x.2/\x.2∈bs:=λx hx=>by
   obtain⟨j,hj,rfl⟩:=kJ _ _ x hx;refine⟨rfl,?_⟩;have em:bs.getD j 0=bs[j]:=by simp[adL,ZM hj]
   show bs.getD j 0∈bs;rw[em];exact aaJ hj
  refine⟨.ref s.heap.objs.size,_,I.laid (a:=s.heap.objs.size) (o:=.ext (Cf X.w s.heap.objs.size ((eM (mQ H bs) bs.length).map (·.2)))) (t':=tk) hk (Z2 _)
   ⟨⟨es,ep,t,RT,?_⟩,⟨o,g1⟩,λh1 h2 ⟨es,ep,t,r,z⟩ k=>⟨es,ep,t,r.at k,z⟩⟩,rfl,q _ _ (I.hok.fresh (Z2 _)) ?_ λb hb=>?_⟩
  ·refine (g4.per.map (·.2)).trans (List.Perm.of_eq ?_);rw[abC,abC];rfl
  ·rw[←xF H bs,abC];exact acI λx hx=>(mem x hx).1.symm
  ·obtain⟨x,hx,rfl⟩:=aaP.mp hb;exact (mem x hx).2
def Fm (w:acJ):List V->Hp->VK->Prop:=λxs H Q=>∃(p:Z5) (bs:List Z5),xs=[.ref p]/\H p=some (.ext (Cf w p bs))/\bs.length<=1000000/\(∀b∈bs,∃ns:List Int,H b=some (.tup (ns.map V.int))/\ns≠[])/\
  ∀(l:Z5) (ig:List Z5),H l=none->ig.Perm bs->ig.Pairwise (λx y=>fy (cD H y) (cD H x)=false)->Q (.ref l) (c_ H l (.lst (ig.map V.ref)))
theorem zB (hc:X.calm=true)(hu:X.A.units+64<abH):eU X (.builtin "sorted") (Fm X.w):=by
 intro pins s σ H xs us Q I r h;obtain⟨p,bs,rfl,hs,hz,tu,q⟩:=h;obtain⟨u,rfl,rx⟩:=iT r;cases rx;obtain⟨⟨es,ep,t,RT,per⟩,_,_⟩:=I.hok p _ hs;refine oO I hz hu tu (λQ E hq=>?_) q;have n:es.size=bs.length:=by have:=per.length_eq;simpa using this
 refine j8 (A:=X.A.in1) QU (I.ok.hd hc) RT (by rw[n,abG];lia) λh1 tk cN k1 ia=>?_;have e:cN.toList=(sR X.w p ep es).toList.map (·.2):=by
  apply acA;intro i;rw[aaa,aay,aaa];by_cases hi:i<cN.size
  ·rw[getElem?_pos cN i hi];obtain⟨en,e1,e2⟩:=ia.2 i _ (getElem?_pos cN i hi);rw[e1,e2];rfl
  ·rw[getElem?_neg cN i hi,getElem?_neg _ i (by rw[xC,←ia.1];exact hi)];rfl
 obtain⟨jc,e3,e4⟩:=uu ((xB.map (·.2)).trans per);rw[e,e3];exact hq h1 tk jc e4 k1
noncomputable def gG:List U->R U:=λus=>match us with
 | [.lst xs]=>match jL xs with
  |some cZ=>if (jM cZ).length<2046 then .ok (.lst ((uw (jM cZ)).map bq)) else .stk
  |none=>.stk
 |_=>.stk
theorem xG:∀(l cN:List (List Int)) (x:List Int),x∈l.foldl vD cN->x∈cN\/x∈l
 | [],cN,x,h=>.inl h
 |y::l,cN,x,h=>by
  rcases xG l _ x h with z|z
  ·unfold vD at z;split at z
   ·exact .inl z
   ·rcases aai.mp z with z|z
    ·exact .inl z
    ·exact .inr (by rw[aag.mp z];exact ZS)
  ·exact .inr (ZX _ z)
theorem xH:kX K (λvs H Q=>Jr w K vs H λx H2=>Fm w [x] H2 Q) .O gG:=λA H vs us z Q h mu e q=>by
 unfold gG at e;split at e
 ·rename_i xs;split at e
  ·rename_i cZ e1;split at e
   ·rename_i hl;cases e;obtain⟨v,rfl,p⟩:=h.one;unfold Pk at p;obtain⟨a,ys,rfl,h1,l1,r1⟩:=p;obtain⟨e2,ne⟩:=j9 e1;subst e2;obtain⟨bs,rfl,e4,e5⟩:=jn r1;refine⟨a,bs,rfl,fS.of h1,λb hb=>(e5 b hb).1,by rw[e4];exact hl,λl jc hn k2 sub=>?_⟩;have sm:=de hn (.ext (Cf w l jc));have kb:∀b∈bs,cD (c_ H l (.ext (Cf w l jc))) b=cD H b:=λb hb=>by
     rw[vB (sm _ _ (e5 b hb).1)]
    have ln:jc.length=(jM cZ).length:=by rw[←e4,←k2,ZW]
    refine⟨l,jc,rfl,bS,by lia,λb hb=>⟨_,sm _ _ (e5 b (sub b hb)).1,?_⟩,λl' ig Ml hp hw=>?_⟩
    ·have:cD H b∈jM (bs.map (cD H)):=by rw[←k2];exact ab6 hb
     rcases xG _ _ _ this with z|z
     ·cases z
     ·rw[e4] at z;exact ne _ z
    ·have X8:(ig.map (cD H)).Pairwise λx y=>fy y x=false:=by
      refine abJ.mpr (acB (λ{x y} hx hy z=>?_) hw);rw[kb x (sub x (hp.mem_iff.mp hx)),kb y (sub y (hp.mem_iff.mp hy))] at z;exact z
     have e7:ig.map (cD H)=uw (jM cZ):=vA ((hp.map (cD H)).trans (by rw[k2,e4];exact (lU _).symm)) X8 (rK _);have PX:=sm.trans (de Ml (.lst (ig.map V.ref)));have na:H l'=none:=by
      cases z:H l' with
      |none=>rfl
      |some o=>rw[sm _ _ z] at Ml;cases Ml
     refine q _ _ PX ⟨l',rfl,na,?_⟩;rw[←e7];refine bZ (λb hb=>?_) ?_ Ml ?_
     ·have m:=mu b hb;obtain⟨o,z⟩:=m.ex;rw[sm b o z,←z];exact m
     ·have k3:ig.map (cD H)=ig.map (cD (c_ H l (.ext (Cf w l jc)))):=acI λb hb=>(kb b (sub b (hp.mem_iff.mp hb))).symm;rw[k3];refine xE λb hb=>?_;have tF:=sub b (hp.mem_iff.mp hb);rw[kb b tF];exact⟨sm _ _ (e5 b tF).1,(e5 b tF).2⟩
     ·have:ZY=16777216:=rfl;rw[ZW,ZW,hp.length_eq];lia
   ·cases e
  ·cases e
 ·cases e
theorem rN (hc:X.calm=true)(hu:X.A.units+64<abH)(ha:DA X G [e] b1 true ga)(hm:X.mg "sorted"=none)(RN:X.mg "set"=none)(hg:Gl X "sorted":=by rfl)(OF:Gl X "set":=by rfl)
  (he:aaf [e] X.env=(false,ade e X.env)::aaf [] X.env:=by rfl) (sH:(acq jW (aaf [] X.env)).any (·.1)=false:=by rfl)
  (OP:aaf [.Call (.Name "set" p2) [e] [] jW] X.env=(false,ade (.Call (.Name "set" p2) [e] [] jW) X.env)::aaf [] X.env:=by rfl) (FT:(acq pos (aaf [] X.env)).any (·.1)=false:=by rfl) :
  DE X G (.Call (.Name "sorted" p1) [.Call (.Name "set" p2) [e] [] jW] [] pos) b1 .O (gR gG ga):=⟨(p9 (zB hc hu) hg hm ji (md (jg (Cg hc hu) OF RN Ee ha.un (by decide) (by decide) he sH) p8 OP) (by decide) (by decide) OP FT).to λ_ _ _ h=>pM (p:=true) (xH (K:=X.K)) h⟩
end
end L2
namespace L2
open Hc.Dw Hc.Ts
section
variable {e:abE}{tl:TE}{gI cpos p1:Pos}{b1:Bool}{m1:Md}{g1:Ev->R (U×Ev)}
noncomputable def zC (ns:List Int):Bool:=decide (ns.length<=1000000)&&ns.all λn=>decide (0<=n/\n<=1000000000)
theorem ke (ns:List Int):∀j,j<=ns.length->preSum (λi=>ns.getD i 0) j=(ns.take j).sum
 |0,_=>rfl
 |j+1,h=>by
  unfold preSum;rw[ke ns j (by lia),abD (show j<ns.length by lia),List.sum_append];simp[adL,ZM (show j<ns.length by lia)]
theorem uy:∀{ns:List Int},(ns.all λn=>decide (0<=n/\n<=1000000000))=true->0<=ns.sum/\ns.sum<=ns.length*1000000000
 | [],_=>by simp
 |n::ns,h=>by
  rw[adJ,aae] at h;obtain⟨a,b⟩:=uy h.2;have:=of_decide_eq_true h.1;rw[List.sum_cons,ZT];constructor
  ·lia
  ·push_cast;lia
end
end L2
namespace L2
open Hc.Dw Hc.Ts
noncomputable def rO:ZO->Int×Tok
 | .int n t=>(n,t)
 |_=>(0,0)
theorem uz (h:abW its ns):intItems (its.map rO).toArray=its.toArray/\∀i,numAt (its.map rO).toArray i=ns.getD i 0:=by
 constructor
 ·unfold intItems;rw[List.map_toArray,abC];congr 1
  induction h with
  |nil=>rfl
  |cons n t _ ih=>rw[Z_,ih];rfl
 ·induction h with
  |nil=>intro i;unfold numAt;simp
  |cons n t _ ih=>
   intro i;cases i with
   |zero=>unfold numAt;simp[rO]
   |succ i=>
    have:=ih i;unfold numAt at this ⊢;simpa [adL] using this
def Js (K:ZQ):List V->Hp->VK->Prop:=λxs H Q=>∃p ns,xs=[.ref p]/\fS K H p (ns.map V.int)/\zC ns=true/\Q (.int ns.sum) H
theorem Ci (hc:X.calm=true):eU X (.builtin "sum") (Js X.K):=by
 intro pins s σ H xs us Q I r h;obtain⟨p,ns,rfl,hs,sm,q⟩:=h;obtain⟨u,rfl,rx⟩:=iT r;cases rx;obtain⟨its,rv,pl,_⟩:=I.list hs;have hI:=dZ rv;obtain⟨t1,t2⟩:=uz hI;have sz:(its.map rO).toArray.size=ns.length:=by simp[hI.length]
 unfold zC at sm;rw[aae] at sm;have s1:=of_decide_eq_true sm.1;have fe:numAt (its.map rO).toArray=λi=>ns.getD i 0:=funext t2;refine sum_intList (xs:=(its.map rO).toArray) (I.ok.hd hc) (by rw[t1];exact pl.isList) (λj hj=>?_) λh' tk t' k=>?_
 ·rw[sz] at hj;have al:=sm.2;rw[fe];refine⟨?_,?_⟩
  ·have:=aaI.mp al ns[j] (aaJ hj);have:=of_decide_eq_true this;unfold InLong;simp only[adL,ZM hj,acK];lia
  ·rw[ke ns (j+1) (by lia)];have PY:((ns.take (j+1)).all λn=>decide (0<=n/\n<=1000000000))=true:=aaI.mpr λx hx=>aaI.mp al x (abA hx);obtain⟨p1,p2⟩:=uy PY;have:(ns.take (j+1)).length<=1000000:=by rw[aaM];lia
   unfold InLong;lia
 ·have e:preSum (numAt (its.map rO).toArray) (its.map rO).toArray.size=ns.sum:=by rw[fe,sz,ke ns ns.length (Z2 _),ads]
  rw[e];exact⟨.int ns.sum,H,I.kept (t':=tk) k,⟨t',rfl⟩,q⟩
noncomputable def Fo:List U->R U:=λus=>match us with
 | [.lst xs]=>match iW xs with
  |some ns=>if zC ns=true then .ok (.int ns.sum) else .stk
  |none=>.stk
 |_=>.stk
theorem Fp:kX K (Js K) .S Fo:=λA H vs us z Q h mu e q=>by
 unfold Fo at e;split at e
 ·rename_i xs;split at e
  ·rename_i ns hb;split at e
   ·rename_i hl;cases e;obtain⟨v,rfl,p⟩:=h.one;unfold Pk at p;obtain⟨a,ys,rfl,h1,l1,r1⟩:=p;rw[iX hb] at r1;rw[r1.toI] at h1;exact⟨a,ns,rfl,fS.of h1,hl,q _ H (aQ.refl _) (show Rp K H A _ _ from eP)⟩
   ·cases e
  ·cases e
 ·cases e
noncomputable def xI:Int->List Int->Int
 |m,[]=>m
 |m,n::ns=>xI (if m<n then n else m) ns
theorem xJ (ns:List Int)(n0:Int):∀j,j<=ns.length->(n0::ns).getD (argBest (λi j=>decide ((n0::ns).getD i 0>(n0::ns).getD j 0)) j) 0=xI n0 (ns.take j)
 |0,_=>by simp[argBest,xI]
 |j+1,h=>by
  have ih:=xJ ns n0 j (by lia);have hj:j<ns.length:=by lia
  have app:∀(l:List Int) (m x:Int),xI m (l++[x])=if xI m l<x then x else xI m l:=by
   intro l
   induction l with
   |nil=>intro m x;rfl
   |cons y l ih=>intro m x;exact ih _ x
  rw[abD hj,app,←ih];have g:(n0::ns).getD (j+1) 0=ns[j]:=by simp[adL,ZM hj]
  rw[argBest];by_cases c:(n0::ns).getD (argBest (λi j=>decide ((n0::ns).getD i 0>(n0::ns).getD j 0)) j) 0<ns[j]
  ·rw[hV c,hV (by rw[g];exact hG c),g]
  ·rw[hU c,hU (by rw[g,decide_eq_true_eq];exact c)]
def Jt (K:ZQ):List V->Hp->VK->Prop:=λxs H Q=>∃p n0 ns,xs=[.ref p]/\fS K H p ((n0::ns).map V.int)/\Q (.int (xI n0 ns)) H
theorem Cj (hc:X.calm=true):eU X (.builtin "max") (Jt X.K):=by
 intro pins s σ H xs us Q I r h;obtain⟨p,n0,ns,rfl,hs,q⟩:=h;obtain⟨u,rfl,rx⟩:=iT r;cases rx;obtain⟨its,rv,pl,_⟩:=I.list hs;have hI:=dZ rv;obtain⟨t1,t2⟩:=uz hI;have sz:(its.map rO).toArray.size=ns.length+1:=by simp[hI.length]
 have fe:numAt (its.map rO).toArray=λi=>(n0::ns).getD i 0:=funext t2;refine max_intList (xs:=(its.map rO).toArray) (I.ok.hd hc) (by rw[t1];exact pl.isList) (by rw[sz];lia) λv h' tk hv k=>?_;obtain⟨t,rfl⟩:=intItems_at hv;rw[sz,Nat.add_sub_cancel,fe];dsimp only;rw[xJ ns n0 _ (Z2 _),ads];exact⟨.int _,H,I.kept (t':=tk) k,⟨t,rfl⟩,q⟩
noncomputable def Fq:List U->R U:=λus=>match us with
 | [.lst xs]=>match iW xs with
  |some (n::ns)=>.ok (.int (xI n ns))
  |_=>.stk
 |_=>.stk
theorem Fs:kX K (Jt K) .S Fq:=λA H vs us z Q h mu e q=>by
 unfold Fq at e;split at e
 ·rename_i xs;split at e
  ·rename_i n ns hb;cases e;obtain⟨v,rfl,p⟩:=h.one;unfold Pk at p;obtain⟨a,ys,rfl,h1,l1,r1⟩:=p;rw[iX hb] at r1;rw[r1.toI] at h1;exact⟨a,n,ns,rfl,fS.of h1,q _ H (aQ.refl _) (show Rp K H A _ _ from eP)⟩
  ·cases e
 ·cases e
end L2
namespace Hc.Ts
open PySem.W
theorem xK:∀a b,HT.lexLt a b=fy a b
 | [],[]=>rfl
 | [],_::_=>rfl
 |_::_,[]=>rfl
 |x::xs,y::ys=>by
  rw[HT.lexLt_cons,fy,xK xs ys]
section
variable {A:aaD}
theorem items_int {vs:List ZO}(h:abW vs ns):ItemsAre (aeW prog w) ns vs:=by
 induction h with
 |nil=>exact .nil
 |cons n t _ ih=>exact .cons (intKind_is _ _ _ _) ih
theorem N2 {t:Z5}{its:Array ZO}(h:s.heap.IsTuple t its)(i:abW its.toList ns):IsTupleKey (aeW prog w) s.heap ns t:=by
 obtain⟨o,e,c,n,d⟩:=h;exact⟨o,its,n,e,c,d,items_int i⟩
end
end Hc.Ts
namespace L2
open Hc.Dw Hc.Ts
theorem uA {α β:Type}{f:α->β}:∀{l:List α},(l.map f).Nodup->∀a∈l,∀b∈l,f a=f b->a=b
 | [],_,a,ha,_,_,_=>by cases ha
 |x::l,h,a,ha,b,hb,e=>by
  rw[Z_] at h;obtain⟨h1,h2⟩:=aa4.mp h;rcases Z4.mp ha with ea|zU
  ·rcases Z4.mp hb with eb|tF
   ·rw[ea,eb]
   ·exact absurd (by rw[←ea,e];exact ab6 tF) h1
  ·rcases Z4.mp hb with eb|tF
   ·exact absurd (by rw[←eb,←e];exact ab6 zU) h1
   ·exact uA h2 a zU b tF e
end L2
namespace L2
def Lm (K:ZQ)(f:Bool->Bool):R2:=λx y H Q=>∃p xs ds dx,y=.ref p/\(fS K H p xs\/gz K H p xs)/\aW K H dx x/\fT K H ds xs/\(∀d∈ds,eO d<=30)/\Q (.bl (f (ds.any λd=>jw d dx))) H
open Classical in
noncomputable def jT (its:List ZO)(ds:List D)(dx:D)(u:ZO):Bool:=decide (∃(i:Nat) (d:D),its[i]? = some u/\ds[i]? = some d/\jw d dx=true)
open Classical in
theorem pV {ds:List D}{dx:D}{u:ZO}:jT its ds dx u=true↔∃(i:Nat) (d:D),its[i]? = some u/\ds[i]? = some d/\jw d dx=true:=by
 unfold jT;exact decide_eq_true_iff
theorem pW {ds:List D}{dx:D}(hl:its.length=ds.length):its.any (jT its ds dx)=ds.any λd=>jw d dx:=by
 rw[acT,List.any_eq_true,List.any_eq_true];constructor
 ·rintro⟨u,_,h⟩;obtain⟨i,d,_,h2,h3⟩:=pV.mp h;exact⟨d,aaV h2,h3⟩
 ·rintro⟨d,hd,h⟩;obtain⟨i,hi,e⟩:=abU.mp hd;have JN:i<its.length:=by lia
  exact⟨its[i],aaJ JN,pV.mpr ⟨i,d,ZM JN,by rw[ZM hi,e],h⟩⟩
theorem mR (I:aJ X pins σ H s){A:aaD}(hA:A.units+30<abH){x:V}{v:ZO}{dx:D}(rx:bx x v)(hx:aW X.K H dx x){ds:List D}(rv:bh xs its)(hs:fT X.K H ds xs)(hd:∀d∈ds,eO d<=30) :
  ∀u∈its,acx A s u v (jT its ds dx u):=λu hu=>by
 have l1:=rv.length;have l2:=hs.length;have at_:∀(i:Nat) (d:D),its[i]? = some u->ds[i]? = some d->acx A s u v (jw d dx):=λi d h1 h2=>by
  have hi:i<its.length:=(Z0.mp h1).1;have h3:xs[i]? = some (xs[i]'(by lia)):=ZM _;obtain⟨u',g1,g2⟩:=rv.get h3;rw[h1] at g1;cases g1;exact qm I 30 d dx _ x u v A (hd d (aaV h2)) hA (hs.get h2 h3) hx g2 rx
 by_cases c:∃(i:Nat) (d:D),its[i]? = some u/\ds[i]? = some d/\jw d dx=true
 ·obtain⟨i,d,h1,h2,h3⟩:=c;have e:jT its ds dx u=true:=pV.mpr ⟨i,d,h1,h2,h3⟩;rw[e,←h3];exact at_ i d h1 h2
 ·have e:jT its ds dx u=false:=ac5.mpr λz=>c (pV.mp z);obtain⟨i,hi,eu⟩:=abU.mp hu;have h1:its[i]? = some u:=by rw[ZM hi,eu]
  have h2:ds[i]? = some (ds[i]'(by lia)):=ZM _;have e2:jw (ds[i]'(by lia)) dx=false:=by
   cases z:jw (ds[i]'(by lia)) dx with
   |false=>rfl
   |true=>exact absurd ⟨i,_,h1,h2,z⟩ c
  rw[e,←e2];exact at_ i _ h1 h2
theorem Ln (hu:X.A.units+64<abH):jQ X (abu .In) (Lm X.K id):=by
 intro pins s σ H x y v u Q I rx ry h;obtain⟨p,xs,ds,dx,rfl,hq,hx,hs,hd,q⟩:=h;cases ry;rcases hq with hq|hq
 ·obtain⟨its,r,pl,hz⟩:=I.list hq;refine SeqAt.in_listAt (jT its ds dx) pl.isList (λw hw=>mR I (by show X.A.units+1+30<abH;lia) rx hx r hs hd w (by simpa using hw)) ⟨.bl _,H,I,rfl,?_⟩;rw[show its.toArray.any (jT its ds dx)=its.any (jT its ds dx) by simp,pW (by rw[←r.length,←hs.length])];exact q
 ·obtain⟨its,r,pl,hz⟩:=I.tuple hq;refine SeqAt.in_tupleAt (jT its ds dx) pl (λw hw=>mR I (by show X.A.units+1+30<abH;lia) rx hx r hs hd w (by simpa using hw)) ⟨.bl _,H,I,rfl,?_⟩;rw[show its.toArray.any (jT its ds dx)=its.any (jT its ds dx) by simp,pW (by rw[←r.length,←hs.length])];exact q
theorem uB (hu:X.A.units+64<abH):jQ X (abu .NotIn) (Lm X.K not):=by
 intro pins s σ H x y v u Q I rx ry h;obtain⟨p,xs,ds,dx,rfl,hq,hx,hs,hd,q⟩:=h;cases ry;rcases hq with hq|hq
 ·obtain⟨its,r,pl,hz⟩:=I.list hq;refine SeqAt.notIn_listAt (jT its ds dx) pl.isList (λw hw=>mR I (by show X.A.units+1+30<abH;lia) rx hx r hs hd w (by simpa using hw)) ⟨.bl _,H,I,rfl,?_⟩;rw[show its.toArray.any (jT its ds dx)=its.any (jT its ds dx) by simp,pW (by rw[←r.length,←hs.length])];exact q
 ·obtain⟨its,r,pl,hz⟩:=I.tuple hq;refine SeqAt.notIn_tupleAt (jT its ds dx) pl (λw hw=>mR I (by show X.A.units+1+30<abH;lia) rx hx r hs hd w (by simpa using hw)) ⟨.bl _,H,I,rfl,?_⟩;rw[show its.toArray.any (jT its ds dx)=its.any (jT its ds dx) by simp,pW (by rw[←r.length,←hs.length])];exact q
noncomputable def Lo:U->Option (List U)
 | .lst us=>some us
 | .tup us=>some us
 |_=>none
noncomputable def N3 (f:Bool->Bool):U->U->R U:=λu w=>match qJ u,(Lo w).bind kY with
 |some dx,some ds=>if (ds.all λd=>decide (eO d<=30))=true then .ok (.bl (f (ds.any λd=>jw d dx))) else .stk
 |_,_=>.stk
theorem zD {f:Bool->Bool}:fU K (Lm K f) .S (N3 f):=λA H x y u w z Q hx hy mu e q=>by
 unfold N3 at e;split at e
 ·rename_i dx ds h1 h2;split at e
  ·rename_i hd;cases e;cases w with
   |lst us=>
    unfold Pk at hy;obtain⟨a,xs,rfl,h3,l1,r1⟩:=hy;exact⟨a,xs,ds,dx,rfl,.inl (fS.of h3),u5 hx h1,kH r1 h2,λd m=>of_decide_eq_true (aaI.mp hd d m),q _ H (aQ.refl _) (show Rp K H A _ _ from qy)⟩
   |tup us=>
    unfold Pk at hy;obtain⟨a,xs,rfl,h3,l1,r1⟩:=hy;exact⟨a,xs,ds,dx,rfl,.inr (gz.of h3),u5 hx h1,kH r1 h2,λd m=>of_decide_eq_true (aaI.mp hd d m),q _ H (aQ.refl _) (show Rp K H A _ _ from qy)⟩
   |_=>cases h2
  ·cases e
 ·cases e
end L2
namespace L2
open Hc.Dw Hc.Ts
noncomputable def N4:U->U->R Bool
 | .int a,.int b=>.ok (a==b)
 | .bl a,.bl b=>.ok (a==b)
 | .str a,.str b=>.ok (a==b)
 |_,_=>.stk
noncomputable def QV (f:Bool->Bool):U->U->R U:=λu w=>(N4 u w).bind λb=>.ok (.bl (f b))
end L2
namespace L2
section
variable {A:aaD}{k:List U}{xs:List (List U×Z5×ZO)}{r:ZO}
theorem N5 (hr:(cc prog w).room A)(hk:(cc prog w).is s.heap k b)(hd:s.heap.DictOfH (cc prog w) a xs)(hz:xs.length<=ZY)
  (h1:∀p,ae7 xs k=some p->Q p.2 {s with toks:=s.toks+CF (.tup k)})
  (h2:ae7 xs k=none->∀h',h'.DictOfH (cc prog w) a (storedH xs k b r)->abM a s.heap h'->Q r {s with heap:=h',toks:=s.toks+CF (.tup k)}) :
  aac (aar prog w) A (dictSetDefault a (.ref b) r) Q E s:=by
 obtain⟨o,es,ep,ho,he,hdat,hl,hi,hn⟩:=hd;unfold dictSetDefault;refine abi (ZL ((cc prog w).pyHash hr hk (ZL (wpAny_dictFind_heap hr hk ho hdat hl hi hn (λRo=>?_) (λj p hj=>?_)))))
 ·have nk:∀x∈xs,x.1≠k:=λx hx hc=>by
   obtain⟨j,hj⟩:=List.getElem?_of_mem hx;obtain⟨x1,x2⟩:=x;dsimp only at hc;subst hc;exact Ro j x2 hj
  have e0:ae7 xs k=none:=by
   unfold ae7;rw[adU,adO];intro x hx hc;exact nk x hx (of_decide_eq_true hc)
  refine ZL (ab0 (ZL (wpAny_updateDictKeys ho hdat (ZN ?_) (by rw[size_of_entries hl];exact hz) (by simp))));have hs:=aa2 s.heap a (Obj.mapDictKeys λx=>x.push {hash:=(cc prog w).hash k,key:=.ref b,val:=r});have hg:=abv (h:=s.heap) (Obj.mapDictKeys λx=>x.push {hash:=(cc prog w).hash k,key:=.ref b,val:=r}) ho (by
   obtain⟨c,d,dt,sl⟩:=o;cases hdat;obtain⟨h1,_⟩:=he;cases h1;rfl)
  have RU:storedH xs k b r=xs++[(k,b,r)]:=by unfold storedH;rw[e0];rfl
  refine h2 e0 _ ⟨_,es.push {hash:=(cc prog w).hash k,key:=.ref b,val:=r},ep+1,hg,?_,?_,?_,?_,?_⟩ hs
  ·obtain⟨c,d,dt,sl⟩:=o;cases hdat;exact he
  ·obtain⟨c,d,dt,sl⟩:=o;cases hdat;rfl
  ·rw[RU,ab3,hl,abp];rfl
  ·rw[RU];intro x hx;rcases aai.mp hx with hx|hx
   ·exact (cc prog w).keeps (hi x hx) ho hdat hs
   ·rw[aag] at hx;subst hx;exact (cc prog w).keeps hk ho hdat hs
  ·rw[RU,abp,abK];refine⟨hn,aaU _ _,λx hx y hy=>?_⟩;rw[Z_,abO,aag] at hy;subst hy;obtain⟨z,hz,rfl⟩:=aaP.mp hx;exact nk z hz
 ·have e1:ae7 xs k=some p:=by
   unfold ae7;have hm:(k,p)∈xs:=aaV hj;cases hf:xs.find? (λx=>decide (x.1=k)) with
   |none=>
    rw[adO] at hf;exact absurd (hG rfl) (hf _ hm)
   |some y=>
    have y0:=List.find?_some hf;have y1:y.1=k:=of_decide_eq_true y0;have y2:=List.mem_of_find?_eq_some hf;rw[←uA hn _ hm _ y2 y1.symm];rfl
  refine ZL (ad2 ho hdat ?_);rw[entry_at hl,hj];exact ZL (ab0 (ZN (h1 p e1)))
theorem vE (lo:(a==abZ)=false):MeetsIn prog w (Builtin.«dict.setdefault» ⟨[.ref a,.ref b,r],[]⟩) λA R s=>(cc prog w).room A.in1/\∃k xs,(cc prog w).is s.heap k b/\s.heap.DictOfH (cc prog w) a xs/\xs.length<=ZY/\
  (∀p,ae7 xs k=some p->R (.ok (.ret p.2)) {s with toks:=s.toks+CF (.tup k)})/\
  (ae7 xs k=none->∀h',h'.DictOfH (cc prog w) a (storedH xs k b r)->abM a s.heap h'->R (.ok (.ret r)) {s with heap:=h',toks:=s.toks+CF (.tup k)}):=by
 rintro A R s ⟨hr,k,xs,hk,hd,hz,h1,h2⟩;unfold Builtin.«dict.setdefault»;refine ZL ?_;unfold Builtin.Dict.keyAndDefault;refine ZL (wpAny_notOrdered_dict hd.typeIs (ZN ?_));dsimp only;rw[hU (by rw[lo];exact ZV)];exact ZL (N5 hr hk hd hz (λp e=>ZN (h1 p e)) λe h' d' hs=>ZN (h2 e h' d' hs))
end
end L2
namespace L2
section
variable {d:V}{r:ZO}{k:List U}{A:aaD}
theorem Ck (k:List U){xs:List (List U×Z5×ZO)}(p:aeF Ku es xs):gQ es k=none↔ae7 xs k=none:=by
 have:=(jZ k p).isSome_eq;rw[Option.isSome_map] at this;cases h1:gQ es k<;>cases h2:ae7 xs k<;>rw[h1,h2] at this<;>simp at this<;>simp
theorem Ft (hu:A.units+64<abH)(I:aJ X pins σ H s)(g:fA H a es)(kb:yH H k b)(hz:es.length<=ZY)(rd:bx d r)(h1:∀v w' s',gQ es k=some v->aJ X pins σ H s'->bx v w'->Q w' s')(h2:gQ es k=none->∀ep s',aJ X pins σ (c_ H a (DN a ep (yI es k b d))) s'->Q r s') :
  aac (aar X.prog X.w) A (call (.builtin "dict.setdefault") [.ref a,.ref b,r]) Q E s:=by
 obtain⟨xs,rel,dd⟩:=g.of I.hok;refine call_meetsIn aeo dd.typeIs PySem.F.entry_dict_setdefault (PySem.F.args_dict_setdefault_3 _ _ _) (vE (g.lo I.hok)) ⟨Dy hu,k,xs,kb.tk I.hok,dd,by rw[←Paired.length rel];exact hz,λp e=>?_,λe h' X9 hs=>?_⟩
 ·have:=jZ k rel;rw[e] at this;cases hv:gQ es k with
  |none=>rw[hv] at this;exact this.elim
  |some v=>rw[hv] at this;exact h1 v _ _ hv (I.tok _) this
 ·obtain⟨q,ds,ep,hq,e2,e3,e4,_,_⟩:=X9;refine h2 ((Ck k rel).mpr e) ep _ ?_;exact Gz I g.mut hs ⟨q,hq⟩ ⟨⟨g.lo I.hok,q,ds,_,hq,e2,e3,Dx k rd rel,e4⟩,⟨q,hq⟩,λg1 g2 ⟨l,o,ds,xs,z1,z2⟩ kp=>⟨l,o,ds,xs,kp _ z1,z2⟩⟩
end
def N6 (td ty tx:TE):TE:=λσ H Q=>td σ H λx H1=>∃a,x=.ref a/\Ng H1 a/\ty σ H1 λy H2=>tx σ H2 λz H3=>∃es k b,fA H3 a es/\y=.ref b/\yH H3 k b/\es.length<=ZY/\(∀v,gQ es k=some v->Q v H3)/\(gQ es k=none->∀ep,Q z (c_ H3 a (DN a ep (yI es k b z))))
section
variable {o e f:abE}{gI cpos:Pos}{td ty tx:TE}
theorem Hs (hu:X.A.units+64<abH)(ho:PE X o td)(he:PE X e ty)(hf:PE X f tx)(m:M2 X o "setdefault" gI e f cpos):PE X (.Call (.Attribute o "setdefault" gI) [e,f] [] cpos) (N6 td ty tx):=by
 intro pins s σ H Q I h;refine wpAny_Call_method m.base m.few m.line PySem.F.plainAttrs_dict aeo PySem.F.type_dict_setdefault (eG (ho pins s σ H _ I h) λu s1 ⟨x,H1,I1,rx,a,ex,d,q1⟩=>?_);subst ex;obtain rfl:u=Value.ref a:=rx;obtain⟨t1,t2⟩:=Nh I1 d;refine⟨t1,t2,?_⟩;rw[m.trees];refine Calls.callWith_builtin rfl (Calls.evalArgs_plain (aeK (eG (he pins s1 σ H1 _ I1 q1) λiv s2 ⟨y,H2,I2,ry,q2⟩=>
  aeK (eG (hf pins s2 σ H2 _ I2 q2) λfv s3 ⟨z,H3,I3,rz,es,k,b,g,ey,kb,hz,q3,q4⟩=>Calls.spliced_nil ?_))))
 subst ey;cases ry;exact Ft hu I3 g kb hz rz (λv w' s' hv I' rv=>⟨v,H3,I',rv,q3 v hv⟩) λhv ep s' I'=>⟨z,_,I',rz,q4 hv ep⟩
end
end L2
namespace L2
def iB (P:U->V->List Z5->Prop):List U->List V->List Z5->Prop
 | [],vs,L=>vs=[]/\L=[]
 |u::us,vs,L=>∃v r L1 L2,vs=v::r/\L=L1++L2/\P u v L1/\iB P us r L2
def Dp (K:ZQ)(H:Hp)(A:Z5->Prop):Nat->U->V->List Z5->Prop
 |0,u,v,L=>∃a us xs,v=.ref a/\u=.lst us/\L=[a]/\H a=some (.lst xs)/\us.length<=ZY/\aK K H A us xs
 |n+1,u,v,L=>∃a us es M,v=.ref a/\u=.dct (es.map λp=>.tup p.1) us/\L=a::M/\fA H a es/\(es=[]->H a=some (.dK []))/\us.length<=ZY/\iB (Dp K H A n) us (es.map (·.2.2)) M
section
variable {A':Z5->Prop}
theorem iB.imp {P P':U->V->List Z5->Prop}:∀{us:List U} {vs:List V} {L:List Z5},(∀u v L',(∀b∈L',b∈L)->P u v L'->P' u v L')->iB P us vs L->iB P' us vs L
 | [],_,_,_,h=>h
 |u::us,vs,L,f,h=>by
  obtain⟨v,r,L1,L2,e1,e2,p,q⟩:=h;subst e2;exact⟨v,r,L1,L2,e1,rfl,f u v L1 (λb hb=>aat _ hb) p,iB.imp (λu v L' s=>f u v L' λb hb=>Z6 _ (s b hb)) q⟩
theorem iB.length {P:U->V->List Z5->Prop}:∀{us:List U} {vs:List V} {L:List Z5},iB P us vs L->us.length=vs.length
 | [],_,_,⟨e,_⟩=>by subst e;rfl
 |u::us,_,_,⟨v,r,_,_,e,_,_,q⟩=>by subst e;rw[ZT,ZT,q.length]
theorem iB.mem {P:U->V->List Z5->Prop}:∀{us:List U} {vs:List V} {L:List Z5} {b:Z5},iB P us vs L->b∈L->∃u v L',P u v L'/\b∈L'
 | [],_,_,b,⟨_,e⟩,h=>by subst e;cases h
 |u::us,_,_,b,⟨v,r,L1,L2,_,e,p,q⟩,h=>by
  subst e;rcases aai.mp h with h|h
  ·exact⟨u,v,L1,p,h⟩
  ·exact q.mem h
theorem fA.mu (g:fA H a es):Mu (H a):=by
 rcases g.ob with⟨ep,q⟩|⟨_,q⟩<;>(rw[q];trivial)
theorem Dp.mu:∀{n:Nat} {u:U} {v:V} {L:List Z5} {b:Z5},Dp K H A n u v L->b∈L->Mu (H b)
 |0,u,v,L,b,h,hb=>by
  obtain⟨a,us,xs,_,_,e,q,_⟩:=h;subst e;rw[aag] at hb;subst hb;rw[q];trivial
 |n+1,u,v,L,b,h,hb=>by
  obtain⟨a,us,es,M,_,_,e,g,_,_,al⟩:=h;subst e;rcases Z4.mp hb with rfl|hb
  ·exact g.mu
  ·obtain⟨u',v',L',p,hb⟩:=al.mem hb;exact Dp.mu p hb
theorem fA.re (g:fA H a es)(ka:H' a=H a)(t:∀b ys,H b=some (.tup ys)->H' b=some (.tup ys)):fA H' a es:=⟨by rw[ka];exact g.ob,g.nd,λe he=>(g.key e he).to t⟩
structure yo (A A':Z5->Prop)(H H':Hp):Prop where
 mu:∀b,A b->Mu (H b)
 ex:fg A H H'
 nw:∀b,A' b->A b\/H b=none
theorem yo.tup (g:yo A A' H H'):∀b ys,H b=some (.tup ys)->H' b=some (.tup ys):=λb ys q=>g.ex b _ (λz=>by have:=g.mu b z;rw[q] at this;exact this) q
theorem Dp.re (g:yo A A' H H'):∀{n:Nat} {u:U} {v:V} {L:List Z5},(∀b∈L,H' b=H b)->Dp K H A n u v L->Dp K H' A' n u v L
 |0,u,v,L,k,h=>by
  obtain⟨a,us,xs,e1,e2,e,q,l,r⟩:=h;subst e;exact⟨a,us,xs,e1,e2,rfl,by rw[k a ZS];exact q,l,r.re g.mu g.ex g.nw⟩
 |n+1,u,v,L,k,h=>by
  obtain⟨a,us,es,M,e1,e2,e,d,z,l,al⟩:=h;subst e;have ka:=k a ZS;exact⟨a,us,es,M,e1,e2,rfl,d.re ka g.tup,(by rw[ka];exact z),l,al.imp λu v L' s p=>Dp.re g (λb hb=>k b (ZX _ (s b hb))) p⟩
theorem iB.rps {P:U->V->List Z5->Prop}:∀{us:List U} {vs:List V} {L:List Z5},(∀u v L',(∀b∈L',b∈L)->P u v L'->Rp K H A' u v)->iB P us vs L->aK K H A' us vs
 | [],_,_,_,⟨e,_⟩=>by subst e;exact aK.nil
 |u::us,_,_,f,⟨v,r,L1,L2,e1,e2,p,q⟩=>by
  subst e1 e2;exact aK.cons (f u v L1 (λb hb=>aat _ hb) p) (q.rps λu v L' s=>f u v L' λb hb=>Z6 _ (s b hb))
theorem fA.at (d:fA H a es)(z:es=[]->H a=some (.dK [])):BI H a (es.map λp=>.tup p.1) (es.map (·.2.2)):=by
 by_cases hz:es=[]
 ·subst hz;exact .inl ⟨[],z rfl,rfl,rfl⟩
 ·exact .inr ⟨es,hz,d,rfl,rfl⟩
theorem Dp.rp:∀{n:Nat} {u:U} {v:V} {L:List Z5},(∀b,A' b->A b/\b∉L)->Dp K H A n u v L->Rp K H A' u v
 |0,u,v,L,k,h=>by
  obtain⟨a,us,xs,e1,e2,e,q,l,r⟩:=h;subst e e2;unfold Rp;exact⟨a,xs,e1,λz=>(k a z).2 ZS,q,l,r.mono λb z=>(k b z).1⟩
 |n+1,u,v,L,k,h=>by
  obtain⟨a,us,es,M,e1,e2,e,d,z,l,al⟩:=h;subst e e2;unfold Rp;exact⟨a,es.map (·.2.2),e1,λy=>(k a y).2 ZS,d.at z,l,al.rps λu v L' s p=>Dp.rp (λb y=>⟨(k b y).1,λw=>(k b y).2 (ZX _ (s b w))⟩) p⟩
structure At (K:ZQ)(H:Hp)(A:Z5->Prop)(n:Nat)(v:V)(L:List Z5)(m:Nat)(u':U)(v':V)(L':List Z5)(F:U->U):Prop where
 sub:∀b∈L',b∈L
 nod:L.Nodup
 nod':L'.Nodup
 dp:Dp K H A m u' v' L'
 all:Dp K H A n (F u') v L
 put:∀H' A' w L3,yo A A' H H'->(∀b∈L,b∉L'->H' b=H b)->Dp K H' A' m w v' L3->L3.Nodup->(∀b∈L',b∈L3)->(∀b∈L3,b∈L'\/H b=none)->∃L4,Dp K H' A' n (F w) v L4/\L4.Nodup/\(∀b∈L,b∈L4)/\(∀b∈L3,b∈L4)/\(∀b∈L4,b∈L3\/b∈L)
theorem At.root (h:Dp K H A n u v L)(nd:L.Nodup):At K H A n v L n u v L id:=⟨λb h=>h,nd,nd,h,h,λH' A' w L3 g k d n3 s1 s2=>⟨L3,d,n3,s1,λb hb=>hb,λb hb=>.inl hb⟩⟩
theorem Dp.ne (h:Dp K H A n u v L)(hb:b∈L):H b≠none:=λe=>by
 have:=h.mu hb;rw[e] at this;exact this
theorem yo.trans {A2:Z5->Prop}(g:yo A A' H H')(un:∀b,H' b=none->H b=none)(g':yo A' A2 H' H2):yo A A2 H H2:=
 ⟨g.mu,λb o nb e=>g'.ex b o (λz=>by rcases g.nw b z with y|y;exact nb y;rw[e] at y;cases y) (g.ex b o nb e),λb z=>by
  rcases g'.nw b z with y|y
  ·exact g.nw b y
  ·exact .inr (un b y)⟩
theorem At.set {L3:List Z5}{w:U}(h:At K H A n v L m u' v' L' F)(g:yo A A' H H')(k:∀b∈L,b∉L'->H' b=H b)(un:∀b,H' b=none->H b=none)(d:Dp K H' A' m w v' L3)(n3:L3.Nodup)(s1:∀b∈L',b∈L3)(s2:∀b∈L3,b∈L'\/H b=none):∃L4,At K H' A' n v L4 m w v' L3 F/\(∀b∈L,b∈L4)/\(∀b∈L4,b∈L3\/b∈L):=by
 obtain⟨L4,d4,n4,z1,z3,z2⟩:=h.put H' A' w L3 g k d n3 s1 s2;refine⟨L4,⟨z3,n4,n3,d,d4,λH2 A2 w2 L5 g2 k2 d5 n5 t1 t2=>?_⟩,z1,z2⟩;obtain⟨L6,d6,n6,y1,y3,y2⟩:=h.put H2 A2 w2 L5 (g.trans un g2) (λb hb nb=>by
   rw[k2 b (z1 b hb) (λy=>by
    rcases s2 b y with y|y
    ·exact nb y
    ·exact h.all.ne hb y),k b hb nb]) d5 n5 (λb hb=>t1 b (s1 b hb)) (λb hb=>by
   rcases t2 b hb with y|y
   ·exact s2 b y
   ·exact .inr (un b y))
 refine⟨L6,d6,n6,λb hb=>?_,y3,λb hb=>(y2 b hb).imp id (z1 b)⟩;rcases z2 b hb with y|y
 ·exact y3 b (t1 b y)
 ·exact y1 b y
theorem At.keep (h:At K H A n v L m u' v' L' F)(g:yo A A' H H')(k:∀b∈L,H' b=H b)(un:∀b,H' b=none->H b=none):At K H' A' n v L m u' v' L' F:=
 ⟨h.sub,h.nod,h.nod',h.dp.re g λb hb=>k b (h.sub b hb),h.all.re g k,λH2 A2 w2 L5 g2 k2 d5 n5 t1 t2=>h.put H2 A2 w2 L5 (g.trans un g2) (λb hb nb=>by rw[k2 b hb nb,k b hb]) d5 n5 t1 λb hb=>(t2 b hb).imp id (un b)⟩
theorem pX {k w:U}:∀{ks us:List U},k∉ks->ks.length=us.length->adz (λk' u=>if k'=k then w else u) ks us=us
 | [],[],_,_=>rfl
 |x::ks,y::us,h,l=>by
  rw[ab9,hU (λe=>h (by rw[e];exact ZS)),pX (λz=>h (ZX _ z)) (by simpa using l)]
noncomputable abbrev iC (es:List (List U×Z5×V)):List U:=es.map λp=>.tup p.1
theorem vF {k:List U}:U.tup k∈iC es↔k∈es.map (·.1):=by
 rw[aaP,aaP];constructor
 ·rintro⟨p,hp,e⟩;exact⟨p,hp,mn.mp e⟩
 ·rintro⟨p,hp,e⟩;exact⟨p,hp,by rw[e]⟩
theorem iB.find {m:Nat}{k:List U}{x:V}:∀{es:List (List U×Z5×V)} {us:List U} {M:List Z5},iB (Dp K H A m) us (es.map (·.2.2)) M->(es.map (·.1)).Nodup->M.Nodup->gQ es k=some x->
  ∃u' M',fx (iC es) us (.tup k)=some u'/\k∈es.map (·.1)/\adz (λk' u=>if k'=.tup k then u' else u) (iC es) us=us/\(∀b∈M',b∈M)/\M'.Nodup/\Dp K H A m u' x M' /\
   ∀H' A' w M3,yo A A' H H'->(∀b∈M,b∉M'->H' b=H b)->Dp K H' A' m w x M3->M3.Nodup->(∀b∈M',b∈M3)->(∀b∈M3,b∈M'\/H b=none)->
    ∃M4,iB (Dp K H' A' m) (adz (λk' u=>if k'=.tup k then w else u) (iC es) us) (es.map (·.2.2)) M4/\M4.Nodup/\(∀b∈M,b∈M4)/\(∀b∈M3,b∈M4)/\(∀b∈M4,b∈M3\/b∈M)
 | [],_,_,_,_,_,e=>by cases e
 |e::es,us,M,al,nd,nM,hv=>by
  cases us with
  |nil=>obtain⟨z,_⟩:=al;cases z
  |cons u us=>
   obtain⟨v,r,L1,L2,e1,e2,p,q⟩:=al;rw[Z_] at e1;cases e1;subst e2;rw[Z_] at nd;obtain⟨PU,V_⟩:=aa4.mp nd;obtain⟨n1,n2,n3⟩:=abK.mp nM;have ql:(iC es).length=us.length:=by rw[q.length,ZW,ZW]
   unfold gQ at hv;rw[abm] at hv;unfold iC;rw[Z_];unfold fx;by_cases c:e.1=k
   ·rw[hG c] at hv;cases hv;have nk:U.tup k∉iC es:=λz=>PU (by rw[c];exact vF.mp z);refine⟨u,L1,by rw[hV (by rw[c])],by rw[←c];exact ZS,by rw[ab9,ite_self];exact congrArg _ (pX nk ql),λb hb=>aat _ hb,n1,p,λH' A' w M3 g kk d5 n5 t1 t2=>?_⟩;rw[ab9,hV (by rw[c]),pX nk ql];have dj:∀b∈L2,b∉L1:=λb hb z=>n3 b z b hb rfl;refine⟨M3++L2,⟨_,_,M3,L2,rfl,rfl,d5,q.imp λu v L' s y=>y.re g λb hb=>kk b (Z6 _ (s b hb)) (dj b (s b hb))⟩,?_,λb hb=>?_,λb hb=>aat _ hb,λb hb=>?_⟩
    ·refine abK.mpr ⟨n5,n2,λa ha b hb eq=>?_⟩;subst eq;rcases t2 a ha with y|y
     ·exact dj a hb y
     ·obtain⟨_,_,_,z1,z2⟩:=q.mem hb;exact z1.ne z2 y
    ·rcases aai.mp hb with y|y
     ·exact aat _ (t1 b y)
     ·exact Z6 _ y
    ·exact (aai.mp hb).imp id (λy=>Z6 _ y)
   ·rw[hJ c] at hv;obtain⟨u',M',y1,y2,y3,y4,y5,y6,y7⟩:=iB.find q V_ n2 hv;have c':¬U.tup e.1=U.tup k:=λz=>c (mn.mp z);have dj:∀b∈L1,b∉L2:=λb hb z=>n3 b hb b z rfl;refine⟨u',M',by rw[hU c'];exact y1,ZX _ y2,by rw[ab9,hU c',y3],λb hb=>Z6 _ (y4 b hb),y5,y6,λH' A' w M3 g kk d5 n5 t1 t2=>?_⟩;obtain⟨M4,z1,z2,z3,z4,z5⟩:=y7 H' A' w M3 g (λb hb=>kk b (Z6 _ hb)) d5 n5 t1 t2;rw[ab9,hU c'];refine⟨L1++M4,⟨_,_,L1,M4,rfl,rfl,p.re g λb hb=>kk b (aat _ hb) λz=>dj b hb (y4 b z),z1⟩,?_,λb hb=>?_,λb hb=>Z6 _ (z4 b hb),λb hb=>?_⟩
    ·refine abK.mpr ⟨n1,z2,λa ha b hb eq=>?_⟩;subst eq;rcases z5 a hb with y|y
     ·rcases t2 a y with x|x
      ·exact dj a ha (y4 a x)
      ·exact p.ne ha x
     ·exact dj a ha y
    ·rcases aai.mp hb with y|y
     ·exact aat _ y
     ·exact Z6 _ (z3 b y)
    ·rcases aai.mp hb with y|y
     ·exact .inr (aat _ y)
     ·exact (z5 b y).imp id λz=>Z6 _ z
theorem At.child {M:List Z5}{k:List U}{x:V}(h:At K H A n v L (m+1) (.dct (iC es) us) (.ref a) (a::M) F)(d:fA H a es)(z:es=[]->H a=some (.dK []))(l:us.length<=ZY)(al:iB (Dp K H A m) us (es.map (·.2.2)) M)(hv:gQ es k=some x) :
  ∃u' L2,fx (iC es) us (.tup k)=some u'/\F (.dct (j3 (iC es) (.tup k)) (jK (iC es) us (.tup k) u'))=F (.dct (iC es) us)/\At K H A n v L m u' x L2 (λw=>F (.dct (j3 (iC es) (.tup k)) (jK (iC es) us (.tup k) w))):=by
 obtain⟨na,nM⟩:=aa4.mp h.nod';obtain⟨u',M',y1,y2,y3,y4,y5,y6,y7⟩:=al.find d.nd nM hv;have hk:U.tup k∈iC es:=vF.mpr y2;have e1:j3 (iC es) (.tup k)=iC es:=hV hk;have e2:∀w,jK (iC es) us (.tup k) w=adz (λk' u=>if k'=.tup k then w else u) (iC es) us:=λw=>hV hk;have e3:F (.dct (j3 (iC es) (.tup k)) (jK (iC es) us (.tup k) u'))=F (.dct (iC es) us):=by rw[e1,e2,y3]
 refine⟨u',M',y1,e3,⟨λb hb=>h.sub b (ZX _ (y4 b hb)),h.nod,y5,y6,by rw[e3];exact h.all,λH' A' w L3 g kk d5 n5 t1 t2=>?_⟩⟩;have ka:H' a=H a:=kk a (h.sub a ZS) λq=>na (y4 a q);obtain⟨M4,z1,z2,z3,z4,z5⟩:=y7 H' A' w L3 g (λb hb nb=>kk b (h.sub b (ZX _ hb)) nb) d5 n5 t1 t2;have n4:(a::M4).Nodup:=aa4.mpr ⟨λq=>by
  rcases z5 a q with y|y
  ·rcases t2 a y with x|x
   ·exact na (y4 a x)
   ·exact h.dp.ne ZS x
  ·exact na y,z2⟩
 obtain⟨L4,w1,w2,w3,w4,w5⟩:=h.put H' A' (.dct (iC es) (jK (iC es) us (.tup k) w)) (a::M4) g (λb hb nb=>kk b hb λq=>nb (ZX _ (y4 b q)))
  ⟨a,_,es,M4,rfl,rfl,rfl,d.re ka g.tup,(by rw[ka];exact z),by rw[e2,aex];lia,by rw[e2];exact z1⟩ n4 (λb hb=>by
   rcases Z4.mp hb with rfl|hb
   ·exact ZS
   ·exact ZX _ (z3 b hb)) (λb hb=>by
   rcases Z4.mp hb with rfl|hb
   ·exact .inl ZS
   ·rcases z5 b hb with y|y
    ·exact (t2 b y).imp (λq=>ZX _ (y4 b q)) id
    ·exact .inl (ZX _ y))
 refine⟨L4,by rw[e1];exact w1,w2,w3,λb hb=>w4 b (ZX _ (z4 b hb)),λb hb=>?_⟩;rcases w5 b hb with y|y
 ·rcases Z4.mp y with rfl|y
  ·exact .inr (h.sub b ZS)
  ·rcases z5 b y with x|x
   ·exact .inl x
   ·exact .inr (h.sub b (ZX _ x))
 ·exact .inr y
theorem iB.snoc {P:U->V->List Z5->Prop}(p:P u v L'):∀{us:List U} {vs:List V} {L:List Z5},iB P us vs L->iB P (us++[u]) (vs++[v]) (L++L')
 | [],_,_,⟨e1,e2⟩=>by subst e1 e2;exact⟨v,[],L',[],rfl,(aaF _).symm,p,rfl,rfl⟩
 |w::us,_,_,⟨x,r,L1,L2,e1,e2,q,al⟩=>by subst e1 e2;exact⟨x,r++[v],L1,L2++L',rfl,aao _ _ _,q,al.snoc p⟩
theorem Fu {k:List U}(h:gQ es k=none):k∉es.map (·.1):=λz=>by
 obtain⟨e,he,rfl⟩:=aaP.mp z;unfold gQ at h;rw[adU,adO] at h;exact h e he (hG rfl)
theorem Cm {k:List U}(h:gQ es k=none):gQ (es++[(k,b,v)]) k=some v:=by
 unfold gQ at h ⊢;rw[adU] at h;rw[List.find?_append,h];show Option.map _ (List.find? _ _)=_;rw[abm,hG rfl];rfl
theorem Co {k w:U}(h:k∉ks)(l:ks.length=us.length):adz (λk' u=>if k'=k then w else u) (ks++[k]) (us++[u])=us++[w]:=by
 rw[List.zipWith_append l,pX h l];show _++[if k=k then w else u]=_;rw[hV rfl]
theorem xM {k:U}:∀{ks us:List U},k∉ks->fx ks us k=none
 | [],us,_=>by unfold fx;rfl
 |x::ks,[],_=>by unfold fx;rfl
 |x::ks,y::us,h=>by unfold fx;rw[hU (λe=>h (by rw[e];exact ZS))];exact xM λz=>h (ZX _ z)
theorem uC {k u:U}:∀{ks us:List U},k∉ks->ks.length=us.length->fx (ks++[k]) (us++[u]) k=some u
 | [],[],_,_=>by show fx [k] [u] k=_;unfold fx;rw[hV rfl]
 |x::ks,y::us,h,l=>by show fx (x::(ks++[k])) (y::(us++[u])) k=_;unfold fx;rw[hU (λe=>h (by rw[e];exact ZS))];exact uC (λz=>h (ZX _ z)) (by simpa using l)
theorem At.new {H0:Hp}{c:Z5}{M:List Z5}{k:List U}{u0:U}(h:At K H0 A n v L (m+1) (.dct (iC es) us) (.ref a) (a::M) F)(d:fA H0 a es)(l:us.length<ZY)(al:iB (Dp K H0 A m) us (es.map (·.2.2)) M)(mu:∀b,A b->Mu (H0 b))(aa:∀b∈L,A b)(s0:aQ H0 H)(nc:H0 c=none)(kb:yH H k b)(hv:gQ es k=none)(h':H'=c_ H a (DN a ep (yI es k b (.ref c))))(dc:∀H',H' c=H c->(∀b,Mu (H b)\/H' b=H b)->Dp K H' (λb=>A b\/b=c) m u0 (.ref c) [c]) :
  ∃L4 L2,fx (iC es) us (.tup k)=none/\At K H' (λb=>A b\/b=c) n v L4 m u0 (.ref c) L2 (λw=>F (.dct (j3 (iC es) (.tup k)) (jK (iC es) us (.tup k) w)))/\(∀b∈L,b∈L4)/\(∀b∈L4,b∈L\/b=c)/\yo A (λb=>A b\/b=c) H0 H':=by
 have nk:=Fu hv;have OR:U.tup k∉iC es:=λz=>nk (vF.mp z);have ll:(iC es).length=us.length:=by rw[al.length,ZW,ZW]
 have pe:yI es k b (.ref c)=es++[(k,b,.ref c)]:=by unfold yI;rw[hv];rfl
 rw[pe] at h';have aA:A a:=aa a (h.sub a ZS);have ha:H' a=some (DN a ep (es++[(k,b,.ref c)])):=by rw[h'];unfold c_;rw[hV rfl]
 have hb:∀b,b≠a->H' b=H b:=λb nb=>by rw[h'];unfold c_;rw[hU nb]
 have ca:c≠a:=λe=>by
  have:=mu a aA;rw[←e,nc] at this;exact this
 have cM:c∉M:=λz=>h.all.ne (h.sub c (ZX _ z)) nc;obtain⟨na,nM⟩:=aa4.mp h.nod';have g:yo A (λb=>A b\/b=c) H0 H':=⟨mu,λb o nb e=>by rw[hb b (λz=>nb (z▸aA))];exact s0 b o e,λb z=>z.imp id λe=>by rw[e];exact nc⟩;have un:∀b,H' b=none->H0 b=none:=λx e=>by
  by_cases xa:x=a
  ·rw[xa,ha] at e;cases e
  ·rw[hb x xa] at e;cases q:H0 x with
   |none=>rfl
   |some o=>rw[s0 x o q] at e;cases e
 have kL:∀b∈L,b≠a->H' b=H0 b:=λx hx xa=>by
  rw[hb x xa];cases q:H0 x with
  |none=>exact absurd q (h.all.ne hx)
  |some o=>exact s0 x o q
 have d2:fA H' a (es++[(k,b,.ref c)]):=⟨.inl ⟨ep,ha⟩,by
  rw[abp,abK];refine⟨d.nd,aaU _ _,λx hx y hy=>?_⟩;rw[Z_,abO,aag] at hy;subst hy;exact λe=>nk (e▸hx),λe he=>by
  rcases aai.mp he with he|he
  ·exact (d.key e he).to g.tup
  ·rw[aag] at he;subst he;refine kb.to λx ys q=>?_;rw[hb x (λz=>?_)]
   ·exact q
   ·have:=mu a aA;obtain⟨o,e⟩:=this.ex;rw[e] at this;rw[z,s0 a o e] at q;cases q;exact this⟩
 have em:(es++[(k,b,V.ref c)]).map (·.2.2)=es.map (·.2.2)++[.ref c]:=by rw[abp];rfl
 have ek:iC (es++[(k,b,V.ref c)])=iC es++[.tup k]:=by unfold iC;rw[abp];rfl
 have PY:iB (Dp K H' (λb=>A b\/b=c) m) (us++[u0]) ((es++[(k,b,V.ref c)]).map (·.2.2)) (M++[c]):=by
  rw[em];refine iB.snoc (dc H' (hb c ca) λx=>?_) (al.imp λu v L' s p=>p.re g λx hx=>kL x (h.sub x (ZX _ (s x hx))) λe=>na (e▸s x hx));by_cases xa:x=a
  ·refine .inl ?_;have:=mu a aA;obtain⟨o,e⟩:=this.ex;rw[xa,s0 a o e,←e];exact this
  ·exact .inr (hb x xa)
 obtain⟨L4,h4,z1,z2⟩:=h.set (w:=.dct (iC (es++[(k,b,V.ref c)])) (us++[u0])) (L3:=a::(M++[c])) g (λx hx nx=>kL x hx λe=>nx (by rw[e];exact ZS)) un
  ⟨a,_,_,_,rfl,rfl,rfl,d2,(λe=>absurd e (by simp)),by rw[ZZ];exact l,PY⟩
  (aa4.mpr ⟨λz=>by
   rcases aai.mp z with z|z
   ·exact na z
   ·rw[aag] at z;exact ca z.symm,abK.mpr ⟨nM,aaU _ _,λx hx y hy e=>by
    rw[aag] at hy;exact cM (hy▸e▸hx)⟩⟩)
  (λx hx=>by
   rcases Z4.mp hx with hx|hx
   ·rw[hx];exact ZS
   ·exact ZX _ (aat _ hx))
  (λx hx=>by
   rcases Z4.mp hx with hx|hx
   ·rw[hx];exact .inl ZS
   ·rcases aai.mp hx with hx|hx
    ·exact .inl (ZX _ hx)
    ·rw[aag] at hx;rw[hx];exact .inr nc)
 obtain⟨u',L2,y1,y2,y3⟩:=h4.child d2 (λe=>absurd e (by simp)) (by rw[ZZ];exact l) PY (Cm hv);rw[ek,uC OR ll] at y1;cases y1;have e1:j3 (iC es) (.tup k)=iC es++[.tup k]:=hU OR;have e2:∀w,jK (iC es) us (.tup k) w=us++[w]:=λw=>hU OR;have e3:(λw=>F (.dct (j3 (iC (es++[(k,b,V.ref c)])) (.tup k)) (jK (iC (es++[(k,b,V.ref c)])) (us++[u0]) (.tup k) w)))=(λw=>F (.dct (j3 (iC es) (.tup k)) (jK (iC es) us (.tup k) w))):=by
  funext w;have m:U.tup k∈iC es++[.tup k]:=Z6 _ ZS;rw[ek,show j3 (iC es++[.tup k]) (.tup k)=iC es++[.tup k] from hV m,show jK (iC es++[.tup k]) (us++[u0]) (.tup k) w=_ from hV m,Co OR ll,e1,e2]
 rw[e3] at y3;refine⟨L4,L2,xM OR,y3,z1,λx hx=>?_,g⟩;rcases z2 x hx with y|y
 ·rcases Z4.mp y with y|y
  ·rw[y];exact .inl (h.sub a ZS)
  ·rcases aai.mp y with y|y
   ·exact .inl (h.sub x (ZX _ y))
   ·rw[aag] at y;exact .inr y
 ·exact .inl y
end
end L2
namespace L2
open Classical in
noncomputable def Pkg.hx (Z:Pkg)(H:Hp)(L:List Z5):Pkg:=⟨λb=>Z.A0 b\/b∈L,λb=>if b∈L then H b else Z.B b,Z.a0⟩
section
variable {A':Z5->Prop}{ρ':Ev}{σ':St}
theorem oQ (h:b∈L):(Z.hx H L).B b=H b:=hV h
theorem cE (h:b∉L):(Z.hx H L).B b=Z.B b:=hU h
structure kO (K:ZQ)(G:Gm)(Z:Pkg)(A:Z5->Prop)(ρ:Ev)(σ:St)(H:Hp)(i n:Nat)(u:U)(v:V)(L:List Z5):Prop where
 at_:σ[i]? = some (some v)
 nod:L.Nodup
 fr:∀b∈L,Z.B b=none/\¬Z.A0 b
 dp:Dp K H A n u v L
 rel:cH K G (Z.hx H L) A (ρ.set i none) σ H
theorem kO.inA (h:kO K G Z A ρ σ H i n u v L)(hb:b∈L):A b:=h.rel.sup b (.inr hb)
theorem Ht (h:∀b∈L,H' b=H b):Z.hx H' L=Z.hx H L:=by
 unfold Pkg.hx;congr 1;funext b;by_cases c:b∈L
 ·rw[hV c,hV c,h b c]
 ·rw[hU c,hU c]
theorem kO.kept (h:kO K G Z A ρ σ H i n u v L)(s:aQ H H'):∀b∈L,H' b=H b:=λb hb=>by
 cases q:H b with
 |none=>exact absurd q (h.dp.ne hb)
 |some o=>exact s b o q
theorem rP (m:∀b,A b->Mu (H b))(s:aQ H H'):yo A A H H':=⟨m,fg.same s,λb z=>.inl z⟩
theorem vG (s:aQ H H'):∀b,H' b=none->H b=none:=λb e=>by
 cases q:H b with
 |none=>rfl
 |some o=>rw[s b o q] at e;cases e
theorem kO.same (h:kO K G Z A ρ σ H i n u v L)(s:aQ H H'):kO K G Z A ρ σ H' i n u v L:=
 ⟨h.at_,h.nod,h.fr,h.dp.re (rP h.rel.mu s) (h.kept s),by rw[Ht (h.kept s)];exact h.rel.same s⟩
theorem kO.put (h:kO K G Z A ρ σ H i n u v L)(g:yo A A' H H')(aa:∀b,A b->A' b)(k:∀b,b∉L'->H b≠none->H' b=H b)(nd:L'.Nodup)(s1:∀b∈L,b∈L')(s2:∀b∈L',b∈L\/H b=none)(ia:∀b∈L',A' b)(oa:∀b,A' b->A b\/b∈L')
  (d:Dp K H' A' n u' v L') (e:ρ'.set i none=ρ.set i none):kO K G Z A' ρ' σ H' i n u' v L':=by
 have old:∀b,A b->b∉L->b∉L':=λb ha nb z=>by
  rcases s2 b z with y|y
  ·exact nb y
  ·have:=h.rel.mu b ha;rw[y] at this;exact this
 have ne:∀b,A b->H b≠none:=λb ha e=>by
  have:=h.rel.mu b ha;rw[e] at this;exact this
 have nL:∀b,A b->(Z.hx H L).B b=none->b∉L:=λb ha e z=>by
  rw[oQ z] at e;exact ne b ha e
 refine⟨h.at_,nd,λb hb=>?_,d,?_⟩
 ·rcases s2 b hb with y|y
  ·exact h.fr b y
  ·refine⟨?_,λz=>ne b (h.rel.sup b (.inl z)) y⟩;cases q:Z.B b with
   |none=>rfl
   |some o=>
    by_cases c:b∈L
    ·exact absurd y (h.dp.ne c)
    ·have:=h.rel.bas b o (by rw[cE c];exact q);rw[this] at y;cases y
 ·rw[e];exact {
   slot:=λj w hj=>by
    obtain⟨x,x1,x2⟩:=h.rel.slot j w hj;refine⟨x,x1,?_⟩;by_cases c:G.is j=true
    ·rw[hV c] at x2 ⊢;obtain⟨a,e1,e2,e3,e4,e5⟩:=x2;have na:=nL a e2 e3;have RV:=old a e2 na;refine⟨a,e1,aa a e2,?_,e4.imp (λy z=>y (z.imp id λq=>absurd q RV)) id,e5.re g.mu g.ex g.nw λo w=>?_⟩
     ·rw[cE RV];rw[cE na] at e3;exact e3
     ·rw[k a RV (by rw[w];simp)];exact w
    ·rw[hU c] at x2 ⊢;exact x2.re g.mu g.ex g.nw
   dis:=h.rel.dis
   mu:=λb z=>by
    by_cases c:b∈L'
    ·exact d.mu c
    ·rcases oa b z with y|y
     ·rw[k b c (ne b y)];exact h.rel.mu b y
     ·exact absurd y c
   sup:=λb z=>by
    rcases z with z|z
    ·exact aa b (h.rel.sup b (.inl z))
    ·exact ia b z
   out:=λb z=>by
    by_cases c:b∈L'
    ·exact .inl (.inr c)
    ·rcases oa b z with y|y
     ·rcases h.rel.out b y with q|q
      ·rcases q with q|q
       ·exact .inl (.inl q)
       ·exact absurd (s1 b q) c
      ·rw[cE λz=>c (s1 b z)] at q;exact .inr (by rw[cE c];exact q)
     ·exact absurd y c
   bas:=λb o z=>by
    by_cases c:b∈L'
    ·rw[oQ c] at z;exact z
    ·rw[cE c] at z;have cL:b∉L:=λy=>c (s1 b y);have:=h.rel.bas b o (by rw[cE cL];exact z);rw[k b c (by rw[this];simp)];exact this
   io0:=h.rel.io0
   len:=h.rel.len}
theorem cH.hid (q:cH K G Z A ρ σ H)(c:G.is i=true)(hi:G.io=true->i≠0)(h:ρ[i]? = some (some (.dct [] []))):∃a,kO K G Z A ρ σ H i (n+1) (.dct [] []) (.ref a) [a]:=by
 obtain⟨a,h1,h2,h3,h4,h5⟩:=q.own c h;have na:¬Z.A0 a:=by
  rcases h4 with h4|⟨h4,h6⟩
  ·exact h4
  ·exact absurd h6 (hi h4)
 have hk:H a=some (.dK []):=by
  unfold j0 at h5;obtain⟨xs,d,_⟩:=h5;rcases d with⟨cF,d1,d2,_⟩|⟨es,d0,_,d2,_⟩
  ·cases cF with
   |nil=>exact d1
   |cons=>cases d2
  ·cases es with
   |nil=>exact absurd rfl d0
   |cons=>cases d2
 have ne:∀j w b,i≠j->G.is j=true->ρ[j]? = some (some w)->σ[j]? = some (some (.ref b))->b≠a:=λj w b n1 cj e1 e2 e=>by
  subst e;exact q.dis i j _ w b c cj n1 h e1 h1 e2
 refine⟨a,h1,aaU _ _,λb hb=>?_,⟨a,[],[],[],rfl,rfl,rfl,⟨.inr ⟨rfl,hk⟩,ad7,(λe he=>nomatch he)⟩,λ_=>hk,aba _,rfl,rfl⟩,?_⟩
 ·rw[aag] at hb;subst hb;exact⟨h3,na⟩
 ·exact {
   slot:=λj w hj=>by
    rcases cY hj with⟨rfl,e⟩|⟨n1,e⟩
    ·cases e
    ·obtain⟨x,x1,x2⟩:=q.slot j w e;refine⟨x,x1,?_⟩;by_cases cj:G.is j=true
     ·rw[hV cj] at x2 ⊢;obtain⟨b,e1,e2,e3,e4,e5⟩:=x2;subst e1;have nb:=ne j w b n1 cj e x1;have W2:b∉[a]:=λz=>nb (aag.mp z);exact⟨b,rfl,e2,by rw[cE W2];exact e3,e4.imp (λy z=>y (z.elim id λq=>absurd q W2)) id,e5⟩
     ·rw[hU cj] at x2 ⊢;exact x2
   dis:=(q.drop i).dis
   mu:=q.mu
   sup:=λb z=>by
    rcases z with z|z
    ·exact q.sup b z
    ·rw[aag] at z;subst z;exact h2
   out:=λb z=>by
    by_cases y:b∈[a]
    ·exact .inl (.inr y)
    ·exact (q.out b z).imp (λw=>.inl w) λw=>by rw[cE y];exact w
   bas:=λb o z=>by
    by_cases y:b∈[a]
    ·rw[oQ y] at z;exact z
    ·rw[cE y] at z;exact q.bas b o z
   io0:=q.io0
   len:=by rw[aa5];exact q.len}
theorem kO.un (h:kO K G Z A ρ σ H i (n+1) u v L)(c:G.is i=true)(hu:ρ[i]? = some (some u)):cH K G Z (λb=>A b/\(b∈L->v=.ref b)) ρ σ H:=by
 obtain⟨a,us,es,M,e1,e2,e3,d,z,l,al⟩:=id h.dp;subst e1 e2 e3;obtain⟨na,nM⟩:=aa4.mp h.nod;have ha:a∈a::M:=ZS;have nL:∀b,A b->(Z.hx H (a::M)).B b=none->b∉a::M:=λb hA e y=>by
  rw[oQ y] at e;exact h.dp.ne y e
 have av:∀b,(A b/\(b∈a::M->V.ref a=.ref b))->A b/\b∉M:=λb y=>⟨y.1,λw=>by
  have:=y.2 (ZX _ w);cases this;exact na w⟩
 have wj:∀j w,i≠j->ρ[j]? = some (some w)->(ρ.set i none)[j]? = some (some w):=λj w n1 e=>by rw[aav n1];exact e
 exact {
  slot:=λj w hj=>by
   by_cases n1:i=j
   ·subst n1;rw[hu] at hj;cases hj;refine⟨.ref a,h.at_,?_⟩;rw[hV c];refine⟨a,rfl,⟨h.inA ha,λ_=>rfl⟩,(h.fr a ha).1,.inl (h.fr a ha).2,?_⟩;unfold j0;exact⟨es.map (·.2.2),d.at z,l,al.rps λu v L' s p=>Dp.rp (λb y=>⟨y.1,λw=>(av b y).2 (s b w)⟩) p⟩
   ·obtain⟨x,x1,x2⟩:=h.rel.slot j w (wj j w n1 hj);refine⟨x,x1,?_⟩;by_cases cj:G.is j=true
    ·rw[hV cj] at x2 ⊢;obtain⟨b,e1,e2,e3,e4,e5⟩:=x2;have nb:=nL b e2 e3;exact⟨b,e1,⟨e2,λy=>absurd y nb⟩,by rw[cE nb] at e3;exact e3,e4.imp (λy w=>y (.inl w)) id,e5.mono λb y=>y.1⟩
    ·rw[hU cj] at x2 ⊢;exact x2.mono λb y=>y.1
  dis:=λj k w w' b cj ck n1 hj hk sj sk=>by
   have key:∀k w',G.is k=true->i≠k->ρ[k]? = some (some w')->σ[k]? ≠ some (some (.ref a)):=λk w' ck n2 e y=>by
    obtain⟨b,x1,x2,x3,_⟩:=h.rel.own ck (wj k w' n2 e);rw[x1] at y;cases y;exact nL a x2 x3 ha
   by_cases n2:i=j
   ·subst n2;rw[h.at_] at sj;cases sj;exact key k w' ck n1 hk sk
   ·by_cases n3:i=k
    ·subst n3;rw[h.at_] at sk;cases sk;exact key j w cj n2 hj sj
    ·exact h.rel.dis j k w w' b cj ck n1 (wj j w n2 hj) (wj k w' n3 hk) sj sk
  mu:=λb y=>h.rel.mu b y.1
  sup:=λb y=>⟨h.rel.sup b (.inl y),λw=>absurd y (h.fr b w).2⟩
  out:=λb y=>by
   by_cases w:b∈a::M
   ·exact .inr (h.fr b w).1
   ·rcases h.rel.out b y.1 with q|q
    ·exact .inl (q.elim id λx=>absurd x w)
    ·rw[cE w] at q;exact .inr q
  bas:=λb o y=>by
   have w:b∉a::M:=λx=>by rw[(h.fr b x).1] at y;cases y
   exact h.rel.bas b o (by rw[cE w];exact y)
  io0:=h.rel.io0
  len:=by have:=h.rel.len;rw[aa5] at this;exact this}
theorem cH.pkg {Z':Pkg}(q:cH K G Z A ρ σ H)(e0:Z'.a0=Z.a0)(e1:∀b,Z'.A0 b↔Z.A0 b)(hB:∀b,A b->Z.B b=none->Z'.B b=none)(bas:∀b o,Z'.B b=some o->H b=some o):cH K G Z' A ρ σ H where
 slot:=λj w hj=>by
  obtain⟨x,x1,x2⟩:=q.slot j w hj;refine⟨x,x1,?_⟩;by_cases c:G.is j=true
  ·rw[hV c] at x2 ⊢;obtain⟨b,yj,e2,e3,e4,e5⟩:=x2;exact⟨b,yj,e2,hB b e2 e3,e4.imp (λy z=>y ((e1 b).mp z)) id,e5⟩
  ·rw[hU c] at x2 ⊢;exact x2
 dis:=q.dis
 mu:=q.mu
 sup:=λb z=>q.sup b ((e1 b).mp z)
 out:=λb z=>(q.out b z).imp (λy=>(e1 b).mpr y) (hB b z)
 bas:=bas
 io0:=λz=>by rw[e0];exact q.io0 z
 len:=q.len
theorem kO.lp (h:kO K G Z A ρ σ H i n u v L):kO K G (Z.lp A H) A ρ σ H i n u v L:=
 ⟨h.at_,h.nod,λb hb=>⟨kF (h.inA hb) (h.fr b hb).1,(h.fr b hb).2⟩,h.dp,h.rel.pkg rfl (λb=>Iff.rfl) (λb ha e=>by
  by_cases c:b∈L
  ·rw[oQ c] at e ⊢;exact e
  ·rw[cE c] at e ⊢;exact kF ha e) λb o e=>by
  by_cases c:b∈L
  ·rw[oQ c] at e;exact e
  ·rw[cE c] at e;by_cases y:A b/\Z.B b=none
   ·rw[kF y.1 y.2] at e;cases e
   ·rw[iV y] at e;exact e⟩
theorem Ju (h:kO K G Z A ρ σ H i n u v L)(e:(Z.lp A H).B b=none):Z.B b=none:=by
 rcases qD e with y|y
 ·exact y.2
 ·cases q:Z.B b with
  |none=>rfl
  |some o=>
   have c:b∉L:=λz=>by rw[(h.fr b z).1] at q;cases q
   have:=h.rel.bas b o (by rw[cE c];exact q);rw[this] at y;cases y
theorem kO.unlp (h:kO K G Z A ρ σ H i n u v L)(h':kO K G (Z.lp A H) A' ρ' σ' H' i n u' v' L'):kO K G Z A' ρ' σ' H' i n u' v' L' :=
 ⟨h'.at_,h'.nod,λb hb=>⟨Ju h (h'.fr b hb).1,(h'.fr b hb).2⟩,h'.dp,h'.rel.pkg rfl (λb=>Iff.rfl) (λb ha e=>by
  by_cases c:b∈L'
  ·rw[oQ c] at e ⊢;exact e
  ·rw[cE c] at e ⊢;exact Ju h e) λb o e=>by
  by_cases c:b∈L'
  ·rw[oQ c] at e;exact e
  ·rw[cE c] at e;refine h'.rel.bas b o ?_;rw[cE c,iV (λy=>by rw[e] at y;exact nomatch y.2)];have cL:b∉L:=λz=>by rw[(h.fr b z).1] at e;cases e
   exact h.rel.bas b o (by rw[cE cL];exact e)⟩
theorem kO.ext (h:kO K G Z A ρ σ H i n u v L)(h':kO K G (Z.lp A H) A' ρ' σ' H' i n u' v' L'):fg A H H'/\∀b,A' b->A b\/H b=none:=by
 refine⟨λb o nb e=>?_,λb z=>?_⟩
 ·have lb:(Z.lp A H).B b=some o:=by rw[iV (λy=>nb y.1)];exact e
  have c:b∉L':=λy=>by rw[(h'.fr b y).1] at lb;cases lb
  exact h'.rel.bas b o (by rw[cE c];exact lb)
 ·have f:(Z.lp A H).B b=none->A b\/H b=none:=λy=>(qD y).imp (λw=>w.1) id;rcases h'.rel.out b z with y|y
  ·rcases y with y|y
   ·exact .inl (h.rel.sup b (.inl y))
   ·exact f (h'.fr b y).1
  ·by_cases c:b∈L'
   ·exact f (h'.fr b c).1
   ·rw[cE c] at y;exact f y
def mS (K:ZQ)(G:Gm)(Z:Pkg)(i n:Nat):SR->lF->Prop
 | .nx ρ',D=>∀A' σ' H' u' v' L',kO K G Z A' ρ' σ' H' i n u' v' L'->ρ'[i]? = some (some u')->D.nx σ' H'
 | .bk ρ',D=>∀A' σ' H' u' v' L',kO K G Z A' ρ' σ' H' i n u' v' L'->ρ'[i]? = some (some u')->D.bk σ' H'
 | .ct ρ',D=>∀A' σ' H' u' v' L',kO K G Z A' ρ' σ' H' i n u' v' L'->ρ'[i]? = some (some u')->D.ct σ' H'
 |_,_=>False
def Ww (K:ZQ)(G:Gm)(i n:Nat)(g:Ev->SR):TS:=λD σ H=>∃Z A ρ u v L,kO K G Z A ρ σ H i n u v L/\ρ[i]? = some (some u)/\mS K G Z i n (g ρ) D
theorem mS.lp (h:kO K G Z A ρ σ H i n u v L){r:SR}{D:lF}(f:mS K G Z i n r D):mS K G (Z.lp A H) i n r D:=by
 cases r with
 |nx=>exact λA' σ' H' u' v' L' h'=>f A' σ' H' u' v' L' (h.unlp h')
 |bk=>exact λA' σ' H' u' v' L' h'=>f A' σ' H' u' v' L' (h.unlp h')
 |ct=>exact λA' σ' H' u' v' L' h'=>f A' σ' H' u' v' L' (h.unlp h')
 |rt=>exact f.elim
 |exc=>exact f.elim
 |stk=>exact f.elim
theorem mS.of {α:Type}{x:R α}{k:α->SR}{D:lF}(f:mS K G Z i n (SR.of x k) D):∃a,x=.ok a/\mS K G Z i n (k a) D:=by
 cases x with
 |ok a=>exact⟨a,rfl,f⟩
 |exc=>exact f.elim
 |stk=>exact f.elim
end
structure DD (X:Cx)(G:Gm)(i n:Nat)(st:ad9)(g:Ev->SR):Prop where
 un:PS X st (Ww X.K G i n g)
structure N7 (X:Cx)(G:Gm)(i n:Nat)(st:List ad9)(g:Ev->SR):Prop where
 un:sJ X st (Ww X.K G i n g)
section
variable {e a b o f:abE}{rest:List ad9}{es:List abE}{gI cpos:Pos}{b1 b2:Bool}{m1 m2 m:Md}{g1 g2:Ev->R (U×Ev)}{h1:Ev->R (Bool×Ev)}{s1 s2:Ev->SR}
theorem Hu:N7 X G i n [] bM:=⟨zY.to λD σ H ⟨Z,A,ρ,u,v,L,h,hu,f⟩=>f A σ H u v L h hu⟩
theorem Bd (h:DD X G i n st s1):N7 X G i n [st] s1:=⟨zZ h.un⟩
noncomputable def Lp (i:Nat)(h:Ev->R (Bool×Ev))(s1 s2:Ev->SR):Ev->SR:=λρ=>SR.of (h (ρ.set i none)) λx=>if x.1=true then s1 ρ else s2 ρ
theorem N8 {a b:List ad9}(hc:DT X G c false h1)(ha:N7 X G i n a s1)(hb:N7 X G i n b s2):DD X G i n (.If c a b pos) (Lp i h1 s1 s2):=⟨(HX hc.un ha.un hb.un).to λD σ H h00=>by
 obtain⟨Z,A,ρ,u,v,L,h,hu,f⟩:=h00;obtain⟨⟨k,ρ1⟩,e1,f⟩:=f.of;refine⟨Z.hx H L,A,ρ.set i none,h.rel,?_⟩;rw[e1];intro H1 q1 _ s1;have sm:=(s1 rfl).2;cases k with
 |true=>rw[hV rfl] at f ⊢;exact⟨Z,A,ρ,u,v,L,h.same sm,hu,f⟩
 |false=>rw[hU ZV] at f ⊢;exact⟨Z,A,ρ,u,v,L,h.same sm,hu,f⟩⟩
noncomputable def Cp (i:Nat)(sg:U->Ev->R Ev)(s:Ev->SR):List U->Ev->SR
 | [],ρ=>.nx ρ
 |u::us,ρ=>SR.of (sg u (ρ.set i none)) λρ1=>match s (ρ1.set i (ρ[i]?.getD none)) with
   | .nx ρ2=>Cp i sg s us ρ2
   | .ct ρ2=>Cp i sg s us ρ2
   | .bk ρ2=>.nx ρ2
   |r=>r
noncomputable def Fv (i:Nat)(gi:Ev->R (List U×Ev))(sg:U->Ev->R Ev)(s:Ev->SR):Ev->SR:=λρ=>SR.of (gi (ρ.set i none)) λx=>Cp i sg s x.1 ρ
theorem Lq {gi:Ev->R (List U×Ev)}(hp:afe (aar X.prog X.w) X.A X.env X.xe)(hc:X.calm=true)(hi:DI X G tg iter false false gi)(hg:DG X G tg sg)(hb:N7 X G i n body s1)(ci:G.is i=true:=by rfl)(hs:∀x,abj iter X.env x=pure x:=by intro _;rfl):DD X G i n (.For tg iter body [] pos) (Fv i gi sg s1):=⟨(Ae hp hc hi.un hg.un hb.un hs).to λD σ H h00=>by
 obtain⟨Z,A,ρ,u,v,L,h,hu,f⟩:=h00;obtain⟨⟨us,ρ1⟩,e1,f⟩:=f.of;refine⟨Z.hx H L,A,ρ.set i none,h.rel,?_⟩;rw[e1];intro J H1 q1 x1 yi wk;have h1:=h.same (yi rfl).2;dsimp only at f;obtain⟨hz,wk⟩:=wk;refine⟨λj k σ H=>j+k=us.length/\∃A' ρ' u' v' L',kO X.K G (Z.lp A H1) A' ρ' σ H i n u' v' L'/\ρ'[i]? = some (some u')/\mS X.K G (Z.lp A H1) i n (Cp i sg s1 (us.drop j) ρ') D,⟨us.length,by lia,A,ρ,u,v,L,h1.lp,hu,by rw[ad8];exact f.lp h1⟩,?_⟩;rintro j k σ H ⟨hk,A',ρ',u',v',L',h',dD,f'⟩;obtain⟨ex,nw⟩:=h1.ext h';obtain⟨w1,w2⟩:=wk H A' (by rw[hU ZV];exact ex) nw;by_cases yp:j<us.length
 ·have eu:us[j]? = some us[j]:=ZM yp;obtain⟨go,yl⟩:=w1 j _ eu;rw[aa8 yp] at f';unfold Cp at f';obtain⟨ρ2,e2,f2⟩:=f'.of;refine .inr ⟨go,λσ H=>∃A' ρ' u' v' L',kO X.K G (Z.lp A H1) A' ρ' σ H i n u' v' L'/\ρ'[i]? = some (some u')/\mS X.K G (Z.lp A H1) i n (Cp i sg s1 (us.drop (j+1)) ρ') D,λσ' H' z=>⟨k-1,by lia,by lia,z⟩,λx H' y=>?_⟩;obtain⟨sm,rp⟩:=yl x H' y;have h2:=h'.same sm;refine⟨(Z.lp A H1).hx H' L',A',ρ'.set i none,us[j],h2.rel,rp,?_⟩;rw[e2];intro σ2 q2 keep;have JR:σ2[i]? = some (some v'):=by rw[keep i ci];exact h2.at_
  have il:i<ρ2.length:=by
   rw[q2.len];exact (Z0.mp JR).1
  have RW:(ρ2.set i (some u'))[i]? = some (some u'):=ab7 il;rw[dD,acK] at f2;refine⟨Z.lp A H1,A',ρ2.set i (some u'),u',v',L',⟨JR,h2.nod,h2.fr,h2.dp,by rw[List.set_set];exact q2.drop i⟩,RW,?_⟩;cases e3:s1 (ρ2.set i (some u')) with
  |nx ρ3=>rw[e3] at f2;exact λA3 σ3 H3 u3 v3 L3 h3 RX=>⟨A3,ρ3,u3,v3,L3,h3,RX,f2⟩
  |ct ρ3=>rw[e3] at f2;exact λA3 σ3 H3 u3 v3 L3 h3 RX=>⟨A3,ρ3,u3,v3,L3,h3,RX,f2⟩
  |bk ρ3=>rw[e3] at f2;exact f2
  |rt=>rw[e3] at f2;exact f2
  |exc=>rw[e3] at f2;exact f2
  |stk=>rw[e3] at f2;exact f2
 ·have e:j=us.length:=by lia
  subst e;rw[adm] at f';exact .inl ⟨w2,f' A' σ H u' v' L' h' dD⟩⟩
noncomputable def Be (i:Nat)(g:Ev->SR):Ev->SR:=λρ=>match ρ[i]? with
 |some (some (.dct [] []))=>match g ρ with
  | .nx ρ'=>.nx ρ'
  | .bk ρ'=>.bk ρ'
  | .ct ρ'=>.ct ρ'
  |_=>.stk
 |_=>.stk
theorem Hv (h:DD X G i (n+1) st s1)(hi:G.io=true->i≠0:=by decide)(c:G.is i=true:=by rfl):DS X G m st (Be i s1):=⟨h.un.to λD σ H h00=>by
 obtain⟨Z,A,ρ,q,f⟩:=h00;unfold Be at f;split at f
 ·rename_i hu;obtain⟨a,hd⟩:=q.hid (n:=n) c hi hu;refine⟨Z,A,ρ,_,_,_,hd,hu,?_⟩;cases e:s1 ρ with
  |nx=>rw[e] at f;exact λA' σ' H' u' v' L' h' dD=>f _ σ' H' (h'.un c dD)
  |bk=>rw[e] at f;exact λA' σ' H' u' v' L' h' dD=>f _ σ' H' (h'.un c dD)
  |ct=>rw[e] at f;exact λA' σ' H' u' v' L' h' dD=>f _ σ' H' (h'.un c dD)
  |rt=>rw[e] at f;exact f.elim
  |exc=>rw[e] at f;exact f.elim
  |stk=>rw[e] at f;exact f.elim
 ·exact f.elim⟩
end
end L2
namespace L2
noncomputable def Bf (i:Nat):Ev->R (U×(U->U)):=λρ=>match ρ[i]? with
 |some (some u)=>.ok (u,id)
 |_=>.stk
noncomputable def uD (i:Nat)(e0:U)(gp:Ev->R (U×(U->U)))(gk:Ev->R (U×Ev)):Ev->R (U×(U->U)):=λρ=>(gp ρ).bind λx=>(gk (ρ.set i none)).bind λk=>match x.1 with
 | .dct ks us=>if BU k.1=true/\us.length<ZY then .ok ((fx ks us k.1).getD e0,λw=>x.2 (.dct (j3 ks k.1) (jK ks us k.1 w))) else .stk
 |_=>.stk
def PD (K:ZQ)(G:Gm)(i n m:Nat)(gp:Ev->R (U×(U->U))):TE:=λσ H Q=>∃Z A ρ u v L,kO K G Z A ρ σ H i n u v L/\ρ[i]? = some (some u)/\match gp ρ with
 | .ok (u',F)=>∀A1 H1 L1 v' L',kO K G Z A1 ρ σ H1 i n (F u') v L1->At K H1 A1 n v L1 m u' v' L' F->Q v' H1
 |_=>False
noncomputable def PF:Nat->HO
 |0=>.lst []
 |_+1=>.dK []
noncomputable def zE:Nat->U
 |0=>.lst []
 |_+1=>.dct [] []
def QW (m:Nat):TE:=λ_ H Q=>∀p,H p=none->Q (.ref p) (c_ H p (PF m))
theorem Lr {c:Z5}:∀{m:Nat},H c=some (PF m)->Dp K H A m (zE m) (.ref c) [c]
 |0,h=>⟨c,[],[],rfl,rfl,rfl,h,aba _,aK.nil⟩
 |m+1,h=>⟨c,[],[],[],rfl,rfl,rfl,⟨.inr ⟨rfl,h⟩,ad7,(λe he=>nomatch he)⟩,λ_=>h,aba _,rfl,rfl⟩
theorem Dp.self {c:Z5}:∀{m:Nat},Dp K H A m u (.ref c) L->c∈L
 |0,⟨a,_,_,e,_,e2,_⟩=>by cases e;subst e2;exact ZS
 |m+1,⟨a,_,_,_,e,_,e2,_⟩=>by cases e;subst e2;exact ZS
section
variable {e o f:abE}{gI cpos p1:Pos}{y:Str}{mk:Md}{gk:Ev->R (U×Ev)}{gp:Ev->R (U×(U->U))}
theorem Hw:PE X (.Dict [] [] pos) (QW (m+1)):=wH
theorem Hx:PE X (.List [] pos) (QW 0):=(C3 p8).to λσ H Q h=>⟨aba _,h⟩
theorem Hy (i:Nat)(hN:X.N[i]? = some y:=by rfl)(hv:F9 X.env.scope y:=by first|exact Or.inl rfl|exact Or.inr (Or.inl rfl)|exact Or.inr (Or.inr rfl))(hd:(y==("__debug__":Str))=false:=by decide)
  (sv:(y==("__classdict__":Str))=false:=by decide):PE X (.Name y pos) (PD X.K G i n n (Bf i)):=(lG hN hv hd sv).to λσ H Q h00=>by
 obtain⟨Z,A,ρ,u,v,L,h,hu,f⟩:=h00;unfold Bf at f;rw[hu] at f;exact⟨v,h.at_,f A H L v L h (.root h.dp h.nod)⟩
theorem Bg (hu:X.A.units+64<abH)(ho:PE X o (PD X.K G i n (m+1) gp))(he:DE X G e false mk gk)(hf:PE X f (QW m))(hn:mk≠.P:=by decide)(M:M2 X o "setdefault" gI e f cpos:=by exact⟨rfl,rfl,rfl,rfl⟩) :
  PE X (.Call (.Attribute o "setdefault" gI) [e,f] [] cpos) (PD X.K G i n m (uD i (zE m) gp gk)):=(Hs hu ho he.un hf M).to λσ H Q h00=>by
 obtain⟨Z,A,ρ,u,v,L,hd,hu0,f⟩:=h00;unfold uD at f;cases e1:gp ρ with
 |stk=>rw[e1] at f;exact f.elim
 |exc=>rw[e1] at f;exact f.elim
 |ok x=>
  obtain⟨u1,F⟩:=x;rw[e1] at f;dsimp only[R.bind] at f;cases e2:gk (ρ.set i none) with
  |stk=>rw[e2] at f;exact f.elim
  |exc=>rw[e2] at f;exact f.elim
  |ok k=>
   obtain⟨k,ρk⟩:=k;rw[e2] at f;dsimp only[R.bind] at f;refine⟨Z,A,ρ,u,v,L,hd,hu0,?_⟩;rw[e1];intro A1 H1 L1 v' L' CC kr;obtain⟨a,us,es,M,r1,r2,r3,d,z,l,al⟩:=id kr.dp;subst r1 r2 r3;dsimp only at f;split at f;rotate_left
   ·exact f.elim
   rename_i u' F' ef;split at ef;rotate_left
   ·cases ef
   rename_i hk;cases ef;refine⟨a,rfl,.inr ⟨es,d⟩,Z.hx H1 L1,A1,ρ.set i none,CC.rel,?_⟩;rw[e2];intro vk H2 q2 x2 s2 uM;have PX:=(s2 rfl).2;intro c nc;have s3:aQ H2 (c_ H2 c (PF m)):=de nc _;have Mo:=PX.trans s3;have zT:BU k=true:=hk.1;cases k<;>first|(cases zT;done)|skip
   rename_i kk;obtain⟨b,rfl,kb⟩:=D5 zT (uM.rp hn);have W3:yH (c_ H2 c (PF m)) kk b:=kb.to λx ys q=>s3 x _ q;have RY:=rP CC.rel.mu Mo;have L7:=CC.kept Mo;have X_:=kr.keep RY L7 (vG Mo);have ka:=L7 a (kr.sub a ZS);have d3:=d.re ka RY.tup;have Ya:=al.imp λu v L' s (p:Dp X.K H1 A1 m u v L')=>p.re RY λb hb=>L7 b (kr.sub b (ZX _ (s b hb)));have hl:es.length=us.length:=by rw[al.length,ZW]
   refine⟨es,kk,b,d3,rfl,W3,by lia,λx hx=>?_,λhx ep=>?_⟩
   ·obtain⟨u',L2,y1,y2,y3⟩:=X_.child d3 (by rw[ka];exact z) l Ya hx;rw[show fx (es.map λp=>U.tup p.1) us (.tup kk)=some u' from y1,acK] at f;refine f A1 _ L1 x L2 ?_ y3;show kO _ _ _ _ _ _ _ _ _ (F (.dct (j3 (iC es) (.tup kk)) (jK (iC es) us (.tup kk) u'))) _ _;rw[y2];exact CC.same Mo
   ·have W4:H1 c=none:=vG PX c nc;obtain⟨L4,L2,y1,y3,z1,z2,g⟩:=At.new (H0:=H1) (c:=c) (u0:=zE m) (ep:=ep) kr d hk.2 al CC.rel.mu (λb hb=>CC.inA hb) Mo W4 W3 hx rfl (λH' e _=>Lr (by rw[e];exact bS));rw[show fx (es.map λp=>U.tup p.1) us (.tup kk)=none from y1,adk] at f;refine f _ _ L4 (.ref c) L2 (CC.put g (λb z=>.inl z) (λb nb ne=>?_) y3.nod z1 (λb hb=>?_) (λb hb=>?_) (λb z=>?_) y3.all rfl) y3
    ·have:b≠a:=λq=>nb (by rw[q];exact z1 a (kr.sub a ZS));show (if b=a then _ else _)=_;rw[hU this];cases q:H1 b with
     |none=>exact absurd q ne
     |some o=>exact Mo b o q
    ·rcases z2 b hb with y|y
     ·exact .inl y
     ·rw[y];exact .inr W4
    ·exact (z2 b hb).imp (λy=>CC.inA y) id
    ·rcases z with z|z
     ·exact .inl z
     ·rw[z];exact .inr (y3.sub c y3.dp.self)
noncomputable def Ls (i:Nat)(gp:Ev->R (U×(U->U)))(g:Ev->R (U×Ev)):Ev->SR:=λρ=>SR.of (gp ρ) λx=>SR.of (g (ρ.set i none)) λy=>match x.1 with
 | .lst us=>if us.length<ZY then .nx (ρ.set i (some (x.2 (.lst (us++[y.1]))))) else .stk
 |_=>.stk
theorem Lu (ho:PE X o (PD X.K G i n 0 gp))(he:DE X G e false mk gk)(hn:mk≠.P:=by decide)
  (yf:adG o "append" X.env (ade o X.env)=ade o X.env:=by rfl)
  (FK:((acq cpos (aaf [e] X.env)).all (λx=> !x.1)&&(backToKw cpos (aet [] X.env)).all (λx=>x.1.isSome)
   && decide ([e].length+([]:List aeb).length+(if ([]:List aeb).isEmpty then 0 else 1)<30))=true:=by rfl)
  (yg:(gI.endLine==cpos.line)=true:=by rfl) (hs:aaf [e] X.env=(false,ade e X.env)::aaf [] X.env:=by rfl) (sC:(acq cpos (aaf [] X.env)).any (·.1)=false:=by rfl)
  (hw:ad_ (.Call (.Attribute o "append" gI) [e] [] cpos) none pos.line X.env=pure false:=by rfl) :
  DD X G i n (.Expr (.Call (.Attribute o "append" gI) [e] [] cpos) pos) (Ls i gp gk):=⟨(z9 (Ib aa3 adB adC ng ho (ae (p:=false) he ai (λh=>absurd h hn) hs).un yf FK yg hs sC) hw).to λD σ H h00=>by
 obtain⟨Z,A,ρ,u,v,L,hd,hu0,f⟩:=h00;obtain⟨⟨u1,F⟩,e1,f⟩:=f.of;obtain⟨⟨y,ρy⟩,e2,f⟩:=f.of;dsimp only at e2 f;refine⟨Z,A,ρ,u,v,L,hd,hu0,?_⟩;rw[e1];intro A1 H1 L1 v' L' CC kr;obtain⟨a,us,xs,r1,r2,r3,q,l,r⟩:=id kr.dp;subst r1 r2 r3;dsimp only at f;split at f;rotate_left
 ·exact f.elim
 rename_i hl;refine⟨.inl ⟨rfl,xs,.inl (.inl q)⟩,Z.hx H1 L1,A1,ρ.set i none,CC.rel,?_⟩;unfold af;rw[e2];intro vs H2 q2 x2 s2 uM;have sm:=(s2 rfl).2;have rr:=uM.rps;unfold aK at rr;obtain⟨w,wr,rfl,rw1,rw2⟩:=rr;unfold aK at rw2;subst rw2;have JR:=kr.keep (rP CC.rel.mu sm) (CC.kept sm) (vG sm);have zV:=CC.same sm;have Yb:H2 a=some (.lst xs):=sm a _ q;have r2:=r.same sm;refine⟨a,xs,w,rfl,rfl,Yb,by rw[←r.length];exact hl,?_⟩;have aA:A1 a:=zV.inA (JR.sub a ZS);have hb:∀b,b≠a->c_ H2 a (.lst (xs++[w])) b=H2 b:=λb nb=>by unfold c_;rw[hU nb]
 have g:yo A1 A1 H2 (c_ H2 a (.lst (xs++[w]))):=⟨zV.rel.mu,λb o nb e=>by rw[hb b (λz=>nb (z▸aA))];exact e,λb z=>.inl z⟩;obtain⟨L4,d4,n4,z1,z3,z2⟩:=JR.put _ A1 (.lst (us++[y])) [a] g (λb tF nb=>hb b λz=>nb (by rw[z];exact ZS))
  ⟨a,_,_,rfl,rfl,rfl,bS,by rw[ZZ];exact hl,(r2.snoc rw1).re g.mu g.ex g.nw⟩ (aaU _ _) (λb hb=>hb) (λb hb=>.inl hb)
 have il:i<ρ.length:=by
  have:=zV.rel.len;rw[aa5] at this;rw[this];exact (Z0.mp zV.at_).1
 refine f A1 σ _ _ v L4 (zV.put g (λb z=>z) (λb nb ne=>hb b λz=>nb (z3 b (by rw[z];exact ZS))) n4 z1 (λb tF=>?_) (λb tF=>?_) (λb z=>.inl z) d4 (List.set_set _)) (ab7 il)
 ·rcases z2 b tF with x|x
  ·rw[aag] at x;rw[x];exact .inl (JR.sub a ZS)
  ·exact .inl x
 ·rcases z2 b tF with x|x
  ·rw[aag] at x;rw[x];exact aA
  ·exact zV.inA x⟩
end
end L2
namespace Hc.Ts
open PySem.W
noncomputable def jU:List (List Int)->List (List Int)->Bool
 | [],[]=>false
 | [],_::_=>true
 |_::_,[]=>false
 |x::xs,y::ys=>if x=y then jU xs ys else fy x y
theorem oR:∀a,jU a a=false
 | []=>rfl
 |x::xs=>by unfold jU;rw[hV rfl];exact oR xs
theorem rQ:∀a b c,jU a b=true->jU b c=true->jU a c=true
 | [],[],_,h,_=>by cases h
 | [],_::_,[],_,h=>by cases h
 | [],_::_,_::_,_,_=>rfl
 |_::_,[],_,h,_=>by cases h
 |_::_,_::_,[],_,h=>by cases h
 |x::xs,y::ys,z::zs,h1,h2=>by
  unfold jU at h1 h2 ⊢;by_cases e1:x=y
  ·subst e1;rw[hV rfl] at h1;by_cases e2:x=z
   ·subst e2;rw[hV rfl] at h2 ⊢;exact rQ xs ys zs h1 h2
   ·rw[hU e2] at h2 ⊢;exact h2
  ·rw[hU e1] at h1;by_cases e2:y=z
   ·subst e2;rw[hU e1];exact h1
   ·rw[hU e2] at h2;have h3:=lT x y z h1 h2;rw[hU (λe=>by subst e;rw[j7] at h3;cases h3)];exact h3
theorem xN:∀a b c,jU a c=true->jU a b=true\/jU b c=true
 | [],[],_::_,_=>.inr rfl
 | [],_::_,_::_,_=>.inl rfl
 | [],_,[],h=>by cases h
 |_::_,_,[],h=>by cases h
 |_::_,[],_::_,_=>.inr rfl
 |x::xs,y::ys,z::zs,h=>by
  unfold jU at h ⊢;by_cases e:x=z
  ·subst e;rw[hV rfl] at h;by_cases e2:x=y
   ·subst e2;rw[hV rfl,hV rfl];exact xN xs ys zs h
   ·rw[hU e2,hU (λq=>e2 q.symm)];cases c1:fy x y with
    |true=>exact .inl rfl
    |false=>
     cases c2:fy y x with
     |true=>exact .inr rfl
     |false=>exact absurd (iA x y c1 c2) e2
  ·rw[hU e] at h;by_cases e2:x=y
   ·subst e2;exact .inr (by rw[hU e];exact h)
   ·by_cases e3:y=z
    ·subst e3;exact .inl (by rw[hU e];exact h)
    ·rw[hU e2,hU e3];exact rF x y z h
theorem rR:∀a b,jU a b=false->jU b a=false->a=b
 | [],[],_,_=>rfl
 | [],_::_,h,_=>by cases h
 |_::_,[],_,h=>by cases h
 |x::xs,y::ys,h1,h2=>by
  unfold jU at h1 h2;by_cases e:x=y
  ·subst e;rw[hV rfl] at h1 h2;rw[rR xs ys h1 h2]
  ·rw[hU e] at h1;rw[hU (λq=>e q.symm)] at h2;exact absurd (iA x y h1 h2) e
noncomputable def zF:afd:=⟨List (List Int),jU,oR,rQ,xN,rR⟩
inductive kg (h:acj):List ZO->List (List Int)->Prop
 |nil:kg h [] []
 |cons {t:Z5} {its:Array ZO} {ns:List Int} {vs:List ZO} {cZ:List (List Int)}:h.IsTuple t its->abW its.toList ns->kg h vs cZ->kg h (.ref t::vs) (ns::cZ)
theorem kg.keep (k:∀b o,h.get? b=some o->h'.get? b=some o){vs:List ZO}(t:kg h vs cZ):kg h' vs cZ:=by
 induction t with
 |nil=>exact .nil
 |cons a i _ ih=>
  obtain⟨o,e,r⟩:=a;exact .cons ⟨o,k _ _ e,r⟩ i ih
theorem kg.length {vs:List ZO}(t:kg h vs cZ):vs.length=cZ.length:=by
 induction t with
 |nil=>rfl
 |cons _ _ _ ih=>rw[ZT,ZT,ih]
def lV (h:acj)(a:Z5)(cZ:List (List Int)):Prop:=∃its,h.IsTuple a its/\kg h its.toList cZ
theorem lV.keep (k:∀b o,h.get? b=some o->h'.get? b=some o)(t:lV h a cZ):lV h' a cZ:=by
 obtain⟨its,⟨o,e,r⟩,t⟩:=t;exact⟨its,⟨o,k _ _ e,r⟩,t.keep k⟩
section
variable {A:aaD}{fin:Bool}{Q:Bool->Z8->Prop}
theorem xO (hu:A.units<abH):∀{xs ys:List ZO} {ns ms:List (List Int)} {i:Nat},kg s.heap xs ns->kg s.heap ys ms->fin=decide (ns.length<ms.length)->Q (jU ns ms) s->KatLex prog w A false fin Q (xs.zip ys) i s
 |_,_,_,_,i,.nil,.nil,hf,h=>by subst hf;exact kat_nil h
 |_,_,_,_,i,.nil,.cons a1 a2 r,hf,h=>by subst hf;exact kat_nil (by rw[show decide (([]:List (List Int)).length<(_::_).length)=true from hG (by simp)];exact h)
 |_,_,_,_,i,.cons a1 a2 r,.nil,hf,h=>by subst hf;exact kat_nil (by rw[show decide ((_::_).length<([]:List (List Int)).length)=false from hJ (by simp)];exact h)
 |_,_,_,_,i,.cons (ns:=n) a1 a2 r,.cons (ns:=m) c1 c2 q,hf,h=>by
  refine kat_cons (wpAny_eqBool_tuple (knd:=aeW prog w) hu (N2 a1 a2) (N2 c1 c2) ?_);unfold jU at h;by_cases e:n=m
  ·rw[hV e] at h;rw[hG e];refine kat_yes (xO hu r q ?_ h);rw[hf];simp
  ·rw[hU e] at h;rw[hJ e];refine kat_no (kat_one _ _ (HT.lt_tupInts a1 c1 a2 c2 hu ?_));rw[xK];exact h
theorem Fw {h0:acj}{bs:List Z5}{kf:Z5->List (List Int)}(hu:A.units<abH)(at_:∀a∈bs,lV h0 a (kf a))(keep:∀b o,h0.get? b=some o->s.heap.get? b=some o)
  {key:aam->List (List Int)} (OS:∀x:aam,∀a∈bs,x.1=.ref a->key x=kf a):lx (aar prog w) A E s zF key (tuples' false) (λx=>∃a∈bs,x.1=.ref a) where
 lt:=λx y st Q dx dy kd q=>by
  obtain⟨a,ha,e1⟩:=dx;obtain⟨c,hc,e2⟩:=dy;rw[OS x a ha e1,OS y c hc e2] at q;obtain⟨i1,t1,u1⟩:=(at_ a ha).keep keep;obtain⟨i2,t2,u2⟩:=(at_ c hc).keep keep;rw[lt'_eq];refine Z7 (ae1 ?_);rw[kd,e1,e2];obtain⟨o1,g1,_,n1,d1⟩:=t1;obtain⟨o2,g2,_,n2,d2⟩:=t2;refine Z7 (wpS_lift (acH (kat_lt g1 d1 g2 d2 (xO hu u1 u2 ?_ ⟨rfl,?_⟩))))
  ·rw[←u1.length,←u2.length,ZR,ZR]
  ·exact aad q
theorem Cq {bs:List Z5}{Q:adp->Z8->Prop}(h2:2<=bs.length)(at_:∀a∈bs,∃cZ,lV s.heap a cZ/\cZ≠[])(q:Q (tuples' false) s):aac (aar prog w) A (keyKind' (bs.map Value.ref).toArray) Q E s:=by
 have kt:∀l:List Z5,(∀a∈l,∃cZ,lV s.heap a cZ/\cZ≠[])->∃fs,KatTups s.heap (l.map Value.ref) fs/\fs.length=l.length/\∀f∈fs,∃t its,f=.ref t/\s.heap.IsTuple t its:=by
  intro l
  induction l with
  |nil=>exact λ_=>⟨[],.nil,rfl,λf hf=>by cases hf⟩
  |cons a l ih=>
   intro h;obtain⟨fs,k1,k2,k3⟩:=ih λc hc=>h c (ZX _ hc);obtain⟨cZ,⟨its,⟨o,e,c,n,d⟩,tj⟩,ne⟩:=h a ZS;have:∃t i2 r,its.toList=.ref t::r/\s.heap.IsTuple t i2:=by
    generalize its.toList=l at tj;cases tj with
    |nil=>exact absurd rfl ne
    |cons v _ _=>exact⟨_,_,_,rfl,v⟩
   obtain⟨t,i2,r,el,v⟩:=this;refine⟨.ref t::fs,.cons e c d (by rw[←aaa,el];rfl) k1,by rw[ZT,ZT,k2],λf hf=>?_⟩;rcases Z4.mp hf with rfl|hf
   ·exact⟨t,i2,rfl,v⟩
   ·exact k3 f hf
 obtain⟨fs,k1,k2,k3⟩:=kt bs at_;refine kat_kind (T:=.type "tuple") k1 (by lia) (λv hv=>?_) (by decide) q;obtain⟨t,its,rfl,o,e,c,_⟩:=k3 v hv;rw[←c];exact (Looks.ld e).andThen .now
end
end Hc.Ts
namespace L2
open Hc.Dw Hc.Ts
section
variable (O:afd)
noncomputable def Cr (x:O.α):List O.α->List O.α
 | []=>[x]
 |y::r=>if O.blt y x=true then y::Cr x r else x::y::r
noncomputable def Bh (l:List O.α):List O.α:=l.foldr (Cr O) []
def N9 (l:List O.α):Prop:=l.Pairwise λx y=>O.blt y x=false
variable {O}
theorem nQ (x:O.α):∀l,(Cr O x l).Perm (x::l)
 | []=>.refl _
 |y::r=>by
  unfold Cr;split
  ·exact ((nQ x r).cons y).trans (.swap x y r)
  ·exact .refl _
theorem rS:∀l,(Bh O l).Perm l
 | []=>.refl _
 |x::l=>(nQ x _).trans ((rS l).cons x)
theorem Bi (x:O.α):∀{l},N9 O l->N9 O (Cr O x l)
 | [],_=>aaU _ _
 |y::r,h=>by
  obtain⟨h1,h2⟩:=aaN.mp h;unfold Cr;split
  ·rename_i c;refine aaN.mpr ⟨λz hz=>?_,Bi x h2⟩;rcases Z4.mp ((nQ x r).mem_iff.mp hz) with rfl|hz
   ·exact KeyOrd.klt_asymm (O:=O) c
   ·exact h1 z hz
  ·rename_i c;have c:O.blt y x=false:=by simpa using c
   refine aaN.mpr ⟨λz hz=>?_,h⟩;rcases Z4.mp hz with rfl|hz
   ·exact c
   ·exact aaw (O:=O) (a:=x) (b:=y) (c:=z) c (h1 z hz)
theorem xP:∀l,N9 O (Bh O l)
 | []=>List.Pairwise.nil
 |x::l=>Bi x (xP l)
theorem xQ:∀{l m:List O.α},l.Perm m->N9 O l->N9 O m->l=m
 | [],m,p,_,_=>(List.nil_perm.mp p).symm
 |x::l,[],p,_,_=>absurd p.length_eq (by simp)
 |x::l,y::m,p,h1,h2=>by
  obtain⟨a1,a2⟩:=aaN.mp h1;obtain⟨b1,b2⟩:=aaN.mp h2;have e:x=y:=by
   have hx:x∈y::m:=p.mem_iff.mp ZS;have hy:y∈x::l:=p.mem_iff.mpr ZS;rcases Z4.mp hx with rfl|hx
   ·rfl
   ·rcases Z4.mp hy with rfl|hy
    ·rfl
    ·exact O.total x y (b1 x hx) (a1 y hy)
  subst e;rw[xQ (p.cons_inv) a2 b2]
end
noncomputable def QX:V->Z5
 | .ref a=>a
 |_=>0
noncomputable def mT (H:Hp)(b:Z5):List (List Int):=match H b with
 |some (.tup xs)=>xs.map λx=>cD H (QX x)
 |_=>[]
def xR (H:Hp)(b:Z5)(cZ:List (List Int)):Prop:=∃ts:List Z5,H b=some (.tup (ts.map V.ref))/\ts.map (cD H)=cZ/\∀t∈ts,H t=some (.tup ((cD H t).map V.int))
theorem Hz (h:xR H b cZ):mT H b=cZ:=by
 obtain⟨ts,h1,h2,_⟩:=h;unfold mT;rw[h1];dsimp only;rw[←h2,abC];rfl
theorem uE (I:aJ X pins σ H s)(h:xR H b cZ):lV s.heap b cZ:=by
 obtain⟨ts,h1,h2,h3⟩:=h;obtain⟨y1,its,rv,it,y2⟩:=I.hok b _ h1;refine⟨its.toArray,it,?_⟩;have e:=gg rv;subst e h2;clear rv it h1 y1 y2;rw[List.toList_toArray]
 induction ts with
 |nil=>exact .nil
 |cons t ts ih=>
  obtain⟨_,its2,rv2,it2,_⟩:=I.hok t _ (h3 t ZS);exact .cons it2 (by simpa using dZ rv2) (ih λt ht=>h3 t (ZX _ ht))
def zG (K:ZQ):List V->Hp->VK->Prop:=λxs H Q=>∃(p:Z5) (bs:List Z5),xs=[.ref p]/\Cc K H p bs/\bs.length<=1000000/\(2<=bs.length->∀b∈bs,xR H b (mT H b)/\mT H b≠[])/\
  ∀(l:Z5) (ig:List Z5),H l=none->ig.Perm bs->ig.Pairwise (λx y=>jU (mT H y) (mT H x)=false)->Q (.ref l) (c_ H l (.lst (ig.map V.ref)))
theorem HA (hc:X.calm=true)(I:aJ X pins σ H s){bs:List Z5}(CK:Cc X.K H p bs)(ym:bs.length<=ZY)(Q:List ZO->Z8->Prop)(E:ZO->Z8->Prop)(hq:∀h1 tk (jc:List Z5),jc.Perm bs->(∀b o,s.heap.get? b=some o->h1.get? b=some o)->Q (jc.map Value.ref) {s with heap:=h1,toks:=tk}):aac (aar X.prog X.w) X.A.in1 (collect (.ref p)) Q E s:=by
 rcases CK with hs|hs|⟨ep,es,hs,rfl⟩
 ·obtain⟨its,rv,pl,_⟩:=I.list hs;obtain⟨o,e,c,n,d⟩:=pl.isList;have e2:=gg rv;subst e2;exact ac6 p (.inl rfl) e c d (λh1 k1=>by simpa using hq h1 s.toks bs (abh _) k1) (by rw[ZU,ZW];exact ym)
 ·obtain⟨its,rv,pl,_⟩:=I.tuple hs;obtain⟨o,e,c,n,d⟩:=pl;have e2:=gg rv;subst e2;exact ac6 p (.inr rfl) e c d (λh1 k1=>by simpa using hq h1 s.toks bs (abh _) k1) (by rw[ZU,ZW];exact ym)
 ·obtain⟨lo,ds,rd,n,at_⟩:=I.rawD hs;refine j8 (A:=X.A.in1) (NT lo) (I.ok.hd hc) rd (by rw[n];rw[ZW] at ym;exact ym) λh1 tk cN k1 ia=>?_;have e:cN.toList=(es.map (·.2.1)).map Value.ref:=by
   apply acA;intro i;rw[aaa,abC,aay];by_cases hi:i<cN.size
   ·rw[getElem?_pos cN i hi];obtain⟨en,e1,e2⟩:=ia.2 i _ (getElem?_pos cN i hi);have we:i<ds.size:=by rw[←ia.1];exact hi
    rw[getElem?_pos ds i we] at e1;cases e1;obtain⟨x,m,ek,_⟩:=at_ i we;rw[m,e2,ek];rfl
   ·rw[getElem?_neg cN i hi,ac1 (by rw[←n,←ia.1];lia)];rfl
  rw[e];exact hq h1 tk _ (abh _) k1
theorem zH (hc:X.calm=true)(hu:X.A.units+64<abH):eU X (.builtin "sorted") (zG X.K):=by
 intro pins s σ H xs us Q I r h;obtain⟨p,bs,rfl,CK,hz,tu,q⟩:=h;obtain⟨u,rfl,rx⟩:=iT r;cases rx;have ym:bs.length<=ZY:=by rw[abG];lia
 refine rJ (O:=zF) (mT H) (tuples' false) I hz hu (λA E jc s6 Q6 Bs h2 k6 q6=>?_) (λh2 A E s6 hA k6=>?_) (λQ E hq=>HA hc I CK ym Q E hq) q
 ·refine Cq h2 (λa ha=>?_) q6;have:=tu (by rw[←Bs.length_eq];exact h2) a (Bs.mem_iff.mp ha);exact⟨_,(uE I this.1).keep k6,this.2⟩
 ·exact Fw (h0:=s.heap) (kf:=mT H) hA (λa ha=>uE I (tu h2 a ha).1) k6 (λx a _ e=>by rw[e];rfl)
noncomputable def HB (cZ:List (List Int)):U:=.tup (cZ.map bq)
noncomputable def Jv:U->Option (List Int)
 | .tup xs=>iW xs
 |_=>none
noncomputable def rT:List U->Option (List (List Int))
 | []=>some []
 |u::us=>match Jv u,rT us with
  |some ns,some cZ=>some (ns::cZ)
  |_,_=>none
noncomputable def Lv:U->Option (List (List Int))
 | .tup (x::xs)=>rT (x::xs)
 |_=>none
noncomputable def xS:List U->Option (List (List (List Int)))
 | []=>some []
 |u::us=>match Lv u,xS us with
  |some ns,some cZ=>some (ns::cZ)
  |_,_=>none
theorem uF:∀{us:List U} {cZ:List (List Int)},rT us=some cZ->us=cZ.map bq
 | [],cZ,h=>by unfold rT at h;cases h;rfl
 |u::us,cZ,h=>by
  unfold rT at h;split at h
  ·rename_i ns r e1 e2;cases h;rw[Z_,←uF e2];unfold Jv at e1;split at e1
   ·rw[iX e1];rfl
   ·cases e1
  ·cases h
theorem HC (h:Lv u=some cZ):u=HB cZ/\cZ≠[]:=by
 unfold Lv at h;split at h
 ·rename_i x xs;have e:=uF h;refine⟨by unfold HB;rw[←e],λz=>by subst z;cases e⟩
 ·cases h
theorem rV:∀{us:List U} {cZ:List (List (List Int))},xS us=some cZ->us=cZ.map HB/\∀ns∈cZ,ns≠[]
 | [],cZ,h=>by unfold xS at h;cases h;exact⟨rfl,λz hz=>by cases hz⟩
 |u::us,cZ,h=>by
  unfold xS at h;split at h
  ·rename_i ns r e1 e2;cases h;obtain⟨e3,n3⟩:=HC e1;obtain⟨e4,n4⟩:=rV e2;refine⟨by rw[Z_,←e3,←e4],λz hz=>?_⟩;rcases Z4.mp hz with rfl|hz
   ·exact n3
   ·exact n4 z hz
  ·cases h
noncomputable def jE (us:List U):R U:=if us.length<2/\us.all D4=true then .ok (.lst us) else match xS us with
 |some cZ=>if cZ.length<=1000000 then .ok (.lst ((Bh zF cZ).map HB)) else .stk
 |none=>.stk
noncomputable def nR:List U->R U:=λus=>match us with
 | [.lst xs]=>jE xs
 | [.tup xs]=>jE xs
 | [.dct ks _]=>if NQ ks=true then jE ks else .stk
 |_=>.stk
theorem N_ {ns:List (List Int)}(h:Rp K H A (HB ns) v):∃b,v=.ref b/\xR H b ns:=by
 unfold HB Rp at h;obtain⟨b,ys,e,q,l,r⟩:=h;obtain⟨ts,rfl,e2,z⟩:=jn r;exact⟨b,e,ts,q,e2,λt ht=>(z t ht).1⟩
theorem vH {A:Z5->Prop}:∀{cZ:List (List (List Int))} {xs:List V},aK K H A (cZ.map HB) xs->∃bs:List Z5,xs=bs.map V.ref/\bs.map (mT H)=cZ/\∀b∈bs,xR H b (mT H b)/\Rp K H A (HB (mT H b)) (.ref b)
 | [],xs,h=>by rw[abO] at h;unfold aK at h;subst h;exact⟨[],rfl,rfl,λb hb=>by cases hb⟩
 |ns::cZ,xs,h=>by
  rw[Z_] at h;unfold aK at h;obtain⟨x,r,rfl,h1,h2⟩:=h;obtain⟨b,rfl,q⟩:=N_ h1;obtain⟨bs,rfl,e,z⟩:=vH h2;have k:=Hz q;refine⟨b::bs,rfl,by rw[Z_,e,k],λc hc=>?_⟩;rcases Z4.mp hc with rfl|hc
  ·rw[k];exact⟨q,h1⟩
  ·exact z c hc
theorem xT {A:Z5->Prop}:∀{us:List U} {xs:List V},us.all D4=true->aK K H A us xs->∃bs:List Z5,xs=bs.map V.ref
 | [],xs,_,h=>by unfold aK at h;subst h;exact⟨[],rfl⟩
 |u::us,xs,c,h=>by
  rw[adJ,aae] at c;unfold aK at h;obtain⟨x,r,rfl,h1,h2⟩:=h;obtain⟨bs,rfl⟩:=xT c.2 h2;have c1:=c.1;cases u<;>first|(cases c1;done)|skip
  unfold Rp at h1;obtain⟨a,_,rfl,_⟩:=h1;exact⟨a::bs,rfl⟩
theorem Jw (h:n<=1000000):n<=ZY:=by rw[abG];lia
theorem HD {bs cs:List Z5}(h:bs.map V.ref=cs.map V.ref):bs=cs:=(List.map_inj_right λ_ _ h=>by cases h;rfl).mp h
theorem rW {xs:List U}{z:U}(e:jE xs=.ok z)(r:aK K H A xs vs):∃bs:List Z5,vs=bs.map V.ref:=by
 unfold jE at e;split at e
 ·rename_i c;exact xT c.2 r
 ·split at e
  ·rename_i cZ e1;rw[(rV e1).1] at r;obtain⟨bs,e2,_⟩:=vH r;exact⟨bs,e2⟩
  ·cases e
theorem Cs:kX K (zG K) .O nR:=λA H vs us z Q h mu e q=>by
 have fin:∀(xs:List U) (p:Z5) (bs:List Z5),jE xs=.ok z->aK K H A xs (bs.map V.ref)->Cc K H p bs->zG K [.ref p] H Q:=by
  intro xs p bs e r CK;have rl:xs.length=bs.length:=by have:=r.length;rwa [ZW] at this
  unfold jE at e;split at e
  ·rename_i c;cases e;refine⟨p,bs,rfl,CK,by lia,λh2=>absurd h2 (by lia),λl ig hn hp hw=>?_⟩;have e7:ig=bs:=by
    have hl:=hp.length_eq
    match bs,ig,hp,hl with
    | [],[],_,_=>rfl
    | [a],[b],hp,_=>exact List.perm_singleton.mp hp
    |_::_::_,_,_,_=>simp at rl;lia
   subst e7;exact q _ _ (de hn _) ⟨l,rfl,hn,bZ mu r hn (Jw (by lia))⟩
  ·split at e
   ·rename_i cZ e1;split at e
    ·rename_i hz;cases e;obtain⟨e2,ne⟩:=rV e1;subst e2;obtain⟨jc,e3,e4,e5⟩:=vH r;have e6:=HD e3;subst e6;have n1:bs.length=cZ.length:=by rw[←e4,ZW]
     refine⟨p,bs,rfl,CK,by lia,λ_ b hb=>⟨(e5 b hb).1,ne _ (by rw[←e4];exact ab6 hb)⟩,λl ig hn hp hw=>?_⟩;have e7:ig.map (mT H)=Bh zF cZ:=xQ (O:=zF) ((hp.map (mT H)).trans (by rw[e4];exact (rS (O:=zF) cZ).symm)) (abJ.mpr hw) (xP (O:=zF) cZ);refine q _ _ (de hn _) ⟨l,rfl,hn,?_⟩;rw[←e7];refine bZ mu ?_ hn (Jw (by rw[ZW,ZW,hp.length_eq];lia));have all:∀b∈ig,Rp K H A (HB (mT H b)) (.ref b):=λb hb=>(e5 b (hp.mem_iff.mp hb)).2;clear hw e7 hp
     induction ig with
     |nil=>exact aK.nil
     |cons b ig ih=>exact aK.cons (all b ZS) (ih λc hc=>all c (ZX _ hc))
    ·cases e
   ·cases e
 unfold nR at e;split at e
 ·obtain⟨v,rfl,p⟩:=h.one;unfold Pk at p;obtain⟨a,ys,rfl,h1,l1,r1⟩:=p;obtain⟨bs,rfl⟩:=rW e r1;exact fin _ a bs e r1 (.inl (fS.of h1))
 ·obtain⟨v,rfl,p⟩:=h.one;unfold Pk at p;obtain⟨a,ys,rfl,h1,l1,r1⟩:=p;obtain⟨bs,rfl⟩:=rW e r1;exact fin _ a bs e r1 (.inr (.inl (gz.of h1)))
 ·rename_i ks ws;split at e
  ·rename_i c;obtain⟨v,rfl,p⟩:=h.one;unfold Pk at p;obtain⟨a,ys,rfl,h1,l1,r1⟩:=p;obtain⟨es,ep,q1,kt,e1,e2⟩:=E8 c h1;refine fin ks a (es.map (·.2.1)) e ?_ (.inr (.inr ⟨ep,es,q1,rfl⟩));subst e1;clear e fin e2 r1 h1 c q1 h
   induction es with
   |nil=>exact aK.nil
   |cons x es ih=>exact aK.cons (Jk (kt x ZS)) (ih λy hy=>kt y (ZX _ hy))
  ·cases e
 ·cases e
end L2
noncomputable section
namespace Hc
open PySem L2
noncomputable abbrev xU:Gm:=⟨[false,false,false,true,false,false,false,false],false,λ_=>False⟩
noncomputable def vI:Ev->SR:=(qI 3 (ah 7) (ah 6))
noncomputable def vJ:Ev->SR:=(jk (B8 (af (ah 4) (af (aG bW (ah 1) (ah 5)) aq))) (dg 2 (aF (cb 6) (aF (cb 7) df)))
 vI)
noncomputable def oT:Ev->SR:=(aI (bj 3 (qK (af (ah 0) aq)))
 (aI (jk (B8 (af (ah 1) (af (ah 2) aq))) (dg 2 (aF (cb 4) (aF (cb 5) df)))
 vJ)
 (bB (gR gb (af (ah 3) aq)))))
noncomputable def kh:List U->R U:=eh .S 8 oT
noncomputable abbrev ki:Gm:=⟨[false,true,false,false],false,λ_=>False⟩
noncomputable def fF:Nat->Ev->SR
 |0=>λ_=>.stk
 |n+1=>let r_arrangements:=eh .O 4 (fF n)
  (aI (kE (gB (aG (jf id) (gR g6 (af (ah 0) aq)) (gC (.int 0)))) (bB (bT (af (aP aq) aq))) bM)
 (aI (bj 1 (bT aq))
 (aI (jk (cy (ah 0)) (cb 2)
 (aI (bj 3 (d_ (cy (ah 0)) [none,some 2] (cb 0) (gB (aG (jf not) (ah 0) (ah 1))) (ah 0)))
 (lj (gM "list" 1 kI (af (d_ (cy (fh 1 r_arrangements (af (ah 3) aq))) [none,some 2] (cb 0) f_ (aG fV (aP (af (ah 1) aq)) (ah 0))) aq)))))
 (bB (ah 1)))))
noncomputable def iD (n:Nat):List U->R U:=eh .O 4 (fF n)
noncomputable abbrev zI:Gm:=⟨[false,false],false,λ_=>False⟩
noncomputable def rX:Ev->SR:=(aI (kE (gB (aG GX (gR g6 (af (ah 1) aq)) (gC (.int 4)))) (λ_=>.exc "TooMany" .non) bM)
 (bB (gR gb (af (d_ (cy (fh 1 (iD 6) (af (qK (af (gR g6 (af (ah 1) aq)) aq)) aq))) [none,some 0,some 1] (cb 0) f_ (fh 3 kh (af (ah 1) (af (ah 2) (af (ah 0) aq))))) aq))))
noncomputable def lW:List U->R U:=eh .S 2 rX
noncomputable abbrev Ct:Gm:=⟨[false],false,λ_=>False⟩
noncomputable def uG:Ev->SR:=(bB (aP (af (aG eo (gC (.int 2)) (ah 0)) (af (aG fV (aG eo (gC (.int 2)) (ah 0)) (gC (.int 1))) aq))))
noncomputable def jo:List U->R U:=eh .S 1 uG
noncomputable abbrev Fx:Gm:=⟨[false],false,λ_=>False⟩
noncomputable def xV:Ev->SR:=(bB (aP (af (aG bW (ah 0) (gC (.int 1))) (af (aG bW (ah 0) (gC (.int 0))) aq))))
noncomputable def kj:List U->R U:=eh .S 1 xV
noncomputable abbrev xW:Gm:=⟨[false,false,true,false],false,λ_=>False⟩
noncomputable def vK:Ev->SR:=(lj (gM "list" 2 kI (af (ah 3) aq)))
noncomputable def oU:Ev->SR:=(aI (bj 2 (bT aq))
 (aI (jk (cy (ah 1)) (cb 3)
 vK)
 (pf 2 (bB (aP (af (gC (.str "end")) (af (gR gb (af (aG fV (ah 2) (d_ (mw (af (ah 0) aq)) [none,some 2] (cb 0) (gB (aG (N3 not) (ah 0) (ah 1))) (ah 0))) aq)) aq)))))))
noncomputable def iZ:List U->R U:=eh .S 4 oU
noncomputable abbrev nU:Gm:=⟨[false,false,false],false,λ_=>False⟩
noncomputable def jq:Ev->SR:=(bB (aP (af (gC (.str "mix")) (af (fh 2 lW (af (ah 0) (af (ah 1) aq))) (af (aP (af (gC (.str "look")) (af (aP (af (aG bW (aG bW (ah 1) (gC (.int 0))) (gC (.int 0))) aq)) (af (aP (af (aP (af (aP (af (gC (.int 0)) aq)) (af (aG bW (ah 2) (gC (.int 0))) aq))) (af (aP (af (aP (af (gC (.int 1)) aq)) (af (aG bW (ah 2) (gC (.int 1))) aq))) aq))) aq)))) aq)))))
noncomputable def gj:List U->R U:=eh .S 3 jq
noncomputable abbrev Cu:Gm:=⟨[false,false],false,λ_=>False⟩
noncomputable def uH:Ev->SR:=(bB (aP (af (aG fV (aP (af (aG bW (ah 0) (gC (.int 0))) aq)) (gR gb (af (d_ (cy (ah 1)) [none] (cb 0) f_ (aG bW (ah 0) (gC (.int 0)))) aq))) (af (aG fV (aP (af (aG bW (ah 0) (gC (.int 1))) aq)) (gR gb (af (d_ (cy (ah 1)) [none] (cb 0) f_ (aG bW (ah 0) (gC (.int 1)))) aq))) aq))))
noncomputable def nV:List U->R U:=eh .S 2 uH
noncomputable abbrev Fy:Gm:=⟨[false,false,false,false,false,false,false],false,λ_=>False⟩
noncomputable def xX:Ev->SR:=(aI (bj 4 (fh 1 jo (af (ah 1) aq)))
 (aI (bj 5 (aP (af (fh 1 jo (af (ah 2) aq)) (af (fh 1 jo (af (ah 3) aq)) aq))))
 (aI (bj 6 (aP (af (fh 2 iZ (af (ah 0) (af (aG fV (ah 5) (aP (af (ah 4) aq))) aq))) (af (fh 2 iZ (af (ah 0) (af (aP (af (fh 1 kj (af (aG bW (ah 5) (gC (.int 0))) aq)) (af (fh 1 kj (af (aG bW (ah 5) (gC (.int 1))) aq)) (af (fh 1 kj (af (ah 4) aq)) aq)))) aq))) aq))))
 (bB (fh 3 gj (af (ah 0) (af (fh 2 nV (af (ah 4) (af (ah 5) aq))) (af (ah 6) aq))))))))
noncomputable def fG:List U->R U:=eh .S 7 xX
noncomputable abbrev rY:Gm:=⟨[false,false],false,λ_=>False⟩
noncomputable def fH:Ev->SR:=(aI (kE (gB (aG M9 (ah 1) (gR g6 (af (ah 0) aq)))) (bB (aG bW (ah 0) (ah 1))) bM)
 (bB (gC (.int 0))))
noncomputable def dh:List U->R U:=eh .S 2 fH
noncomputable abbrev vL:Gm:=⟨[false,false,false],false,λ_=>False⟩
noncomputable def g8:Ev->SR:=(aI (bj 2 (fh 2 dh (af (ah 0) (af (ah 1) aq))))
 (aI (kE (gB (aG QF (ah 2) (aG GW (gC (.int 10)) (gC (.int 18))))) (bB (bT (af (aG wZ (ah 2) (aG GW (gC (.int 10)) (gC (.int 18)))) (af (gC (.bl true)) aq)))) bM)
 (bB (bT (af (aG u4 (ah 2) (gC (.int 2147483647))) (af (gC (.bl false)) aq))))))
noncomputable def fI:List U->R U:=eh .O 3 g8
noncomputable abbrev xY:Gm:=⟨[true,false,false,false],true,λ_=>False⟩
noncomputable def i0:Ev->SR:=(aI (kE (gB (aG bW (ah 0) (gC (.int 1)))) (aI (bj 2 (aG u4 (aG bW (ah 0) (gC (.int 0))) (ah 1)))
 (aI (qI 0 (aG og (aG bW (ah 0) (gC (.int 0))) (ah 1)) (gC (.int 0)))
 (bB (ah 2)))) bM)
 (aI (qI 0 (aG u4 (aG fV (aG eo (aG bW (ah 0) (gC (.int 0))) (gC (.int 48271))) (gC (.int 29))) (gC (.int 2147483647))) (gC (.int 0)))
 (aI (bj 3 (aG u4 (aG fV (aG fV (aG eo (aG bW (ah 0) (gC (.int 0))) (aG bW (ah 0) (gC (.int 0)))) (aG eo (gC (.int 39373)) (aG bW (ah 0) (gC (.int 0))))) (gC (.int 7))) (gC (.int 2147483629))))
 (aI (bj 3 (aG u4 (aG fV (aG eo (ah 3) (ah 3)) (aG eo (gC (.int 16807)) (ah 3))) (gC (.int 2147483587))))
 (bB (aG u4 (aG og (ah 3) (gC (.int 8))) (ah 1)))))))
noncomputable def bw:List U->R (U×U):=yR 4 i0
noncomputable abbrev rZ:Gm:=⟨[false,false],false,λ_=>False⟩
noncomputable def kl:Ev->SR:=(aI (bj 0 (gR GY (af (ah 0) aq)))
 (aI (bj 1 (gR GY (af (ah 1) aq)))
 (aI (lK (gB (aG GX (ah 1) (gC (.int 0))))
 (Kz 0 1 (af (ah 1) (af (aG u4 (ah 0) (ah 1)) aq))) 1000)
 (bB (ah 0)))))
noncomputable def iE:List U->R U:=eh .S 2 kl
noncomputable abbrev vM:Gm:=⟨[false,false,false],false,λ_=>False⟩
noncomputable def mU:Ev->SR:=(aI (bj 2 (fh 2 iE (af (ah 0) (af (ah 1) aq))))
 (bB (aP (af (aG og (ah 0) (ah 2)) (af (aG og (ah 1) (ah 2)) aq)))))
noncomputable def bQ:List U->R U:=eh .S 3 mU
noncomputable abbrev xZ:Gm:=⟨[false,false],false,λ_=>False⟩
noncomputable def oV:Ev->SR:=(bB (gR gb (af (d_ (cy (ah 1)) [none,some 0] (cb 0) f_ (aG bW (ah 1) (ah 0))) aq)))
noncomputable def fq:List U->R U:=eh .S 2 oV
noncomputable abbrev mV:Gm:=⟨[false,false,false,false,false,true,false,false,false,false],false,λ_=>False⟩
noncomputable def g9:Nat->Ev->SR
 |0=>λ_=>.stk
 |n+1=>let r__law_paths:=eh .S 10 (g9 n)
  (aI (kE (gB (aG (jf id) (aG bW (ah 0) (gC (.int 0))) (gC (.str "again")))) (bB (bT (af (aP (af (ah 4) (af (gC .non) (af (ah 3) aq)))) aq))) bM)
 (aI (kE (gB (aG (jf id) (aG bW (ah 0) (gC (.int 0))) (gC (.str "end")))) (bB (bT (af (aP (af (ah 4) (af (fh 2 fq (af (ah 1) (af (aG bW (ah 0) (gC (.int 1))) aq))) (af (ah 3) aq)))) aq))) bM)
 (aI (kE (gB (aG (jf id) (aG bW (ah 0) (gC (.int 0))) (gC (.str "lay")))) (bB (fh 5 r__law_paths (af (aG bW (ah 0) (gC (.int 2))) (af (fh 2 fq (af (ah 1) (af (aG bW (ah 0) (gC (.int 1))) aq))) (af (ah 2) (af (ah 3) (af (ah 4) aq))))))) bM)
 (aI (kE (gB (aG (jf id) (aG bW (ah 0) (gC (.int 0))) (gC (.str "mix")))) (aI (bj 5 (bT aq))
 (aI (jk (cy (aG bW (ah 0) (gC (.int 1)))) (cb 6)
 (lj (gM "list" 5 kI (af (fh 5 r__law_paths (af (aG bW (ah 0) (gC (.int 2))) (af (fh 2 fq (af (ah 1) (af (ah 6) aq))) (af (ah 2) (af (aG eo (ah 3) (gR g6 (af (aG bW (ah 0) (gC (.int 1))) aq))) (af (ah 4) aq)))))) aq))))
 (bB (ah 5)))) bM)
 (aI (bj 7 (fh 2 fq (af (ah 1) (af (aG bW (ah 0) (gC (.int 1))) aq))))
 (aI (jk (cy (aG bW (ah 0) (gC (.int 2)))) (dg 2 (aF (cb 8) (aF (cb 9) df)))
 (kE (gB (aG (jf id) (ah 8) (ah 7))) (bB (fh 5 r__law_paths (af (ah 9) (af (ah 1) (af (ah 2) (af (ah 3) (af (aG fV (ah 4) (aP (af (ah 7) aq))) aq))))))) bM))
 (bB (bT (af (aP (af (ah 4) (af (aP (af (gC (.str "no way")) (af (ah 7) aq))) (af (ah 3) aq)))) aq)))))))))
noncomputable def aM (n:Nat):List U->R U:=eh .S 10 (g9 n)
noncomputable abbrev vN:Gm:=⟨[false,false,false,false],false,λ_=>False⟩
noncomputable def sS:Ev->SR:=(bj 1 (fh 2 bQ (af (aG fV (aG eo (aG bW (ah 1) (gC (.int 0))) (ah 3)) (aG eo (ah 2) (aG bW (ah 1) (gC (.int 1))))) (af (aG eo (aG bW (ah 1) (gC (.int 1))) (ah 3)) aq))))
noncomputable def mW:Ev->SR:=(aI (bj 1 (aP (af (gC (.int 0)) (af (gC (.int 1)) aq))))
 (aI (jk (cy (ah 0)) (dg 2 (aF (cb 2) (aF (cb 3) df)))
 sS)
 (bB (ah 1))))
noncomputable def bG:List U->R U:=eh .S 4 mW
noncomputable abbrev sT:Gm:=⟨[false,false,true,false,false,false,false,true,false,false,false],false,λ_=>False⟩
noncomputable def di:Ev->SR:=(aI (bj 8 (d_ (cy (gR oP (af (aG jS (ah 2) (ah 3)) aq))) [none,some 2,some 3] (cb 0) f_ (aP (af (ah 0) (af (fh 1 bG (af (aG jS (aG jS (ah 1) (ah 2)) (ah 0)) aq)) aq)))))
 (aI (bj 9 (fh 1 bG (af (d_ (cy (ah 8)) [none,none] (dg 2 (aF (cb 0) (aF (cb 1) df))) f_ (ah 1)) aq)))
 (aI (bj 10 (d_ (cy (ah 8)) [none,none,some 9] (dg 2 (aF (cb 0) (aF (cb 1) df))) f_ (aP (af (ah 0) (af (fh 2 bQ (af (aG eo (aG bW (ah 1) (gC (.int 0))) (aG bW (ah 2) (gC (.int 1)))) (af (aG eo (aG bW (ah 1) (gC (.int 1))) (aG bW (ah 2) (gC (.int 0)))) aq))) aq)))))
 (lj (gM "list" 7 iY (af (aP (af (ah 3) (af (fh 2 bQ (af (aG eo (aG bW (ah 9) (gC (.int 0))) (aG bW (ah 6) (gC (.int 1)))) (af (aG eo (aG bW (ah 9) (gC (.int 1))) (aG bW (ah 6) (gC (.int 0)))) aq))) (af (ah 10) aq)))) aq))))))
noncomputable def ja:Ev->SR:=(aI (bj 1 (fh 1 bG (af (d_ (cy (ah 0)) [none,none,none] (dg 3 (aF (cb 0) (aF (cb 1) (aF (cb 2) df)))) (gB (aG (lL id) (ah 1) (gC .non))) (aP (af (gC (.int 1)) (af (ah 2) aq)))) aq)))
 (aI (bj 2 Po)
 (aI (Be 2 (Fv 2 (cy (ah 0)) (dg 3 (aF (cb 3) (aF (cb 4) (aF (cb 5) df))))
 (Lp 2 (gB (aG (lL not) (ah 4) (gC .non))) (Ls 2 (uD 2 (zE 0) (uD 2 (zE 1) (Bf 2) (ah 3)) (ah 4)) (aP (af (gC (.int 1)) (af (ah 5) aq)))) bM)))
 (pf 2 (aI (bj 6 (fh 2 bQ (af (aG wZ (aG bW (ah 1) (gC (.int 1))) (aG bW (ah 1) (gC (.int 0)))) (af (aG bW (ah 1) (gC (.int 1))) aq))))
 (aI (kE (gB (aG (jf id) (aG bW (ah 6) (gC (.int 0))) (gC (.int 0)))) (bB (aP (af (ah 1) (af (gC .non) aq)))) bM)
 (aI (bj 7 (bT aq))
 (aI (jk (cy (gR nR (af (ah 2) aq))) (cb 3)
 di)
 (pf 7 (bB (aP (af (ah 1) (af (ah 7) aq)))))))))))))
noncomputable def cW:List U->R U:=eh .S 11 ja
noncomputable abbrev x8:Gm:=⟨[false,false,false,false,false],false,λ_=>False⟩
noncomputable def km:Ev->SR:=(aI (bj 2 (fh 5 (aM 6) (af (ah 0) (af (ah 1) (af (ah 1) (af (gC (.int 1)) (af (aP aq) aq)))))))
 (aI (bj 3 (d_ (cy (ah 2)) [none,none,none] (dg 3 (aF (cb 0) (aF (cb 1) (aF (cb 2) df)))) (nB (gB (aG (lL not) (ah 1) (gC .non))) (gB (aG (jf id) (Pl KP (ah 1) Ag (wR (gC (.int 1)))) (aP (af (gC (.str "no way")) aq))))) (aG bW (ah 1) (gC (.int 1)))))
 (aI (kE (gB (aG (jf not) (ah 3) (bT aq))) (bB (aP (af (gC (.str "way")) (af (ah 3) aq)))) bM)
 (aI (bj 4 (aG bW (fh 1 cW (af (ah 2) aq)) (gC (.int 1))))
 (aI (kE (gB (aG (lL id) (ah 4) (gC .non))) (bB (aP (af (gC (.str "end")) (af (bT aq) aq)))) bM)
 (bB (aP (af (gC (.str "walked")) (af (ah 4) aq)))))))))
noncomputable def ba:List U->R U:=eh .S 5 km
noncomputable abbrev mX:Gm:=⟨[false,false,false,false,false,false,false],false,λ_=>False⟩
noncomputable def g_:Nat->Ev->SR
 |0=>λ_=>.stk
 |n+1=>let r__law_sound:=eh .S 7 (g_ n)
  (aI (kE (nB (gB (aG (jf id) (aG bW (ah 0) (gC (.int 0))) (gC (.str "end")))) (gB (aG (jf id) (gR g6 (af (ah 0) aq)) (gC (.int 2))))) (aI (bj 3 (d_ (cy (aG bW (ah 0) (gC (.int 1)))) [none,some 1] (cb 0) (BJ (gB (qB M_ M9 (gC (.int 0)) (ah 0) (ah 1)))) (ah 0)))
 (aI (kE (CI (gB (aG (jf not) (ah 3) (bT aq))) (CI (gB (aG (jf not) (gR pR (af (aG bW (ah 0) (gC (.int 1))) aq)) (gR g6 (af (aG bW (ah 0) (gC (.int 1))) aq)))) (nB (gB (ah 2)) (gB (aG M9 (gR g6 (af (aG bW (ah 0) (gC (.int 1))) aq)) (ah 1)))))) (bB (gC .non)) bM)
 (bB (Qy (gB (aG GX (gR g6 (af (aG bW (ah 0) (gC (.int 1))) aq)) (gC (.int 0)))) (aP (af (gC (.int 1)) (af (gC (.int 1)) aq))) (gC .non))))) bM)
 (aI (bj 4 (bT aq))
 (aI (kE (nB (gB (aG (jf id) (aG bW (ah 0) (gC (.int 0))) (gC (.str "look")))) (gB (aG (jf id) (gR g6 (af (ah 0) aq)) (gC (.int 3))))) (aI (bj 5 (d_ (cy (aG bW (ah 0) (gC (.int 2)))) [none] (cb 0) f_ (aG bW (ah 0) (gC (.int 0)))))
 (kE (nB (gB (aG (jf id) (ah 5) (gR gG (af (ah 5) aq)))) (gB (aG (jf id) (d_ (cy (ah 5)) [none,some 0] (cb 0) (gB (aG (jf not) (gR g6 (af (ah 0) aq)) (gR g6 (af (aG bW (ah 1) (gC (.int 1))) aq)))) (ah 0)) (bT aq)))) (bj 4 (d_ (cy (aG bW (ah 0) (gC (.int 2)))) [none] (cb 0) f_ (aG bW (ah 0) (gC (.int 1))))) bM)) bM)
 (aI (kE (nB (gB (aG (jf id) (aG bW (ah 0) (gC (.int 0))) (gC (.str "lay")))) (nB (gB (aG (jf id) (gR g6 (af (ah 0) aq)) (gC (.int 3)))) (gB (aG (jf id) (gR oP (af (aG bW (ah 0) (gC (.int 1))) aq)) (qK (af (ah 1) aq)))))) (bj 4 (bT (af (aG bW (ah 0) (gC (.int 2))) aq))) bM)
 (aI (kE (nB (gB (aG (jf id) (aG bW (ah 0) (gC (.int 0))) (gC (.str "mix")))) (nB (gB (aG (jf id) (gR g6 (af (ah 0) aq)) (gC (.int 3)))) (gB (qB M_ M_ (gC (.int 1)) (gR g6 (af (aG bW (ah 0) (gC (.int 1))) aq)) (gC (.int 24)))))) (kE (gB (aG (jf id) (d_ (cy (aG bW (ah 0) (gC (.int 1)))) [none,some 1] (cb 0) (gB (aG (jf not) (gR oP (af (ah 0) aq)) (qK (af (ah 1) aq)))) (ah 0)) (bT aq))) (bj 4 (bT (af (aG bW (ah 0) (gC (.int 2))) aq))) bM) bM)
 (aI (bj 6 (d_ (cy (ah 4)) [none,some 1,some 2] (cb 0) f_ (fh 3 r__law_sound (af (ah 0) (af (ah 1) (af (ah 2) aq))))))
 (aI (kE (CI (gB (aG (jf id) (ah 6) (bT aq))) (gB (aG (N3 id) (gC .non) (ah 6)))) (bB (gC .non)) bM)
 (bB (aP (af (aG fV (gC (.int 1)) (gR Fo (af (d_ (cy (ah 6)) [none] (cb 0) f_ (aG bW (ah 0) (gC (.int 0)))) aq))) (af (aG fV (gC (.int 1)) (gR Fq (af (d_ (cy (ah 6)) [none] (cb 0) f_ (aG bW (ah 0) (gC (.int 1)))) aq))) aq)))))))))))
noncomputable def cQ (n:Nat):List U->R U:=eh .S 7 (g_ n)
noncomputable abbrev x9:Gm:=⟨[false],false,λ_=>False⟩
noncomputable def oW:Ev->SR:=(bB (aP (af (ah 0) (af (aG wZ (gC (.int 1)) (ah 0)) aq))))
noncomputable def ft:List U->R U:=eh .S 1 oW
noncomputable abbrev cR:Gm:=⟨[true,false,false,false,true,false,false],true,λ_=>False⟩
noncomputable def iF:Ev->SR:=(aI (qI 4 (ah 6) (aG eo (gC (.int 2)) (ah 5)))
 (qI 4 (aG wZ (gC (.int 1)) (ah 6)) (aG fV (aG eo (gC (.int 2)) (ah 5)) (gC (.int 1)))))
noncomputable def fJ:Ev->SR:=(aI (bj 4 (yP cR (mw (af (ah 1) aq)) [none,some 0] (cb 0) f_ (wq 2 1 bw (af (gC (.int 10)) aq))))
 (aI (jk (B8 (af (ah 2) (af (ah 3) aq))) (dg 2 (aF (cb 5) (aF (cb 6) df)))
 iF)
 (bB (gR gb (af (ah 4) aq)))))
noncomputable def bX:List U->R (U×U):=yR 7 fJ
noncomputable abbrev sU:Gm:=⟨[false,false,false],false,λ_=>False⟩
noncomputable def ly:Ev->SR:=(aI (bj 2 (d_ (mw (af (gR g6 (af (ah 0) aq)) aq)) [none,some 1] (cb 0) (gB (aG (N3 not) (aG og (ah 0) (gC (.int 2))) (ah 1))) (ah 0)))
 (bB (gR gb (af (d_ (cy (ah 2)) [none,some 0] (cb 0) f_ (aG bW (ah 1) (ah 0))) aq))))
noncomputable def gy:List U->R U:=eh .S 3 ly
noncomputable abbrev iG:Gm:=⟨[true,false,false,true],true,λ_=>False⟩
noncomputable def iH:Ev->SR:=(aI (bj 3 (qK (af (aG og (ah 1) (gC (.int 2))) aq)))
 (bB (yP iG (mw (af (ah 2) aq)) [none,some 3,some 0] (cb 0) f_ (gM "list" 1 nF (af (wq 2 2 bw (af (gR g6 (af (ah 1) aq)) aq)) aq)))))
noncomputable def cA:List U->R (U×U):=yR 4 iH
noncomputable abbrev k_:Gm:=⟨[false,false,false,false],false,λ_=>False⟩
noncomputable def eR:Ev->SR:=(aI (BL (dg 2 (aF (cb 2) (aF (cb 3) df))) (fh 2 ba (af (ah 0) (af (ah 1) aq))))
 (aI (kE (gB (aG (jf not) (ah 2) (gC (.str "walked")))) (bB (gC .non)) bM)
 (bB (d_ (cy (ah 3)) [none,none,none] (dg 3 (aF (cb 0) (aF (cb 1) (aF (cb 2) df)))) f_ (aP (af (ah 0) (af (ah 1) aq)))))))
noncomputable def bI:List U->R U:=eh .S 4 eR
noncomputable abbrev r6:Gm:=⟨[false,false,false,false,true,false,false,false],false,λ_=>False⟩
noncomputable def gX:Ev->SR:=(lj (gM "list" 4 kI (af (d_ (cy (ah 7)) [none,none] (dg 2 (aF (cb 0) (aF (cb 1) df))) f_ (ah 0)) aq)))
noncomputable def iI:Ev->SR:=(aI (BL (dg 2 (aF (cb 2) (aF (cb 3) df))) (fh 2 ba (af (ah 0) (af (ah 1) aq))))
 (aI (kE (gB (aG (jf not) (ah 2) (gC (.str "walked")))) (bB (gC .non)) bM)
 (aI (bj 4 (bT aq))
 (aI (jk (cy (ah 3)) (dg 3 (aF (cb 5) (aF (cb 6) (aF (cb 7) df))))
 gX)
 (bB (gR gG (af (ah 4) aq)))))))
noncomputable def dk:List U->R U:=eh .S 8 iI
noncomputable abbrev vO:Gm:=⟨[true,false,false,false,false,true,false,false,false],true,λ_=>False⟩
noncomputable def eW:Ev->SR:=(aI (bj 7 (wq 4 0 bX (af (ah 1) (af (ah 2) (af (aP (af (ah 6) (af (gC (.int 0)) (af (gC (.int 0)) aq)))) aq)))))
 (aI (bj 8 (aG fV (aG fV (aG fV (fh 1 ft (af (ah 6) aq)) (fh 1 ft (af (ah 6) aq))) (aP (af (gC (.int 0)) (af (gC (.int 1)) aq)))) (fh 2 gy (af (ah 7) (af (ah 2) aq)))))
 (aI (kE (gB (aG (jf not) (fh 2 dk (af (ah 3) (af (ah 7) aq))) (bT (af (ah 8) aq)))) (bB (gC (.bl false))) bM)
 (lj (gM "list" 5 iY (af (fh 2 bI (af (ah 3) (af (ah 7) aq))) aq))))))
noncomputable def jF:Ev->SR:=(aI (bj 2 (wq 3 0 cA (af (ah 1) (af (gC (.int 3)) aq))))
 (aI (bj 3 (fh 4 fG (af (ah 1) (af (aG bW (ah 2) (gC (.int 0))) (af (aG bW (ah 2) (gC (.int 1))) (af (aG bW (ah 2) (gC (.int 2))) aq))))))
 (aI (bj 4 (fh 3 (cQ 6) (af (ah 3) (af (ah 1) (af (gC (.bl true)) aq)))))
 (aI (kE (CI (gB (aG (lL id) (ah 4) (gC .non))) (CI (gB (aG GX (aG bW (ah 4) (gC (.int 0))) (gC (.int 5)))) (gB (aG GX (aG bW (ah 4) (gC (.int 1))) (gC (.int 3)))))) (bB (gC (.bl false))) bM)
 (aI (bj 5 (bT aq))
 (aI (jk (cy (bT (af (gC (.int 0)) (af (gC (.int 1)) (af (gC (.int 0)) (af (gC (.int 1)) (af (gC (.int 1)) (af (gC (.int 0)) aq)))))))) (cb 6)
 eW)
 (pf 5 (bB (aG (jf id) (d_ (cy (ah 5)) [none,some 5] (cb 0) (gB (aG (jf not) (ah 0) (aG bW (ah 1) (gC (.int 0))))) (ah 0)) (bT aq))))))))))
noncomputable def dI:List U->R (U×U):=yR 9 jF
noncomputable abbrev Oa:Gm:=⟨[false,false,true,false],false,λ_=>False⟩
noncomputable def vP:Ev->SR:=(aI (bj 2 (fh 2 fI (af (ah 0) (af (ah 1) aq))))
 (aI (bj 3 (aG fV (gC (.int 6)) (wq 2 2 bw (af (gC (.int 3)) aq))))
 (kE (CI (BJ (gB (wq 2 2 dI (af (ah 3) aq)))) (CI (BJ (gB (wq 2 2 dI (af (aG fV (gC (.int 6)) (wq 2 2 bw (af (gC (.int 3)) aq))) aq)))) (BJ (gB (wq 2 2 dI (af (ah 3) aq)))))) (bB (gC (.bl false))) bM)))
noncomputable def Fz:Ev->SR:=(aI (jk (mw (af (gR Ar (af (gC (.int 1)) (af (gR As (af (gR g6 (af (ah 0) aq)) (af (gC (.int 3)) aq))) aq))) aq)) (cb 1)
 vP)
 (bB (gC (.bl true))))
noncomputable def x_:List U->R U:=eh .S 4 Fz
end Hc
end
namespace Hc
open L2
noncomputable def top (i:Nat):ad9:=PySem.Challenge.pw_hushcards_k54_told_twice.main.body.getD i (.Pass ⟨0,0,0,0⟩)
noncomputable abbrev b6:ad9:=top 5
noncomputable abbrev aY:ad9:=top 6
noncomputable abbrev dq:ad9:=top 7
noncomputable abbrev e_:ad9:=top 9
noncomputable abbrev fb:ad9:=top 10
noncomputable abbrev cu:ad9:=top 11
noncomputable abbrev bo:ad9:=top 12
noncomputable abbrev cS:ad9:=top 13
noncomputable abbrev fc:ad9:=top 14
noncomputable abbrev b9:ad9:=top 16
noncomputable abbrev cI:ad9:=top 17
noncomputable abbrev dP:ad9:=top 18
noncomputable abbrev bJ:ad9:=top 19
noncomputable abbrev cJ:ad9:=top 20
noncomputable abbrev du:ad9:=top 21
noncomputable abbrev cv:ad9:=top 22
noncomputable abbrev bt:ad9:=top 23
noncomputable abbrev cK:ad9:=top 24
noncomputable abbrev dv:ad9:=top 25
noncomputable abbrev bf:ad9:=top 26
noncomputable abbrev dQ:ad9:=top 27
noncomputable abbrev bg:ad9:=top 28
noncomputable abbrev bH:ad9:=top 29
noncomputable abbrev bC:ad9:=top 30
noncomputable abbrev aU:ad9:=top 31
noncomputable abbrev bD:ad9:=top 32
noncomputable abbrev cw:ad9:=top 33
noncomputable abbrev ph:ad9:=top 34
theorem eI:aV ["many","piles","sources","order","pile","source","place","origin"] ["many","piles","sources"] (ag b6):=⟨rfl,rfl,rfl,by decide+kernel,rfl,by decide+kernel,by decide+kernel⟩
theorem vQ (kV dC pm:ZO)(an:Option Z5)(br ct:ZO)(us:List ZO)(hl:us.length=(["many","piles","sources"]:List Str).length):aaZ (Z1 "exchanged" "exchanged" (aw b6) (ar b6) (ag b6) .none kV dC pm an br ct) ⟨us,[]⟩=pure ((["many","piles","sources"]:List Str).zip us):=match us,hl with|[_,_,_],_=>rfl
theorem dR:aV ["numbers","told","number","rest"] ["numbers"] (ag aY):=⟨rfl,rfl,rfl,by decide+kernel,rfl,by decide+kernel,by decide+kernel⟩
theorem jN (kV dC pm:ZO)(an:Option Z5)(br ct:ZO)(us:List ZO)(hl:us.length=(["numbers"]:List Str).length):aaZ (Z1 "arrangements" "arrangements" (aw aY) (ar aY) (ag aY) .none kV dC pm an br ct) ⟨us,[]⟩=pure ((["numbers"]:List Str).zip us):=match us,hl with|[_],_=>rfl
theorem ya:aV ["many","piles"] ["many","piles"] (ag dq):=⟨rfl,rfl,rfl,by decide+kernel,rfl,by decide+kernel,by decide+kernel⟩
theorem yb (kV dC pm:ZO)(an:Option Z5)(br ct:ZO)(us:List ZO)(hl:us.length=(["many","piles"]:List Str).length):aaZ (Z1 "pile_mix" "pile_mix" (aw dq) (ar dq) (ag dq) .none kV dC pm an br ct) ⟨us,[]⟩=pure ((["many","piles"]:List Str).zip us):=match us,hl with|[_,_],_=>rfl
theorem zJ:aV ["number"] ["number"] (ag e_):=⟨rfl,rfl,rfl,by decide+kernel,rfl,by decide+kernel,by decide+kernel⟩
theorem zK (kV dC pm:ZO)(an:Option Z5)(br ct:ZO)(us:List ZO)(hl:us.length=(["number"]:List Str).length):aaZ (Z1 "pair_at" "pair_at" (aw e_) (ar e_) (ag e_) .none kV dC pm an br ct) ⟨us,[]⟩=pure ((["number"]:List Str).zip us):=match us,hl with|[_],_=>rfl
theorem Cv:aV ["pair"] ["pair"] (ag fb):=⟨rfl,rfl,rfl,by decide+kernel,rfl,by decide+kernel,by decide+kernel⟩
theorem Cw (kV dC pm:ZO)(an:Option Z5)(br ct:ZO)(us:List ZO)(hl:us.length=(["pair"]:List Str).length):aaZ (Z1 "turned" "turned" (aw fb) (ar fb) (ag fb) .none kV dC pm an br ct) ⟨us,[]⟩=pure ((["pair"]:List Str).zip us):=match us,hl with|[_],_=>rfl
theorem jG:aV ["many","pairs","places","pair"] ["many","pairs"] (ag cu):=⟨rfl,rfl,rfl,by decide+kernel,rfl,by decide+kernel,by decide+kernel⟩
theorem vR (kV dC pm:ZO)(an:Option Z5)(br ct:ZO)(us:List ZO)(hl:us.length=(["many","pairs"]:List Str).length):aaZ (Z1 "whole_end" "whole_end" (aw cu) (ar cu) (ag cu) .none kV dC pm an br ct) ⟨us,[]⟩=pure ((["many","pairs"]:List Str).zip us):=match us,hl with|[_,_],_=>rfl
theorem mY:aV ["many","piles","plans"] ["many","piles","plans"] (ag bo):=⟨rfl,rfl,rfl,by decide+kernel,rfl,by decide+kernel,by decide+kernel⟩
theorem mZ (kV dC pm:ZO)(an:Option Z5)(br ct:ZO)(us:List ZO)(hl:us.length=(["many","piles","plans"]:List Str).length):aaZ (Z1 "mixed_and_seen" "mixed_and_seen" (aw bo) (ar bo) (ag bo) .none kV dC pm an br ct) ⟨us,[]⟩=pure ((["many","piles","plans"]:List Str).zip us):=match us,hl with|[_,_,_],_=>rfl
theorem zL:aV ["one","others"] ["one","others"] (ag cS):=⟨rfl,rfl,rfl,by decide+kernel,rfl,by decide+kernel,by decide+kernel⟩
theorem zM (kV dC pm:ZO)(an:Option Z5)(br ct:ZO)(us:List ZO)(hl:us.length=(["one","others"]:List Str).length):aaZ (Z1 "turning" "turning" (aw cS) (ar cS) (ag cS) .none kV dC pm an br ct) ⟨us,[]⟩=pure ((["one","others"]:List Str).zip us):=match us,hl with|[_,_],_=>rfl
theorem kP:aV ["many","one","first","second","pair","copies","ends"] ["many","one","first","second"] (ag fc):=⟨rfl,rfl,rfl,by decide+kernel,rfl,by decide+kernel,by decide+kernel⟩
theorem Cy (kV dC pm:ZO)(an:Option Z5)(br ct:ZO)(us:List ZO)(hl:us.length=(["many","one","first","second"]:List Str).length):aaZ (Z1 "copied" "copied" (aw fc) (ar fc) (ag fc) .none kV dC pm an br ct) ⟨us,[]⟩=pure ((["many","one","first","second"]:List Str).zip us):=match us,hl with|[_,_,_,_],_=>rfl
theorem pj:aV ["script","k"] ["script","k"] (ag b9):=⟨rfl,rfl,rfl,by decide+kernel,rfl,by decide+kernel,by decide+kernel⟩
theorem pq (kV dC pm:ZO)(an:Option Z5)(br ct:ZO)(us:List ZO)(hl:us.length=(["script","k"]:List Str).length):aaZ (Z1 "_law_cell_at" "_law_cell_at" (aw b9) (ar b9) (ag b9) .none kV dC pm an br ct) ⟨us,[]⟩=pure ((["script","k"]:List Str).zip us):=match us,hl with|[_,_],_=>rfl
theorem lA:aV ["script","k","cell"] ["script","k"] (ag cI):=⟨rfl,rfl,rfl,by decide+kernel,rfl,by decide+kernel,by decide+kernel⟩
theorem sV (kV dC pm:ZO)(an:Option Z5)(br ct:ZO)(us:List ZO)(hl:us.length=(["script","k"]:List Str).length):aaZ (Z1 "_law_state" "_law_state" (aw cI) (ar cI) (ag cI) .none kV dC pm an br ct) ⟨us,[]⟩=pure ((["script","k"]:List Str).zip us):=match us,hl with|[_,_],_=>rfl
theorem ic:aV ["state","many","found","mixed"] ["state","many"] (ag dP):=⟨rfl,rfl,rfl,by decide+kernel,rfl,by decide+kernel,by decide+kernel⟩
theorem vS (kV dC pm:ZO)(an:Option Z5)(br ct:ZO)(us:List ZO)(hl:us.length=(["state","many"]:List Str).length):aaZ (Z1 "_law_take" "_law_take" (aw dP) (ar dP) (ag dP) .none kV dC pm an br ct) ⟨us,[]⟩=pure ((["state","many"]:List Str).zip us):=match us,hl with|[_,_],_=>rfl
theorem ff:aV ["one","other"] ["one","other"] (ag bJ):=⟨rfl,rfl,rfl,by decide+kernel,rfl,by decide+kernel,by decide+kernel⟩
theorem pz (kV dC pm:ZO)(an:Option Z5)(br ct:ZO)(us:List ZO)(hl:us.length=(["one","other"]:List Str).length):aaZ (Z1 "_law_divisor" "_law_divisor" (aw bJ) (ar bJ) (ag bJ) .none kV dC pm an br ct) ⟨us,[]⟩=pure ((["one","other"]:List Str).zip us):=match us,hl with|[_,_],_=>rfl
theorem lB:aV ["top","bottom","by"] ["top","bottom"] (ag cJ):=⟨rfl,rfl,rfl,by decide+kernel,rfl,by decide+kernel,by decide+kernel⟩
theorem sW (kV dC pm:ZO)(an:Option Z5)(br ct:ZO)(us:List ZO)(hl:us.length=(["top","bottom"]:List Str).length):aaZ (Z1 "_law_ratio" "_law_ratio" (aw cJ) (ar cJ) (ag cJ) .none kV dC pm an br ct) ⟨us,[]⟩=pure ((["top","bottom"]:List Str).zip us):=match us,hl with|[_,_],_=>rfl
theorem vT:aV ["row","order"] ["row","order"] (ag du):=⟨rfl,rfl,rfl,by decide+kernel,rfl,by decide+kernel,by decide+kernel⟩
theorem vU (kV dC pm:ZO)(an:Option Z5)(br ct:ZO)(us:List ZO)(hl:us.length=(["row","order"]:List Str).length):aaZ (Z1 "_law_laid" "_law_laid" (aw du) (ar du) (ag du) .none kV dC pm an br ct) ⟨us,[]⟩=pure ((["row","order"]:List Str).zip us):=match us,hl with|[_,_],_=>rfl
theorem cX:aV ["plan","row","start","bottom","trace","found","order","seen","some","part"] ["plan","row","start","bottom","trace"] (ag cv):=⟨rfl,rfl,rfl,by decide+kernel,rfl,by decide+kernel,by decide+kernel⟩
theorem lC (kV dC pm:ZO)(an:Option Z5)(br ct:ZO)(us:List ZO)(hl:us.length=(["plan","row","start","bottom","trace"]:List Str).length):aaZ (Z1 "_law_paths" "_law_paths" (aw cv) (ar cv) (ag cv) .none kV dC pm an br ct) ⟨us,[]⟩=pure ((["plan","row","start","bottom","trace"]:List Str).zip us):=match us,hl with|[_,_,_,_,_],_=>rfl
theorem bb:aV ["paths","again","ends","trace","result","bottom","ending","found","shares","whole","results"] ["paths"] (ag bt):=⟨rfl,rfl,rfl,by decide+kernel,rfl,by decide+kernel,by decide+kernel⟩
theorem r9 (kV dC pm:ZO)(an:Option Z5)(br ct:ZO)(us:List ZO)(hl:us.length=(["paths"]:List Str).length):aaZ (Z1 "_law_walked" "_law_walked" (aw bt) (ar bt) (ag bt) .none kV dC pm an br ct) ⟨us,[]⟩=pure ((["paths"]:List Str).zip us):=match us,hl with|[_],_=>rfl
theorem eX:aV ["some","found","top","bottom"] ["some"] (ag cK):=⟨rfl,rfl,rfl,by decide+kernel,rfl,by decide+kernel,by decide+kernel⟩
theorem sX (kV dC pm:ZO)(an:Option Z5)(br ct:ZO)(us:List ZO)(hl:us.length=(["some"]:List Str).length):aaZ (Z1 "_law_total" "_law_total" (aw cK) (ar cK) (ag cK) .none kV dC pm an br ct) ⟨us,[]⟩=pure ((["some"]:List Str).zip us):=match us,hl with|[_],_=>rfl
theorem ie:aV ["plan","row","paths","lost","found"] ["plan","row"] (ag dv):=⟨rfl,rfl,rfl,by decide+kernel,rfl,by decide+kernel,by decide+kernel⟩
theorem vV (kV dC pm:ZO)(an:Option Z5)(br ct:ZO)(us:List ZO)(hl:us.length=(["plan","row"]:List Str).length):aaZ (Z1 "_law_gone" "_law_gone" (aw dv) (ar dv) (ag dv) .none kV dC pm an br ct) ⟨us,[]⟩=pure ((["plan","row"]:List Str).zip us):=match us,hl with|[_,_],_=>rfl
theorem bR:aV ["plan","many","full","odd","parts","seen","found"] ["plan","many","full"] (ag bf):=⟨rfl,rfl,rfl,by decide+kernel,rfl,by decide+kernel,by decide+kernel⟩
theorem lD (kV dC pm:ZO)(an:Option Z5)(br ct:ZO)(us:List ZO)(hl:us.length=(["plan","many","full"]:List Str).length):aaZ (Z1 "_law_sound" "_law_sound" (aw bf) (ar bf) (ag bf) .none kV dC pm an br ct) ⟨us,[]⟩=pure ((["plan","many","full"]:List Str).zip us):=match us,hl with|[_,_,_],_=>rfl
theorem vW:aV ["bit"] ["bit"] (ag dQ):=⟨rfl,rfl,rfl,by decide+kernel,rfl,by decide+kernel,by decide+kernel⟩
theorem vX (kV dC pm:ZO)(an:Option Z5)(br ct:ZO)(us:List ZO)(hl:us.length=(["bit"]:List Str).length):aaZ (Z1 "_law_pair" "_law_pair" (aw dQ) (ar dQ) (ag dQ) .none kV dC pm an br ct) ⟨us,[]⟩=pure ((["bit"]:List Str).zip us):=match us,hl with|[_],_=>rfl
theorem dJ:aV ["state","many","numbers","bits","row","number","bit"] ["state","many","numbers","bits"] (ag bg):=⟨rfl,rfl,rfl,by decide+kernel,rfl,by decide+kernel,by decide+kernel⟩
theorem lX (kV dC pm:ZO)(an:Option Z5)(br ct:ZO)(us:List ZO)(hl:us.length=(["state","many","numbers","bits"]:List Str).length):aaZ (Z1 "_law_with_pairs" "_law_with_pairs" (aw bg) (ar bg) (ag bg) .none kV dC pm an br ct) ⟨us,[]⟩=pure ((["state","many","numbers","bits"]:List Str).zip us):=match us,hl with|[_,_,_,_],_=>rfl
theorem kn:aV ["row","numbers","left"] ["row","numbers"] (ag bH):=⟨rfl,rfl,rfl,by decide+kernel,rfl,by decide+kernel,by decide+kernel⟩
theorem r_ (kV dC pm:ZO)(an:Option Z5)(br ct:ZO)(us:List ZO)(hl:us.length=(["row","numbers"]:List Str).length):aaZ (Z1 "_law_others" "_law_others" (aw bH) (ar bH) (ag bH) .none kV dC pm an br ct) ⟨us,[]⟩=pure ((["row","numbers"]:List Str).zip us):=match us,hl with|[_,_],_=>rfl
theorem jO:aV ["state","many","count","left"] ["state","many","count"] (ag bC):=⟨rfl,rfl,rfl,by decide+kernel,rfl,by decide+kernel,by decide+kernel⟩
theorem pA (kV dC pm:ZO)(an:Option Z5)(br ct:ZO)(us:List ZO)(hl:us.length=(["state","many","count"]:List Str).length):aaZ (Z1 "_law_numbers" "_law_numbers" (aw bC) (ar bC) (ag bC) .none kV dC pm an br ct) ⟨us,[]⟩=pure ((["state","many","count"]:List Str).zip us):=match us,hl with|[_,_,_],_=>rfl
theorem eA:aV ["plan","row","word","found"] ["plan","row"] (ag aU):=⟨rfl,rfl,rfl,by decide+kernel,rfl,by decide+kernel,by decide+kernel⟩
theorem ko (kV dC pm:ZO)(an:Option Z5)(br ct:ZO)(us:List ZO)(hl:us.length=(["plan","row"]:List Str).length):aaZ (Z1 "_law_seen_chances" "_law_seen_chances" (aw aU) (ar aU) (ag aU) .none kV dC pm an br ct) ⟨us,[]⟩=pure ((["plan","row"]:List Str).zip us):=match us,hl with|[_,_],_=>rfl
theorem b_:aV ["plan","row","word","found","told","trace","chance","results"] ["plan","row"] (ag bD):=⟨rfl,rfl,rfl,by decide+kernel,rfl,by decide+kernel,by decide+kernel⟩
theorem pB (kV dC pm:ZO)(an:Option Z5)(br ct:ZO)(us:List ZO)(hl:us.length=(["plan","row"]:List Str).length):aaZ (Z1 "_law_results" "_law_results" (aw bD) (ar bD) (ag bD) .none kV dC pm an br ct) ⟨us,[]⟩=pure ((["plan","row"]:List Str).zip us):=match us,hl with|[_,_],_=>rfl
theorem cq:aV ["state","many","numbers","plan","size","seen","bit","row","due"] ["state","many"] (ag cw):=⟨rfl,rfl,rfl,by decide+kernel,rfl,by decide+kernel,by decide+kernel⟩
theorem sY (kV dC pm:ZO)(an:Option Z5)(br ct:ZO)(us:List ZO)(hl:us.length=(["state","many"]:List Str).length):aaZ (Z1 "_law_right" "_law_right" (aw cw) (ar cw) (ag cw) .none kV dC pm an br ct) ⟨us,[]⟩=pure ((["state","many"]:List Str).zip us):=match us,hl with|[_,_],_=>rfl
theorem vY:aV ["script","k","state","many"] ["script"] (ag ph):=⟨rfl,rfl,rfl,by decide+kernel,rfl,by decide+kernel,by decide+kernel⟩
structure m4 (mg:Str->Option ZO):Prop where
 ziq:mg "abs"=none
 zfq:mg "len"=none
 zeq:mg "list"=none
 zlq:mg "max"=none
 zgq:mg "min"=none
 zcq:mg "range"=none
 zkq:mg "set"=none
 zbq:mg "sorted"=none
 zjq:mg "sum"=none
 zdq:mg "tuple"=none
 zhq:mg "zip"=none
 zaq:∃tk,mg "MOST_PILES_MIXED"=some (.int 4 tk)
end Hc
namespace Hc
open L2
section
variable {base:acj}
theorem vZ (T:m4 mg)  (gJ:Df K mg "exchanged" b6):Fn P w K mg base "exchanged" 1 ["many","piles","sources"] (gr K 3 kh .S):=by
 refine Df.fnD (N:=["many","piles","sources","order","pile","source","place","origin"]) (ps:=["many","piles","sources"]) (st:=b6) (k:=0) xU .S oT gJ eI vQ rfl (by decide) ?_;intro f br A outer s0 H E hr;have hu:=hr.units;have kS:=cx hr;exact (ao (gu (i:=3) eI.nd (mG rfl (ae (aj 0) ai) T.zeq T.zcq))
 (ao (gT aaW rfl (zk (ae (aj 1) (ae (aj 2) ai)) T.zhq) (fi rfl (aL (aD (i:=4) eI.nd) (aL (aD (i:=5) eI.nd) dH)))
 (au (gT aaW rfl (zk (ae (aj 4) (ae (aH az aB (aj 1) (aj 5) (λ_ _=>rfl)) ai)) T.zhq) (fi rfl (aL (aD (i:=6) eI.nd) (aL (aD (i:=7) eI.nd) dH)))
 (au (mE (i:=3) (aj 7) (aj 6))))))
 (au (aX (fm cm fo (by rfl) T.zdq gD (ae (ir 3) ai))))))
theorem pD (T:m4 mg)  (dz:Df K mg "arrangements" aY):∀n,Fn P w K mg base "arrangements" (n+1) ["numbers"] (gr K 1 (iD n) .O):=by
 intro n
 induction n with
 |zero=>
  refine Df.fnD (N:=["numbers","told","number","rest"]) (ps:=["numbers"]) (st:=aY) (k:=0) ki .O (fF 0) dz dR jN rfl (by decide) ?_;intro f br A outer s0 H E hr;have hu:=hr.units;have kS:=cx hr;exact u9
 |succ n eB=>
  refine Df.fnD (N:=["numbers","told","number","rest"]) (ps:=["numbers"]) (st:=aY) (k:=n+1) ki .O (fF (n+1)) dz dR jN rfl (by decide) ?_;intro f br A outer s0 H E hr;have hu:=hr.units;have kS:=cx hr;exact (ao (dB (aO (cC hu) (bA (f:=id)) (aZ bL cB (by rfl) T.zfq dF (ae (aj 0) ai)) ak (aS _)) (au (uY (cg (ae (aT ai) ai)))) bu)
 (ao (gu (i:=1) dR.nd (cg ai))
 (ao (gT aaW rfl (bz (aj 0)) (aD (i:=2) dR.nd)
 (ao (eH (i:=3) (ag aY) ["numbers","told","number","rest"] ["other","number"] [none,some 2] dR.nd rfl (bz (aj 0)) (λY=>⟨(aD (i:=0) (show (["other","number"]:List Str).Nodup by decide+kernel)),(fD (aO (i7 hu) (bA (f:=not)) (aj 0) (aj 1) (aS _))),(aj 0)⟩))
 (au (kD (lJ (i:=1) aa3 acD acE pQ jB (ae (eQ (ag aY) ["numbers","told","number","rest"] ["more","number"] [none,some 2] rfl (bz (aE eB (hr.mono (by first|decide|lia)) (ae (aj 3) ai))) (λY=>⟨(aD (i:=0) (show (["more","number"]:List Str).Nodup by decide+kernel)),bN,(a_ bU bV (aT (ae (aj 1) ai)) (aj 0))⟩)) ai))))))
 (au (Ah (i:=1) (hi:=by decide))))))
theorem yc (T:m4 mg)(ku:Fn P w K mg base "exchanged" 1 ["many","piles","sources"] (gr K 3 kh .S))(eB:∀n,Fn P w K mg base "arrangements" (n+1) ["numbers"] (gr K 1 (iD n) .O))(iK:Df K mg "pile_mix" dq):Fn P w K mg base "pile_mix" 8 ["many","piles"] (gr K 2 lW .S):=by
 obtain⟨gZ,zaq⟩:=T.zaq;refine Df.fnD (N:=["many","piles"]) (ps:=["many","piles"]) (st:=dq) (k:=7) zI .S rX iK ya yb rfl (by decide) ?_;intro f br A outer s0 H E hr;have hu:=hr.units;have kS:=cx hr;exact (ao (dB (aO wA qM (aZ bL cB (by rfl) T.zfq dF (ae (aj 1) ai)) (DB (i:=4) rfl zaq) (aS _)) (au (K2 λ_=>⟨_,_,rfl⟩)) bu)
 (au (aX (fm cm fo (by rfl) T.zdq gD (ae (eQ (ag dq) ["many","piles"] ["sources","many","piles"] [none,some 0,some 1] rfl (bz (aE (eB 6) (hr.mono (by first|decide|lia)) (ae (mG rfl (ae (aZ bL cB (by rfl) T.zfq dF (ae (aj 1) ai)) ai) T.zeq T.zcq) ai))) (λY=>⟨(aD (i:=0) (show (["sources","many","piles"]:List Str).Nodup by decide+kernel)),bN,(aE ku (hr.mono (by first|decide|lia)) (ae (aj 1) (ae (aj 2) (ae (aj 0) ai))))⟩)) ai)))))
theorem zN (T:m4 mg)  (jr:Df K mg "pair_at" e_):Fn P w K mg base "pair_at" 1 ["number"] (gr K 1 jo .S):=by
 refine Df.fnD (N:=["number"]) (ps:=["number"]) (st:=e_) (k:=0) Ct .S uG jr zJ zK rfl (by decide) ?_;intro f br A outer s0 H E hr;have hu:=hr.units;have kS:=cx hr;exact (au (aX (aT (ae (a_ dY cP ak (aj 0)) (ae (a_ bU bV (a_ dY cP ak (aj 0)) ak) ai)))))
theorem Cz (T:m4 mg)  (ky:Df K mg "turned" fb):Fn P w K mg base "turned" 1 ["pair"] (gr K 1 kj .S):=by
 refine Df.fnD (N:=["pair"]) (ps:=["pair"]) (st:=fb) (k:=0) Fx .S xV ky Cv Cw rfl (by decide) ?_;intro f br A outer s0 H E hr;have hu:=hr.units;have kS:=cx hr;exact (au (aX (aT (ae (aH az aB (aj 0) ak (λ_ _=>rfl)) (ae (aH az aB (aj 0) ak (λ_ _=>rfl)) ai)))))
theorem v7 (T:m4 mg)  (gK:Df K mg "whole_end" cu):Fn P w K mg base "whole_end" 1 ["many","pairs"] (gr K 2 iZ .S):=by
 refine Df.fnD (N:=["many","pairs","places","pair"]) (ps:=["many","pairs"]) (st:=cu) (k:=0) xW .S oU gK jG vR rfl (by decide) ?_;intro f br A outer s0 H E hr;have hu:=hr.units;have kS:=cx hr;exact (ao (gu (i:=2) jG.nd (cg ai))
 (ao (gT aaW rfl (bz (aj 1)) (aD (i:=3) jG.nd)
 (au (kD (lJ (i:=2) aa3 acD acE pQ jB (ae (aj 3) ai)))))
 (pS 2 (au (aX (aT (ae dU (ae (fm cm fo (by rfl) T.zdq gD (ae (a_ bU bV (aj 2) (eQ (ag cu) ["many","pairs","places","pair"] ["place","places"] [none,some 2] rfl (jj (ae (aj 0) ai) T.zcq) (λY=>⟨(aD (i:=0) (show (["place","places"]:List Str).Nodup by decide+kernel)),(fD (aO (uB hu) zD (aj 0) (aj 1) (by with_unfolding_all rfl))),(aj 0)⟩))) ai)) ai))))))))
theorem m6 (T:m4 mg)(l_:Fn P w K mg base "pile_mix" 8 ["many","piles"] (gr K 2 lW .S))(dA:Df K mg "mixed_and_seen" bo):Fn P w K mg base "mixed_and_seen" 9 ["many","piles","plans"] (gr K 3 gj .S):=by
 refine Df.fnD (N:=["many","piles","plans"]) (ps:=["many","piles","plans"]) (st:=bo) (k:=8) nU .S jq dA mY mZ rfl (by decide) ?_;intro f br A outer s0 H E hr;have hu:=hr.units;have kS:=cx hr;exact (au (aX (aT (ae dU (ae (aE l_ (hr.mono (by first|decide|lia)) (ae (aj 0) (ae (aj 1) ai))) (ae (aT (ae dU (ae (aT (ae (aH az aB (aH az aB (aj 1) ak (λ_ _=>rfl)) ak (λ_ _=>rfl)) ai)) (ae (aT (ae (aT (ae (aT (ae ak ai)) (ae (aH az aB (aj 2) ak (λ_ _=>rfl)) ai))) (ae (aT (ae (aT (ae ak ai)) (ae (aH az aB (aj 2) ak (λ_ _=>rfl)) ai))) ai))) ai)))) ai))))))
theorem zO (T:m4 mg)  (jt:Df K mg "turning" cS):Fn P w K mg base "turning" 1 ["one","others"] (gr K 2 nV .S):=by
 refine Df.fnD (N:=["one","others"]) (ps:=["one","others"]) (st:=cS) (k:=0) Cu .S uH jt zL zM rfl (by decide) ?_;intro f br A outer s0 H E hr;have hu:=hr.units;have kS:=cx hr;exact (au (aX (aT (ae (a_ bU bV (aT (ae (aH az aB (aj 0) ak (λ_ _=>rfl)) ai)) (fm cm fo (by rfl) T.zdq gD (ae (eQ (ag cS) ["one","others"] ["pair"] [none] rfl (bz (aj 1)) (λY=>⟨(aD (i:=0) (show (["pair"]:List Str).Nodup by decide+kernel)),bN,(aH az aB (aj 0) ak (λ_ _=>rfl))⟩)) ai))) (ae (a_ bU bV (aT (ae (aH az aB (aj 0) ak (λ_ _=>rfl)) ai)) (fm cm fo (by rfl) T.zdq gD (ae (eQ (ag cS) ["one","others"] ["pair"] [none] rfl (bz (aj 1)) (λY=>⟨(aD (i:=0) (show (["pair"]:List Str).Nodup by decide+kernel)),bN,(aH az aB (aj 0) ak (λ_ _=>rfl))⟩)) ai))) ai)))))
theorem CA (T:m4 mg)(ju:Fn P w K mg base "pair_at" 1 ["number"] (gr K 1 jo .S))(kz:Fn P w K mg base "turned" 1 ["pair"] (gr K 1 kj .S))(i5:Fn P w K mg base "whole_end" 1 ["many","pairs"] (gr K 2 iZ .S))(gq:Fn P w K mg base "mixed_and_seen" 9 ["many","piles","plans"] (gr K 3 gj .S))(n8:Fn P w K mg base "turning" 1 ["one","others"] (gr K 2 nV .S))(kA:Df K mg "copied" fc):Fn P w K mg base "copied" 10 ["many","one","first","second"] (gr K 4 fG .S):=by
 refine Df.fnD (N:=["many","one","first","second","pair","copies","ends"]) (ps:=["many","one","first","second"]) (st:=fc) (k:=9) Fy .S xX kA kP Cy rfl (by decide) ?_;intro f br A outer s0 H E hr;have hu:=hr.units;have kS:=cx hr;exact (ao (bO (i:=4) kP.nd (aE ju (hr.mono (by first|decide|lia)) (ae (aj 1) ai)))
 (ao (bO (i:=5) kP.nd (aT (ae (aE ju (hr.mono (by first|decide|lia)) (ae (aj 2) ai)) (ae (aE ju (hr.mono (by first|decide|lia)) (ae (aj 3) ai)) ai))))
 (ao (bO (i:=6) kP.nd (aT (ae (aE i5 (hr.mono (by first|decide|lia)) (ae (aj 0) (ae (a_ bU bV (aj 5) (aT (ae (aj 4) ai))) ai))) (ae (aE i5 (hr.mono (by first|decide|lia)) (ae (aj 0) (ae (aT (ae (aE kz (hr.mono (by first|decide|lia)) (ae (aH az aB (aj 5) ak (λ_ _=>rfl)) ai)) (ae (aE kz (hr.mono (by first|decide|lia)) (ae (aH az aB (aj 5) ak (λ_ _=>rfl)) ai)) (ae (aE kz (hr.mono (by first|decide|lia)) (ae (aj 4) ai)) ai)))) ai))) ai))))
 (au (aX (aE gq (hr.mono (by first|decide|lia)) (ae (aj 0) (ae (aE n8 (hr.mono (by first|decide|lia)) (ae (aj 4) (ae (aj 5) ai))) (ae (aj 6) ai)))))))))
theorem pE (T:m4 mg)  (eC:Df K mg "_law_cell_at" b9):Fn P w K mg base "_law_cell_at" 1 ["script","k"] (gr K 2 dh .S):=by
 refine Df.fnD (N:=["script","k"]) (ps:=["script","k"]) (st:=b9) (k:=0) rY .S fH eC pj pq rfl (by decide) ?_;intro f br A outer s0 H E hr;have hu:=hr.units;have kS:=cx hr;exact (ao (dB (aO CZ yY (aj 1) (aZ bL cB (by rfl) T.zfq dF (ae (aj 0) ai)) (aS _)) (au (aX (aH az aB (aj 0) (aj 1) (λ_ _=>rfl)))) bu)
 (au (aX ak)))
theorem sZ (T:m4 mg)(iL:Fn P w K mg base "_law_cell_at" 1 ["script","k"] (gr K 2 dh .S))(fL:Df K mg "_law_state" cI):Fn P w K mg base "_law_state" 2 ["script","k"] (gr K 2 fI .O):=by
 refine Df.fnD (N:=["script","k","cell"]) (ps:=["script","k"]) (st:=cI) (k:=1) vL .O g8 fL lA sV rfl (by decide) ?_;intro f br A outer s0 H E hr;have hu:=hr.units;have kS:=cx hr;exact (ao (bO (i:=2) lA.nd (aE iL (hr.mono (by first|decide|lia)) (ae (aj 0) (ae (aj 1) ai))))
 (ao (dB (aO MD KR (aj 2) (a_ CW Am ak ak) (aS _)) (au (uY (cg (ae (a_ uR pO (aj 2) (a_ CW Am ak ak)) (ae qw ai))))) bu)
 (au (uY (cg (ae (a_ lH jA (aj 2) ak) (ae qw ai)))))))
theorem v8 (T:m4 mg)  (gL:Df K mg "_law_take" dP):Fn P w K mg base "_law_take" 1 ["state","many"] (DH K 2 bw):=by
 refine Df.fnI (N:=["state","many","found","mixed"]) (ps:=["state","many"]) (st:=dP) (k:=0) xY i0 gL ic vS rfl rfl (by decide) ?_;intro f br A outer s0 H E hr;have hu:=hr.units;have kS:=cx hr;exact (ao (dB (qx (aH az aB (ir 0) ak (λ_ _=>rfl))) (ao (bO (i:=2) ic.nd (a_ lH jA (aH az aB (ir 0) ak (λ_ _=>rfl)) (aj 1)))
 (ao (mE (i:=0) (a_ ij jl (aH az aB (ir 0) ak (λ_ _=>rfl)) (aj 1)) ak)
 (au (aX (aj 2))))) bu)
 (ao (mE (i:=0) (a_ lH jA (a_ bU bV (a_ dY cP (aH az aB (ir 0) ak (λ_ _=>rfl)) ak) ak) ak) ak)
 (ao (bO (i:=3) ic.nd (a_ lH jA (a_ bU bV (a_ bU bV (a_ dY cP (aH az aB (ir 0) ak (λ_ _=>rfl)) (aH az aB (ir 0) ak (λ_ _=>rfl))) (a_ dY cP ak (aH az aB (ir 0) ak (λ_ _=>rfl)))) ak) ak))
 (ao (bO (i:=3) ic.nd (a_ lH jA (a_ bU bV (a_ dY cP (aj 3) (aj 3)) (a_ dY cP ak (aj 3))) ak))
 (au (aX (a_ lH jA (a_ ij jl (aj 3) ak) (aj 1))))))))
theorem pF (T:m4 mg)  (eD:Df K mg "_law_divisor" bJ):Fn P w K mg base "_law_divisor" 1 ["one","other"] (gr K 2 iE .S):=by
 refine Df.fnD (N:=["one","other"]) (ps:=["one","other"]) (st:=bJ) (k:=0) rZ .S kl eD ff pz rfl (by decide) ?_;intro f br A outer s0 H E hr;have hu:=hr.units;have kS:=cx hr;exact (ao (bO (i:=0) ff.nd (aZ wB Aq (by rfl) T.ziq Ds (ae (aj 0) ai)))
 (ao (bO (i:=1) ff.nd (aZ wB Aq (by rfl) T.ziq Ds (ae (aj 1) ai)))
 (ao (DQ aaW (aO wA qM (aj 1) ak (aS _))
 (au (KA (i:=0) (j:=1) rfl ff.nd (ae (aj 1) (ae (a_ lH jA (aj 0) (aj 1)) ai)))))
 (au (aX (aj 0))))))
theorem s9 (T:m4 mg)(iM:Fn P w K mg base "_law_divisor" 1 ["one","other"] (gr K 2 iE .S))(fM:Df K mg "_law_ratio" cJ):Fn P w K mg base "_law_ratio" 2 ["top","bottom"] (gr K 2 bQ .S):=by
 refine Df.fnD (N:=["top","bottom","by"]) (ps:=["top","bottom"]) (st:=cJ) (k:=1) vM .S mU fM lB sW rfl (by decide) ?_;intro f br A outer s0 H E hr;have hu:=hr.units;have kS:=cx hr;exact (ao (bO (i:=2) lB.nd (aE iM (hr.mono (by first|decide|lia)) (ae (aj 0) (ae (aj 1) ai))))
 (au (aX (aT (ae (a_ ij jl (aj 0) (aj 2)) (ae (a_ ij jl (aj 1) (aj 2)) ai))))))
theorem v9 (T:m4 mg)  (gN:Df K mg "_law_laid" du):Fn P w K mg base "_law_laid" 1 ["row","order"] (gr K 2 fq .S):=by
 refine Df.fnD (N:=["row","order"]) (ps:=["row","order"]) (st:=du) (k:=0) xZ .S oV gN vT vU rfl (by decide) ?_;intro f br A outer s0 H E hr;have hu:=hr.units;have kS:=cx hr;exact (au (aX (fm cm fo (by rfl) T.zdq gD (ae (eQ (ag du) ["row","order"] ["place","row"] [none,some 0] rfl (bz (aj 1)) (λY=>⟨(aD (i:=0) (show (["place","row"]:List Str).Nodup by decide+kernel)),bN,(aH az aB (aj 1) (aj 0) (λ_ _=>rfl))⟩)) ai))))
theorem s_ (T:m4 mg)(fu:Fn P w K mg base "_law_laid" 1 ["row","order"] (gr K 2 fq .S))(eK:Df K mg "_law_paths" cv):∀n,Fn P w K mg base "_law_paths" (n+2) ["plan","row","start","bottom","trace"] (gr K 5 (aM n) .S):=by
 intro n
 induction n with
 |zero=>
  refine Df.fnD (N:=["plan","row","start","bottom","trace","found","order","seen","some","part"]) (ps:=["plan","row","start","bottom","trace"]) (st:=cv) (k:=1) mV .S (g9 0) eK cX lC rfl (by decide) ?_;intro f br A outer s0 H E hr;have hu:=hr.units;have kS:=cx hr;exact u9
 |succ n dN=>
  refine Df.fnD (N:=["plan","row","start","bottom","trace","found","order","seen","some","part"]) (ps:=["plan","row","start","bottom","trace"]) (st:=cv) (k:=n+2) mV .S (g9 (n+1)) eK cX lC rfl (by decide) ?_;intro f br A outer s0 H E hr;have hu:=hr.units;have kS:=cx hr;exact (ao (dB (aO (cC hu) (bA (f:=id)) (aH az aB (aj 0) ak (λ_ _=>rfl)) dU (aS _)) (au (aX (cg (ae (aT (ae (aj 4) (ae fZ (ae (aj 3) ai)))) ai)))) bu)
 (ao (dB (aO (cC hu) (bA (f:=id)) (aH az aB (aj 0) ak (λ_ _=>rfl)) dU (aS _)) (au (aX (cg (ae (aT (ae (aj 4) (ae (aE fu (hr.mono (by first|decide|lia)) (ae (aj 1) (ae (aH az aB (aj 0) ak (λ_ _=>rfl)) ai))) (ae (aj 3) ai)))) ai)))) bu)
 (ao (dB (aO (cC hu) (bA (f:=id)) (aH az aB (aj 0) ak (λ_ _=>rfl)) dU (aS _)) (au (aX (aE dN (hr.mono (by first|decide|lia)) (Mc (aR (aH az aB (aj 0) ak (λ_ _=>rfl)) (aR (aE fu (hr.mono (by first|decide|lia)) (ae (aj 1) (ae (aH az aB (aj 0) ak (λ_ _=>rfl)) ai))) (aR (aj 2) (aR (aj 3) (aR (aj 4) kK))))))))) bu)
 (ao (dB (aO (cC hu) (bA (f:=id)) (aH az aB (aj 0) ak (λ_ _=>rfl)) dU (aS _)) (ao (gu (i:=5) cX.nd (cg ai))
 (ao (gT aaW rfl (bz (aH az aB (aj 0) ak (λ_ _=>rfl))) (aD (i:=6) cX.nd)
 (au (kD (lJ (i:=5) aa3 acD acE pQ jB (ae (aE dN (hr.mono (by first|decide|lia)) (Mc (aR (aH az aB (aj 0) ak (λ_ _=>rfl)) (aR (aE fu (hr.mono (by first|decide|lia)) (ae (aj 1) (ae (aj 6) ai))) (aR (aj 2) (aR (a_ dY cP (aj 3) (aZ bL cB (by rfl) T.zfq dF (ae (aH az aB (aj 0) ak (λ_ _=>rfl)) ai))) (aR (aj 4) kK))))))) ai)))))
 (au (Ah (i:=5) (hi:=by decide))))) bu)
 (ao (bO (i:=7) cX.nd (aE fu (hr.mono (by first|decide|lia)) (ae (aj 1) (ae (aH az aB (aj 0) ak (λ_ _=>rfl)) ai))))
 (ao (gT aaW rfl (bz (aH az aB (aj 0) ak (λ_ _=>rfl))) (fi rfl (aL (aD (i:=8) cX.nd) (aL (aD (i:=9) cX.nd) dH)))
 (au (dB (aO (cC hu) (bA (f:=id)) (aj 8) (aj 7) (aS _)) (au (aX (aE dN (hr.mono (by first|decide|lia)) (Mc (aR (aj 9) (aR (aj 1) (aR (aj 2) (aR (aj 3) (aR (a_ bU bV (aj 4) (aT (ae (aj 7) ai))) kK))))))))) bu)))
 (au (aX (cg (ae (aT (ae (aj 4) (ae (aT (ae dU (ae (aj 7) ai))) (ae (aj 3) ai)))) ai))))))))))
theorem tm (T:m4 mg)(cT:Fn P w K mg base "_law_ratio" 2 ["top","bottom"] (gr K 2 bQ .S))(fN:Df K mg "_law_total" cK):Fn P w K mg base "_law_total" 3 ["some"] (gr K 1 bG .S):=by
 refine Df.fnD (N:=["some","found","top","bottom"]) (ps:=["some"]) (st:=cK) (k:=2) vN .S mW fN eX sX rfl (by decide) ?_;intro f br A outer s0 H E hr;have hu:=hr.units;have kS:=cx hr;exact (ao (bO (i:=1) eX.nd (aT (ae ak (ae ak ai))))
 (ao (gT aaW rfl (bz (aj 0)) (fi rfl (aL (aD (i:=2) eX.nd) (aL (aD (i:=3) eX.nd) dH)))
 (au (bO (i:=1) eX.nd (aE cT (hr.mono (by first|decide|lia)) (ae (a_ bU bV (a_ dY cP (aH az aB (aj 1) ak (λ_ _=>rfl)) (aj 3)) (a_ dY cP (aj 2) (aH az aB (aj 1) ak (λ_ _=>rfl)))) (ae (a_ dY cP (aH az aB (aj 1) ak (λ_ _=>rfl)) (aj 3)) ai))))))
 (au (aX (aj 1)))))
theorem sd (T:m4 mg)(cT:Fn P w K mg base "_law_ratio" 2 ["top","bottom"] (gr K 2 bQ .S))(fO:Fn P w K mg base "_law_total" 3 ["some"] (gr K 1 bG .S))(eY:Df K mg "_law_walked" bt):Fn P w K mg base "_law_walked" 4 ["paths"] (gr K 1 cW .S):=by
 refine Df.fnD (N:=["paths","again","ends","trace","result","bottom","ending","found","shares","whole","results"]) (ps:=["paths"]) (st:=bt) (k:=3) sT .S ja eY bb r9 rfl (by decide) ?_;intro f br A outer s0 H E hr;have hu:=hr.units;have kS:=cx hr;exact (ao (bO (i:=1) bb.nd (aE fO (hr.mono (by first|decide|lia)) (ae (eQ (ag bt) ["paths","again","ends","trace","result","bottom","ending","found","shares","whole","results"] ["trace","result","bottom"] [none,none,none] rfl (bz (aj 0)) (λY=>⟨(fi rfl (aL (aD (i:=0) (show (["trace","result","bottom"]:List Str).Nodup by decide+kernel)) (aL (aD (i:=1) (show (["trace","result","bottom"]:List Str).Nodup by decide+kernel)) (aL (aD (i:=2) (show (["trace","result","bottom"]:List Str).Nodup by decide+kernel)) dH)))),(fD (aO yv u6 (aj 1) fZ (aS _))),(aT (ae ak (ae (aj 2) ai)))⟩)) ai)))
 (ao (gu (i:=2) bb.nd D1)
 (ao (Hv (Lq aaW rfl (bz (aj 0)) (fi rfl (aL (aD (i:=3) bb.nd) (aL (aD (i:=4) bb.nd) (aL (aD (i:=5) bb.nd) dH)))) (Bd
 (N8 (aO z_ w9 (aj 4) fZ (aS _)) (Bd (Lu (Bg hu (Bg hu (Hy 2) (aj 3) Hw) (aj 4) Hx) (aT (ae ak (ae (aj 5) ai))))) Hu))))
 (pS 2 (ao (bO (i:=6) bb.nd (aE cT (hr.mono (by first|decide|lia)) (ae (a_ uR pO (aH az aB (aj 1) ak (λ_ _=>rfl)) (aH az aB (aj 1) ak (λ_ _=>rfl))) (ae (aH az aB (aj 1) ak (λ_ _=>rfl)) ai))))
 (ao (dB (aO (cC hu) (bA (f:=id)) (aH az aB (aj 6) ak (λ_ _=>rfl)) ak (aS _)) (au (aX (aT (ae (aj 1) (ae fZ ai))))) bu)
 (ao (gu (i:=7) bb.nd (cg ai))
 (ao (gT aaW rfl (bz (aZ (zH rfl hu) Cs (by rfl) T.zbq ji (ae (aj 2) ai))) (aD (i:=3) bb.nd)
 (ao (eH (i:=8) (ag bt) ["paths","again","ends","trace","result","bottom","ending","found","shares","whole","results"] ["result","ends","trace"] [none,some 2,some 3] bb.nd rfl (bz (aZ (nP rfl hu) rM (by rfl) T.zbq ji (ae (ze hu (aj 2) (aj 3)) ai))) (λY=>⟨(aD (i:=0) (show (["result","ends","trace"]:List Str).Nodup by decide+kernel)),bN,(aT (ae (aj 0) (ae (aE fO (hr.mono (by first|decide|lia)) (ae (ze hu (ze hu (aj 1) (aj 2)) (aj 0)) ai)) ai)))⟩))
 (ao (bO (i:=9) bb.nd (aE fO (hr.mono (by first|decide|lia)) (ae (eQ (ag bt) ["paths","again","ends","trace","result","bottom","ending","found","shares","whole","results"] ["result","share"] [none,none] rfl (bz (aj 8)) (λY=>⟨(fi rfl (aL (aD (i:=0) (show (["result","share"]:List Str).Nodup by decide+kernel)) (aL (aD (i:=1) (show (["result","share"]:List Str).Nodup by decide+kernel)) dH))),bN,(aj 1)⟩)) ai)))
 (ao (eH (i:=10) (ag bt) ["paths","again","ends","trace","result","bottom","ending","found","shares","whole","results"] ["result","share","whole"] [none,none,some 9] bb.nd rfl (bz (aj 8)) (λY=>⟨(fi rfl (aL (aD (i:=0) (show (["result","share","whole"]:List Str).Nodup by decide+kernel)) (aL (aD (i:=1) (show (["result","share","whole"]:List Str).Nodup by decide+kernel)) dH))),bN,(aT (ae (aj 0) (ae (aE cT (hr.mono (by first|decide|lia)) (ae (a_ dY cP (aH az aB (aj 1) ak (λ_ _=>rfl)) (aH az aB (aj 2) ak (λ_ _=>rfl))) (ae (a_ dY cP (aH az aB (aj 1) ak (λ_ _=>rfl)) (aH az aB (aj 2) ak (λ_ _=>rfl))) ai))) ai)))⟩))
 (au (kD (lJ (i:=7) aa3 adB adC ng qL (ae (aT (ae (aj 3) (ae (aE cT (hr.mono (by first|decide|lia)) (ae (a_ dY cP (aH az aB (aj 9) ak (λ_ _=>rfl)) (aH az aB (aj 6) ak (λ_ _=>rfl))) (ae (a_ dY cP (aH az aB (aj 9) ak (λ_ _=>rfl)) (aH az aB (aj 6) ak (λ_ _=>rfl))) ai))) (ae (aj 10) ai)))) ai))))))))
 (pS 7 (au (aX (aT (ae (aj 1) (ae (aj 7) ai))))))))))))))
theorem v_ (T:m4 mg)(dN:∀n,Fn P w K mg base "_law_paths" (n+2) ["plan","row","start","bottom","trace"] (gr K 5 (aM n) .S))(jd:Fn P w K mg base "_law_walked" 4 ["paths"] (gr K 1 cW .S))(gO:Df K mg "_law_gone" dv):Fn P w K mg base "_law_gone" 9 ["plan","row"] (gr K 2 ba .S):=by
 refine Df.fnD (N:=["plan","row","paths","lost","found"]) (ps:=["plan","row"]) (st:=dv) (k:=8) x8 .S km gO ie vV rfl (by decide) ?_;intro f br A outer s0 H E hr;have hu:=hr.units;have kS:=cx hr;exact (ao (bO (i:=2) ie.nd (aE (dN 6) (hr.mono (by first|decide|lia)) (Mc (aR (aj 0) (aR (aj 1) (aR (aj 1) (aR ak (aR (aT ai) kK))))))))
 (ao (eH (i:=3) (ag dv) ["plan","row","paths","lost","found"] ["trace","result","bottom"] [none,none,none] ie.nd rfl (bz (aj 2)) (λY=>⟨(fi rfl (aL (aD (i:=0) (show (["trace","result","bottom"]:List Str).Nodup by decide+kernel)) (aL (aD (i:=1) (show (["trace","result","bottom"]:List Str).Nodup by decide+kernel)) (aL (aD (i:=2) (show (["trace","result","bottom"]:List Str).Nodup by decide+kernel)) dH)))),(fD (DW.dt (jy (aO z_ w9 (aj 1) fZ (aS _)) (jx (aO (cC hu) (bA (f:=id)) (DM DV KQ (aj 1) GN (GO ak)) (aT (ae dU ai)) (aS _)))))),(aH az aB (aj 1) ak (λ_ _=>rfl))⟩))
 (ao (dB (aO (i7 hu) (bA (f:=not)) (aj 3) (cg ai) (aS _)) (au (aX (aT (ae dU (ae (aj 3) ai))))) bu)
 (ao (bO (i:=4) ie.nd (aH az aB (aE jd (hr.mono (by first|decide|lia)) (ae (aj 2) ai)) ak (λ_ _=>rfl)))
 (ao (dB (aO yv u6 (aj 4) fZ (aS _)) (au (aX (aT (ae dU (ae (cg ai) ai))))) bu)
 (au (aX (aT (ae dU (ae (aj 4) ai))))))))))
theorem tq (T:m4 mg)  (eL:Df K mg "_law_sound" bf):∀n,Fn P w K mg base "_law_sound" (n+1) ["plan","many","full"] (gr K 3 (cQ n) .S):=by
 intro n
 induction n with
 |zero=>
  refine Df.fnD (N:=["plan","many","full","odd","parts","seen","found"]) (ps:=["plan","many","full"]) (st:=bf) (k:=0) mX .S (g_ 0) eL bR lD rfl (by decide) ?_;intro f br A outer s0 H E hr;have hu:=hr.units;have kS:=cx hr;exact u9
 |succ n fP=>
  refine Df.fnD (N:=["plan","many","full","odd","parts","seen","found"]) (ps:=["plan","many","full"]) (st:=bf) (k:=n+1) mX .S (g_ (n+1)) eL bR lD rfl (by decide) ?_;intro f br A outer s0 H E hr;have hu:=hr.units;have kS:=cx hr;exact (ao (dB (DW.dt (jy (aO (cC hu) (bA (f:=id)) (aH az aB (aj 0) ak (λ_ _=>rfl)) dU (aS _)) (jx (aO (cC hu) (bA (f:=id)) (aZ bL cB (by rfl) T.zfq dF (ae (aj 0) ai)) ak (aS _))))) (ao (eH (i:=3) (ag bf) ["plan","many","full","odd","parts","seen","found"] ["place","many"] [none,some 1] bR.nd rfl (bz (aH az aB (aj 0) ak (λ_ _=>rfl))) (λY=>⟨(aD (i:=0) (show (["place","many"]:List Str).Nodup by decide+kernel)),(fD (uX (wQ C0 yZ CZ yY ak (aj 0) (aj 1)))),(aj 0)⟩))
 (ao (dB (DW.dt (qA (aO (i7 hu) (bA (f:=not)) (aj 3) (cg ai) (aS _)) (qA (aO (i7 hu) (bA (f:=not)) (B0 rfl (ae (aH az aB (aj 0) ak (λ_ _=>rfl)) ai) (by rfl) T.zfq (by rfl) T.zkq) (aZ bL cB (by rfl) T.zfq dF (ae (aH az aB (aj 0) ak (λ_ _=>rfl)) ai)) (aS _)) (uW (DW.dt (jy (qx (aj 2)) (jx (aO CZ yY (aZ bL cB (by rfl) T.zfq dF (ae (aH az aB (aj 0) ak (λ_ _=>rfl)) ai)) (aj 1) (aS _))))))))) (au (aX fZ)) bu)
 (au (aX (DF (hc:=(aO wA qM (aZ bL cB (by rfl) T.zfq dF (ae (aH az aB (aj 0) ak (λ_ _=>rfl)) ai)) ak (aS _))) (ha:=(aT (ae ak (ae ak ai)))) (hb:=fZ)))))) bu)
 (ao (bO (i:=4) bR.nd (cg ai))
 (ao (dB (DW.dt (jy (aO (cC hu) (bA (f:=id)) (aH az aB (aj 0) ak (λ_ _=>rfl)) dU (aS _)) (jx (aO (cC hu) (bA (f:=id)) (aZ bL cB (by rfl) T.zfq dF (ae (aj 0) ai)) ak (aS _))))) (ao (eH (i:=5) (ag bf) ["plan","many","full","odd","parts","seen","found"] ["way"] [none] bR.nd rfl (bz (aH az aB (aj 0) ak (λ_ _=>rfl))) (λY=>⟨(aD (i:=0) (show (["way"]:List Str).Nodup by decide+kernel)),bN,(aH az aB (aj 0) ak (λ_ _=>rfl))⟩))
 (au (dB (DW.dt (jy (aO (cC hu) (bA (f:=id)) (aj 5) (rN rfl hu (ae (aj 5) ai) T.zbq T.zkq) (aS _)) (jx (aO (cC hu) (bA (f:=id)) (eQ (ag bf) ["plan","many","full","odd","parts","seen","found"] ["one","plan"] [none,some 0] rfl (bz (aj 5)) (λY=>⟨(aD (i:=0) (show (["one","plan"]:List Str).Nodup by decide+kernel)),(fD (aO (i7 hu) (bA (f:=not)) (aZ bL cB (by rfl) T.zfq dF (ae (aj 0) ai)) (aZ bL cB (by rfl) T.zfq dF (ae (aH az aB (aj 1) ak (λ_ _=>rfl)) ai)) (aS _))),(aj 0)⟩)) (cg ai) (aS _))))) (au (eH (i:=4) (ag bf) ["plan","many","full","odd","parts","seen","found"] ["way"] [none] bR.nd rfl (bz (aH az aB (aj 0) ak (λ_ _=>rfl))) (λY=>⟨(aD (i:=0) (show (["way"]:List Str).Nodup by decide+kernel)),bN,(aH az aB (aj 0) ak (λ_ _=>rfl))⟩))) bu))) bu)
 (ao (dB (DW.dt (jy (aO (cC hu) (bA (f:=id)) (aH az aB (aj 0) ak (λ_ _=>rfl)) dU (aS _)) (jy (aO (cC hu) (bA (f:=id)) (aZ bL cB (by rfl) T.zfq dF (ae (aj 0) ai)) ak (aS _)) (jx (aO (cC hu) (bA (f:=id)) (aZ (nP rfl hu) rM (by rfl) T.zbq ji (ae (aH az aB (aj 0) ak (λ_ _=>rfl)) ai)) (mG rfl (ae (aj 1) ai) T.zeq T.zcq) (aS _)))))) (au (bO (i:=4) bR.nd (cg (ae (aH az aB (aj 0) ak (λ_ _=>rfl)) ai)))) bu)
 (ao (dB (DW.dt (jy (aO (cC hu) (bA (f:=id)) (aH az aB (aj 0) ak (λ_ _=>rfl)) dU (aS _)) (jy (aO (cC hu) (bA (f:=id)) (aZ bL cB (by rfl) T.zfq dF (ae (aj 0) ai)) ak (aS _)) (jx (wQ C0 yZ C0 yZ ak (aZ bL cB (by rfl) T.zfq dF (ae (aH az aB (aj 0) ak (λ_ _=>rfl)) ai)) ak))))) (au (dB (aO (cC hu) (bA (f:=id)) (eQ (ag bf) ["plan","many","full","odd","parts","seen","found"] ["order","many"] [none,some 1] rfl (bz (aH az aB (aj 0) ak (λ_ _=>rfl))) (λY=>⟨(aD (i:=0) (show (["order","many"]:List Str).Nodup by decide+kernel)),(fD (aO (i7 hu) (bA (f:=not)) (aZ (nP rfl hu) rM (by rfl) T.zbq ji (ae (aj 0) ai)) (mG rfl (ae (aj 1) ai) T.zeq T.zcq) (aS _))),(aj 0)⟩)) (cg ai) (aS _)) (au (bO (i:=4) bR.nd (cg (ae (aH az aB (aj 0) ak (λ_ _=>rfl)) ai)))) bu)) bu)
 (ao (eH (i:=6) (ag bf) ["plan","many","full","odd","parts","seen","found"] ["part","many","full"] [none,some 1,some 2] bR.nd rfl (bz (aj 4)) (λY=>⟨(aD (i:=0) (show (["part","many","full"]:List Str).Nodup by decide+kernel)),bN,(aE fP (hr.mono (by first|decide|lia)) (ae (aj 0) (ae (aj 1) (ae (aj 2) ai))))⟩))
 (ao (dB (DW.dt (qA (aO (cC hu) (bA (f:=id)) (aj 6) (cg ai) (aS _)) (uW (aO (Ln hu) zD fZ (aj 6) (by with_unfolding_all rfl))))) (au (aX fZ)) bu)
 (au (aX (aT (ae (a_ bU bV ak (aZ (Ci rfl) Fp (by rfl) T.zjq Ks (ae (eQ (ag bf) ["plan","many","full","odd","parts","seen","found"] ["one"] [none] rfl (bz (aj 6)) (λY=>⟨(aD (i:=0) (show (["one"]:List Str).Nodup by decide+kernel)),bN,(aH az aB (aj 0) ak (λ_ _=>rfl))⟩)) ai))) (ae (a_ bU bV ak (aZ (Cj rfl) Fs (by rfl) T.zlq Dr (ae (eQ (ag bf) ["plan","many","full","odd","parts","seen","found"] ["one"] [none] rfl (bz (aj 6)) (λY=>⟨(aD (i:=0) (show (["one"]:List Str).Nodup by decide+kernel)),bN,(aH az aB (aj 0) ak (λ_ _=>rfl))⟩)) ai))) ai))))))))))))
theorem wa (T:m4 mg)  (gP:Df K mg "_law_pair" dQ):Fn P w K mg base "_law_pair" 1 ["bit"] (gr K 1 ft .S):=by
 refine Df.fnD (N:=["bit"]) (ps:=["bit"]) (st:=dQ) (k:=0) x9 .S oW gP vW vX rfl (by decide) ?_;intro f br A outer s0 H E hr;have hu:=hr.units;have kS:=cx hr;exact (au (aX (aT (ae (aj 0) (ae (a_ uR pO ak (aj 0)) ai)))))
theorem lY (T:m4 mg)(dE:Fn P w K mg base "_law_take" 1 ["state","many"] (DH K 2 bw))(cU:Df K mg "_law_with_pairs" bg):Fn P w K mg base "_law_with_pairs" 2 ["state","many","numbers","bits"] (DH K 4 bX):=by
 refine Df.fnI (N:=["state","many","numbers","bits","row","number","bit"]) (ps:=["state","many","numbers","bits"]) (st:=bg) (k:=1) cR fJ cU dJ lX rfl rfl (by decide) ?_;intro f br A outer s0 H E hr;have hu:=hr.units;have kS:=cx hr;exact (ao (yQ (i:=4) (ag bg) ["state","many","numbers","bits","row","number","bit"] ["place","state"] [none,some 0] dJ.nd rfl (jj (ae (aj 1) ai) T.zcq) (λY=>⟨(aD (i:=0) (show (["place","state"]:List Str).Nodup by decide+kernel)),bN,(fB (i:=1) dE (hr.mono (by first|decide|lia)) (ae ak ai))⟩))
 (ao (gT aaW rfl (zk (ae (aj 2) (ae (aj 3) ai)) T.zhq) (fi rfl (aL (aD (i:=5) dJ.nd) (aL (aD (i:=6) dJ.nd) dH)))
 (ao (mE (i:=4) (aj 6) (a_ dY cP ak (aj 5)))
 (au (mE (i:=4) (a_ uR pO ak (aj 6)) (a_ bU bV (a_ dY cP ak (aj 5)) ak)))))
 (au (aX (fm cm fo (by rfl) T.zdq gD (ae (ir 4) ai))))))
theorem se (T:m4 mg)  (eZ:Df K mg "_law_others" bH):Fn P w K mg base "_law_others" 1 ["row","numbers"] (gr K 2 gy .S):=by
 refine Df.fnD (N:=["row","numbers","left"]) (ps:=["row","numbers"]) (st:=bH) (k:=0) sU .S ly eZ kn r_ rfl (by decide) ?_;intro f br A outer s0 H E hr;have hu:=hr.units;have kS:=cx hr;exact (ao (eH (i:=2) (ag bH) ["row","numbers","left"] ["place","numbers"] [none,some 1] kn.nd rfl (jj (ae (aZ bL cB (by rfl) T.zfq dF (ae (aj 0) ai)) ai) T.zcq) (λY=>⟨(aD (i:=0) (show (["place","numbers"]:List Str).Nodup by decide+kernel)),(fD (aO (uB hu) zD (a_ ij jl (aj 0) ak) (aj 1) (by with_unfolding_all rfl))),(aj 0)⟩))
 (au (aX (fm cm fo (by rfl) T.zdq gD (ae (eQ (ag bH) ["row","numbers","left"] ["place","row"] [none,some 0] rfl (bz (aj 2)) (λY=>⟨(aD (i:=0) (show (["place","row"]:List Str).Nodup by decide+kernel)),bN,(aH az aB (aj 1) (aj 0) (λ_ _=>rfl))⟩)) ai)))))
theorem pG (T:m4 mg)(dE:Fn P w K mg base "_law_take" 1 ["state","many"] (DH K 2 bw))(eE:Df K mg "_law_numbers" bC):Fn P w K mg base "_law_numbers" 2 ["state","many","count"] (DH K 3 cA):=by
 refine Df.fnI (N:=["state","many","count","left"]) (ps:=["state","many","count"]) (st:=bC) (k:=1) iG iH eE jO pA rfl rfl (by decide) ?_;intro f br A outer s0 H E hr;have hu:=hr.units;have kS:=cx hr;exact (ao (gu (i:=3) jO.nd (mG rfl (ae (a_ ij jl (aj 1) ak) ai) T.zeq T.zcq))
 (au (aX (KJ (ag bC) ["state","many","count","left"] ["k","left","state"] [none,some 3,some 0] rfl (jj (ae (aj 2) ai) T.zcq) (λY=>⟨(aD (i:=0) (show (["k","left","state"]:List Str).Nodup by decide+kernel)),bN,(lJ (i:=1) aa3 PySem.F.slot_list_pop PySem.F.type_list_pop Dd BR (ae (fB (i:=2) dE (hr.mono (by first|decide|lia)) (ae (aZ bL cB (by rfl) T.zfq dF (ae (ir 1) ai)) ai)) ai))⟩)))))
theorem kq (T:m4 mg)(fw:Fn P w K mg base "_law_gone" 9 ["plan","row"] (gr K 2 ba .S))(cf:Df K mg "_law_seen_chances" aU):Fn P w K mg base "_law_seen_chances" 10 ["plan","row"] (gr K 2 bI .S):=by
 refine Df.fnD (N:=["plan","row","word","found"]) (ps:=["plan","row"]) (st:=aU) (k:=9) k_ .S eR cf eA ko rfl (by decide) ?_;intro f br A outer s0 H E hr;have hu:=hr.units;have kS:=cx hr;exact (ao (DP (aE fw (hr.mono (by first|decide|lia)) (ae (aj 0) (ae (aj 1) ai))) (fi rfl (aL (aD (i:=2) eA.nd) (aL (aD (i:=3) eA.nd) dH))))
 (ao (dB (aO (i7 hu) (bA (f:=not)) (aj 2) dU (aS _)) (au (aX fZ)) bu)
 (au (aX (eQ (ag aU) ["plan","row","word","found"] ["trace","chance","results"] [none,none,none] rfl (bz (aj 3)) (λY=>⟨(fi rfl (aL (aD (i:=0) (show (["trace","chance","results"]:List Str).Nodup by decide+kernel)) (aL (aD (i:=1) (show (["trace","chance","results"]:List Str).Nodup by decide+kernel)) (aL (aD (i:=2) (show (["trace","chance","results"]:List Str).Nodup by decide+kernel)) dH)))),bN,(aT (ae (aj 0) (ae (aj 1) ai)))⟩))))))
theorem pH (T:m4 mg)(fw:Fn P w K mg base "_law_gone" 9 ["plan","row"] (gr K 2 ba .S))(eF:Df K mg "_law_results" bD):Fn P w K mg base "_law_results" 10 ["plan","row"] (gr K 2 dk .S):=by
 refine Df.fnD (N:=["plan","row","word","found","told","trace","chance","results"]) (ps:=["plan","row"]) (st:=bD) (k:=9) r6 .S iI eF b_ pB rfl (by decide) ?_;intro f br A outer s0 H E hr;have hu:=hr.units;have kS:=cx hr;exact (ao (DP (aE fw (hr.mono (by first|decide|lia)) (ae (aj 0) (ae (aj 1) ai))) (fi rfl (aL (aD (i:=2) b_.nd) (aL (aD (i:=3) b_.nd) dH))))
 (ao (dB (aO (i7 hu) (bA (f:=not)) (aj 2) dU (aS _)) (au (aX fZ)) bu)
 (ao (gu (i:=4) b_.nd (cg ai))
 (ao (gT aaW rfl (bz (aj 3)) (fi rfl (aL (aD (i:=5) b_.nd) (aL (aD (i:=6) b_.nd) (aL (aD (i:=7) b_.nd) dH))))
 (au (kD (lJ (i:=4) aa3 acD acE pQ jB (ae (eQ (ag bD) ["plan","row","word","found","told","trace","chance","results"] ["result","share"] [none,none] rfl (bz (aj 7)) (λY=>⟨(fi rfl (aL (aD (i:=0) (show (["result","share"]:List Str).Nodup by decide+kernel)) (aL (aD (i:=1) (show (["result","share"]:List Str).Nodup by decide+kernel)) dH))),bN,(aj 0)⟩)) ai)))))
 (au (aX (rN rfl hu (ae (ir 4) ai) T.zbq T.zkq)))))))
theorem tw (T:m4 mg)(sF:Fn P w K mg base "copied" 10 ["many","one","first","second"] (gr K 4 fG .S))(fP:∀n,Fn P w K mg base "_law_sound" (n+1) ["plan","many","full"] (gr K 3 (cQ n) .S))(i6:Fn P w K mg base "_law_pair" 1 ["bit"] (gr K 1 ft .S))(fQ:Fn P w K mg base "_law_with_pairs" 2 ["state","many","numbers","bits"] (DH K 4 bX))(je:Fn P w K mg base "_law_others" 1 ["row","numbers"] (gr K 2 gy .S))(iO:Fn P w K mg base "_law_numbers" 2 ["state","many","count"] (DH K 3 cA))(eT:Fn P w K mg base "_law_seen_chances" 10 ["plan","row"] (gr K 2 bI .S))(iP:Fn P w K mg base "_law_results" 10 ["plan","row"] (gr K 2 dk .S))(fR:Df K mg "_law_right" cw):Fn P w K mg base "_law_right" 11 ["state","many"] (DH K 2 dI):=by
 refine Df.fnI (N:=["state","many","numbers","plan","size","seen","bit","row","due"]) (ps:=["state","many"]) (st:=cw) (k:=10) vO jF fR cq sY rfl rfl (by decide) ?_;intro f br A outer s0 H E hr;have hu:=hr.units;have kS:=cx hr;exact (ao (bO (i:=2) cq.nd (fB (i:=0) iO (hr.mono (by first|decide|lia)) (ae (aj 1) (ae ak ai))))
 (ao (bO (i:=3) cq.nd (aE sF (hr.mono (by first|decide|lia)) (Mc (aR (aj 1) (aR (aH az aB (aj 2) ak (λ_ _=>rfl)) (aR (aH az aB (aj 2) ak (λ_ _=>rfl)) (aR (aH az aB (aj 2) ak (λ_ _=>rfl)) kK)))))))
 (ao (bO (i:=4) cq.nd (aE (fP 6) (hr.mono (by first|decide|lia)) (ae (aj 3) (ae (aj 1) (ae qw ai)))))
 (ao (dB (DW.dt (qA (aO yv u6 (aj 4) fZ (aS _)) (qA (aO wA qM (aH az aB (aj 4) ak (λ_ _=>rfl)) ak (aS _)) (uW (aO wA qM (aH az aB (aj 4) ak (λ_ _=>rfl)) ak (aS _)))))) (au (aX qw)) bu)
 (ao (gu (i:=5) cq.nd (cg ai))
 (ao (gT aaW rfl (bz (cg (Mc (aR ak (aR ak (aR ak (aR ak (aR ak (aR ak kK))))))))) (aD (i:=6) cq.nd)
 (ao (bO (i:=7) cq.nd (fB (i:=0) fQ (hr.mono (by first|decide|lia)) (ae (aj 1) (ae (aj 2) (ae (aT (ae (aj 6) (ae ak (ae ak ai)))) ai)))))
 (ao (bO (i:=8) cq.nd (a_ bU bV (a_ bU bV (a_ bU bV (aE i6 (hr.mono (by first|decide|lia)) (ae (aj 6) ai)) (aE i6 (hr.mono (by first|decide|lia)) (ae (aj 6) ai))) (aT (ae ak (ae ak ai)))) (aE je (hr.mono (by first|decide|lia)) (ae (aj 7) (ae (aj 2) ai)))))
 (ao (dB (aO (i7 hu) (bA (f:=not)) (aE iP (hr.mono (by first|decide|lia)) (ae (aj 3) (ae (aj 7) ai))) (cg (ae (aj 8) ai)) (aS _)) (au (aX qw)) bu)
 (au (kD (lJ (i:=5) aa3 adB adC ng qL (ae (aE eT (hr.mono (by first|decide|lia)) (ae (aj 3) (ae (aj 7) ai))) ai))))))))
 (pS 5 (au (aX (Kv (cC hu) (bA (f:=id)) (eQ (ag cw) ["state","many","numbers","plan","size","seen","bit","row","due"] ["one","seen"] [none,some 5] rfl (bz (aj 5)) (λY=>⟨(aD (i:=0) (show (["one","seen"]:List Str).Nodup by decide+kernel)),(fD (aO (i7 hu) (bA (f:=not)) (aj 0) (aH az aB (aj 1) ak (λ_ _=>rfl)) (aS _))),(aj 0)⟩)) (cg ai) (aS _)))))))))))
theorem Lw (T:m4 mg)(FL:F1 K "law" "law" ph f fd)(gJ:Df K mg "exchanged" b6)(dz:Df K mg "arrangements" aY)(iK:Df K mg "pile_mix" dq)(jr:Df K mg "pair_at" e_)(ky:Df K mg "turned" fb)(gK:Df K mg "whole_end" cu)(dA:Df K mg "mixed_and_seen" bo)(jt:Df K mg "turning" cS)(kA:Df K mg "copied" fc)(eC:Df K mg "_law_cell_at" b9)(fL:Df K mg "_law_state" cI)(gL:Df K mg "_law_take" dP)(eD:Df K mg "_law_divisor" bJ)(fM:Df K mg "_law_ratio" cJ)(gN:Df K mg "_law_laid" du)(eK:Df K mg "_law_paths" cv)(eY:Df K mg "_law_walked" bt)(fN:Df K mg "_law_total" cK)(gO:Df K mg "_law_gone" dv)(eL:Df K mg "_law_sound" bf)(gP:Df K mg "_law_pair" dQ)(cU:Df K mg "_law_with_pairs" bg)(eZ:Df K mg "_law_others" bH)(eE:Df K mg "_law_numbers" bC)(cf:Df K mg "_law_seen_chances" aU)(eF:Df K mg "_law_results" bD)(fR:Df K mg "_law_right" cw)(hp:∀ns:List Int,ns.length<=63->x_ [.scr (ns.map .int)]=.ok (.bl true)):kW P w K mg base wF 12 f fd ["script"] (wX K):=by
 have ku:=vZ (P:=P) (w:=w) (base:=base) T  gJ;have eB:=pD (P:=P) (w:=w) (base:=base) T  dz;have l_:=yc (P:=P) (w:=w) (base:=base) T ku eB iK;have ju:=zN (P:=P) (w:=w) (base:=base) T  jr;have kz:=Cz (P:=P) (w:=w) (base:=base) T  ky;have i5:=v7 (P:=P) (w:=w) (base:=base) T  gK;have gq:=m6 (P:=P) (w:=w) (base:=base) T l_ dA;have n8:=zO (P:=P) (w:=w) (base:=base) T  jt;have sF:=CA (P:=P) (w:=w) (base:=base) T ju kz i5 gq n8 kA;have iL:=pE (P:=P) (w:=w) (base:=base) T  eC;have wm:=sZ (P:=P) (w:=w) (base:=base) T iL fL;have dE:=v8 (P:=P) (w:=w) (base:=base) T  gL;have iM:=pF (P:=P) (w:=w) (base:=base) T  eD;have cT:=s9 (P:=P) (w:=w) (base:=base) T iM fM;have fu:=v9 (P:=P) (w:=w) (base:=base) T  gN;have dN:=s_ (P:=P) (w:=w) (base:=base) T fu eK;have fO:=tm (P:=P) (w:=w) (base:=base) T cT fN;have jd:=sd (P:=P) (w:=w) (base:=base) T cT fO eY;have fw:=v_ (P:=P) (w:=w) (base:=base) T dN jd gO;have fP:=tq (P:=P) (w:=w) (base:=base) T  eL;have i6:=wa (P:=P) (w:=w) (base:=base) T  gP;have fQ:=lY (P:=P) (w:=w) (base:=base) T dE cU;have je:=se (P:=P) (w:=w) (base:=base) T  eZ;have iO:=pG (P:=P) (w:=w) (base:=base) T dE eE;have eT:=kq (P:=P) (w:=w) (base:=base) T fw cf;have iP:=pH (P:=P) (w:=w) (base:=base) T fw eF;have jH:=tw (P:=P) (w:=w) (base:=base) T sF fP i6 fQ je iO eT iP fR;refine KN (f:=x_) ?_ hp;refine F1.okD (N:=["script","k","state","many"]) (ps:=["script"]) (st:=ph) (k:=11) Oa .S Fz FL vY rfl (by decide) ?_;intro f br A outer s0 H E hr;have hu:=hr.units;have kS:=cx hr;exact (ao (gT aaW rfl (jj (ae (aZ (BA rfl) DX (by rfl) T.zlq Dr (ae ak (ae (aZ (BB rfl) DY (by rfl) T.zgq Kr (ae (aZ bL cB (by rfl) T.zfq dF (ae (aj 0) ai)) (ae ak ai))) ai))) ai) T.zcq) (aD (i:=1) vY.nd)
 (ao (gu (i:=2) vY.nd (aE wm (hr.mono (by first|decide|lia)) (ae (aj 0) (ae (aj 1) ai))))
 (ao (bO (i:=3) vY.nd (a_ bU bV ak (fB (i:=2) dE (hr.mono (by first|decide|lia)) (ae ak ai))))
 (au (dB (DW.dt (qA (uX (qx (fB (i:=2) jH (hr.mono (by first|decide|lia)) (ae (aj 3) ai)))) (qA (uX (qx (fB (i:=2) jH (hr.mono (by first|decide|lia)) (ae (a_ bU bV ak (fB (i:=2) dE (hr.mono (by first|decide|lia)) (ae ak ai))) ai)))) (uW (uX (qx (fB (i:=2) jH (hr.mono (by first|decide|lia)) (ae (aj 3) ai)))))))) (au (aX qw)) bu)))))
 (au (aX qw)))
end
theorem all_mk {fa:Z5}(X:K.In h)(G:h.Ns aab mg)(Yc:mg "law"=some (.ref fa)){f0:Z5}{Yd Ye:Option Z5}{Yf:Array (Option ZO)}{Yg Yh Yi Yj W5 Yk:ZO}(a0:aak K aab "exchanged"=some (some (.ref f0)))(l0:K.lookup f0=some ⟨Yg,Yd,.func (Z1 "exchanged" "exchanged" (aw b6) (ar b6) (ag b6) .none Yh Yi Yj Ye W5 Yk),Yf⟩)(c0:aan K W5 "exchanged"=true)(k0:aah K (.ref f0)=true){f1:Z5}{Yl Ym:Option Z5}{Yn:Array (Option ZO)}{Yo Yp Yq Yr W6 Ys:ZO}(a1:aak K aab "arrangements"=some (some (.ref f1)))(l1:K.lookup f1=some ⟨Yo,Yl,.func (Z1 "arrangements" "arrangements" (aw aY) (ar aY) (ag aY) .none Yp Yq Yr Ym W6 Ys),Yn⟩)(c1:aan K W6 "arrangements"=true)(k1:aah K (.ref f1)=true){f2:Z5}{Yt Yu:Option Z5}{F3:Array (Option ZO)}{Yv Yw Yx Yy W7 Yz:ZO}(a2:aak K aab "pile_mix"=some (some (.ref f2)))(l2:K.lookup f2=some ⟨Yv,Yt,.func (Z1 "pile_mix" "pile_mix" (aw dq) (ar dq) (ag dq) .none Yw Yx Yy Yu W7 Yz),F3⟩)(c2:aan K W7 "pile_mix"=true)(k2:aah K (.ref f2)=true){f3:Z5}{YA YB:Option Z5}{YC:Array (Option ZO)}{YD YE YF YG W8 YH:ZO}(a3:aak K aab "pair_at"=some (some (.ref f3)))(l3:K.lookup f3=some ⟨YD,YA,.func (Z1 "pair_at" "pair_at" (aw e_) (ar e_) (ag e_) .none YE YF YG YB W8 YH),YC⟩)(c3:aan K W8 "pair_at"=true)(k3:aah K (.ref f3)=true){f4:Z5}{YI YJ:Option Z5}{YK:Array (Option ZO)}{YL YM YN YO W9 YQ:ZO}(a4:aak K aab "turned"=some (some (.ref f4)))(l4:K.lookup f4=some ⟨YL,YI,.func (Z1 "turned" "turned" (aw fb) (ar fb) (ag fb) .none YM YN YO YJ W9 YQ),YK⟩)(c4:aan K W9 "turned"=true)(k4:aah K (.ref f4)=true){f5:Z5}{YR YS:Option Z5}{YT:Array (Option ZO)}{YU YV YW YX W_ YY:ZO}(a5:aak K aab "whole_end"=some (some (.ref f5)))(l5:K.lookup f5=some ⟨YU,YR,.func (Z1 "whole_end" "whole_end" (aw cu) (ar cu) (ag cu) .none YV YW YX YS W_ YY),YT⟩)(c5:aan K W_ "whole_end"=true)(k5:aah K (.ref f5)=true){f6:Z5}{YZ Y0:Option Z5}{Y1:Array (Option ZO)}{Y2 Y3 Y4 Y5 Xa Y6:ZO}(a6:aak K aab "mixed_and_seen"=some (some (.ref f6)))(l6:K.lookup f6=some ⟨Y2,YZ,.func (Z1 "mixed_and_seen" "mixed_and_seen" (aw bo) (ar bo) (ag bo) .none Y3 Y4 Y5 Y0 Xa Y6),Y1⟩)(c6:aan K Xa "mixed_and_seen"=true)(k6:aah K (.ref f6)=true){f7:Z5}{Y7 Y8:Option Z5}{Y9:Array (Option ZO)}{Y_ Za Zb Zc Xb Zd:ZO}(a7:aak K aab "turning"=some (some (.ref f7)))(l7:K.lookup f7=some ⟨Y_,Y7,.func (Z1 "turning" "turning" (aw cS) (ar cS) (ag cS) .none Za Zb Zc Y8 Xb Zd),Y9⟩)(c7:aan K Xb "turning"=true)(k7:aah K (.ref f7)=true){f8:Z5}{Ze Zf:Option Z5}{Zg:Array (Option ZO)}{Zh Zi Zj Zk Xc Zl:ZO}(a8:aak K aab "copied"=some (some (.ref f8)))(l8:K.lookup f8=some ⟨Zh,Ze,.func (Z1 "copied" "copied" (aw fc) (ar fc) (ag fc) .none Zi Zj Zk Zf Xc Zl),Zg⟩)(c8:aan K Xc "copied"=true)(k8:aah K (.ref f8)=true){f9:Z5}{Zm Zn:Option Z5}{Zo:Array (Option ZO)}{Zq Zr Zs Zt Xd Zu:ZO}(a9:aak K aab "_law_cell_at"=some (some (.ref f9)))(l9:K.lookup f9=some ⟨Zq,Zm,.func (Z1 "_law_cell_at" "_law_cell_at" (aw b9) (ar b9) (ag b9) .none Zr Zs Zt Zn Xd Zu),Zo⟩)(c9:aan K Xd "_law_cell_at"=true)(k9:aah K (.ref f9)=true){RZ:Z5}{R0 R1:Option Z5}{R3:Array (Option ZO)}{R4 R5 R6 R7 OT R8:ZO}(R9:aak K aab "_law_state"=some (some (.ref RZ)))(R_:K.lookup RZ=some ⟨R4,R0,.func (Z1 "_law_state" "_law_state" (aw cI) (ar cI) (ag cI) .none R5 R6 R7 R1 OT R8),R3⟩)(Sa:aan K OT "_law_state"=true)(Sb:aah K (.ref RZ)=true){Sd:Z5}{Se Sf:Option Z5}{Sg:Array (Option ZO)}{Sh Si Sj Sk OU Sl:ZO}(Sm:aak K aab "_law_take"=some (some (.ref Sd)))(Sn:K.lookup Sd=some ⟨Sh,Se,.func (Z1 "_law_take" "_law_take" (aw dP) (ar dP) (ag dP) .none Si Sj Sk Sf OU Sl),Sg⟩)(So:aan K OU "_law_take"=true)(Sq:aah K (.ref Sd)=true){Sr:Z5}{Ss Su:Option Z5}{Sv:Array (Option ZO)}{Sw Sz SA SD OV SE:ZO}(SF:aak K aab "_law_divisor"=some (some (.ref Sr)))(SG:K.lookup Sr=some ⟨Sw,Ss,.func (Z1 "_law_divisor" "_law_divisor" (aw bJ) (ar bJ) (ag bJ) .none Sz SA SD Su OV SE),Sv⟩)(SH:aan K OV "_law_divisor"=true)(SJ:aah K (.ref Sr)=true){SK:Z5}{SM SN:Option Z5}{SO:Array (Option ZO)}{SQ SS SU SV OW SW:ZO}(SX:aak K aab "_law_ratio"=some (some (.ref SK)))(SY:K.lookup SK=some ⟨SQ,SM,.func (Z1 "_law_ratio" "_law_ratio" (aw cJ) (ar cJ) (ag cJ) .none SS SU SV SN OW SW),SO⟩)(S0:aan K OW "_law_ratio"=true)(L7:aah K (.ref SK)=true){S1:Z5}{S2 S3:Option Z5}{S4:Array (Option ZO)}{S5 S6 S7 S8 OX S9:ZO}(S_:aak K aab "_law_laid"=some (some (.ref S1)))(Ta:K.lookup S1=some ⟨S5,S2,.func (Z1 "_law_laid" "_law_laid" (aw du) (ar du) (ag du) .none S6 S7 S8 S3 OX S9),S4⟩)(Tb:aan K OX "_law_laid"=true)(Tc:aah K (.ref S1)=true){Td:Z5}{Te Tf:Option Z5}{Tg:Array (Option ZO)}{Th Ti Tj Tn OY To:ZO}(Tp:aak K aab "_law_paths"=some (some (.ref Td)))(Tq:K.lookup Td=some ⟨Th,Te,.func (Z1 "_law_paths" "_law_paths" (aw cv) (ar cv) (ag cv) .none Ti Tj Tn Tf OY To),Tg⟩)(Tr:aan K OY "_law_paths"=true)(Tt:aah K (.ref Td)=true){Tu:Z5}{Tv Tw:Option Z5}{Tx:Array (Option ZO)}{Tz TB TC TF OZ TH:ZO}(TJ:aak K aab "_law_walked"=some (some (.ref Tu)))(TL:K.lookup Tu=some ⟨Tz,Tv,.func (Z1 "_law_walked" "_law_walked" (aw bt) (ar bt) (ag bt) .none TB TC TF Tw OZ TH),Tx⟩)(TM:aan K OZ "_law_walked"=true)(TN:aah K (.ref Tu)=true){TQ:Z5}{TR TU:Option Z5}{TV:Array (Option ZO)}{TX TY TZ T2 O0 T3:ZO}(T4:aak K aab "_law_total"=some (some (.ref TQ)))(T5:K.lookup TQ=some ⟨TX,TR,.func (Z1 "_law_total" "_law_total" (aw cK) (ar cK) (ag cK) .none TY TZ T2 TU O0 T3),TV⟩)(T6:aan K O0 "_law_total"=true)(T7:aah K (.ref TQ)=true){T8:Z5}{T9 T_:Option Z5}{Ua:Array (Option ZO)}{Ub Uc Ud Ue O1 Ug:ZO}(Uh:aak K aab "_law_gone"=some (some (.ref T8)))(Ui:K.lookup T8=some ⟨Ub,T9,.func (Z1 "_law_gone" "_law_gone" (aw dv) (ar dv) (ag dv) .none Uc Ud Ue T_ O1 Ug),Ua⟩)(Uj:aan K O1 "_law_gone"=true)(Uk:aah K (.ref T8)=true){Ul:Z5}{Um Uo:Option Z5}{Up:Array (Option ZO)}{Uq Ur Us Ut O2 Uu:ZO}(Uv:aak K aab "_law_sound"=some (some (.ref Ul)))(Uw:K.lookup Ul=some ⟨Uq,Um,.func (Z1 "_law_sound" "_law_sound" (aw bf) (ar bf) (ag bf) .none Ur Us Ut Uo O2 Uu),Up⟩)(Ux:aan K O2 "_law_sound"=true)(Uy:aah K (.ref Ul)=true){Uz:Z5}{UA UB:Option Z5}{UC:Array (Option ZO)}{UD UE UG UH O3 UI:ZO}(UJ:aak K aab "_law_pair"=some (some (.ref Uz)))(UK:K.lookup Uz=some ⟨UD,UA,.func (Z1 "_law_pair" "_law_pair" (aw dQ) (ar dQ) (ag dQ) .none UE UG UH UB O3 UI),UC⟩)(UL:aan K O3 "_law_pair"=true)(UM:aah K (.ref Uz)=true){UN:Z5}{UO UP:Option Z5}{UQ:Array (Option ZO)}{UR US UT UU O4 UW:ZO}(UX:aak K aab "_law_with_pairs"=some (some (.ref UN)))(UY:K.lookup UN=some ⟨UR,UO,.func (Z1 "_law_with_pairs" "_law_with_pairs" (aw bg) (ar bg) (ag bg) .none US UT UU UP O4 UW),UQ⟩)(UZ:aan K O4 "_law_with_pairs"=true)(U0:aah K (.ref UN)=true){U1:Z5}{U2 U3:Option Z5}{U4:Array (Option ZO)}{U5 U6 U7 U8 O5 U9:ZO}(U_:aak K aab "_law_others"=some (some (.ref U1)))(Va:K.lookup U1=some ⟨U5,U2,.func (Z1 "_law_others" "_law_others" (aw bH) (ar bH) (ag bH) .none U6 U7 U8 U3 O5 U9),U4⟩)(Vb:aan K O5 "_law_others"=true)(Vc:aah K (.ref U1)=true){Vd:Z5}{Ve Vf:Option Z5}{Vg:Array (Option ZO)}{Vh Vi Vj Vk O6 Vl:ZO}(Vm:aak K aab "_law_numbers"=some (some (.ref Vd)))(Vn:K.lookup Vd=some ⟨Vh,Ve,.func (Z1 "_law_numbers" "_law_numbers" (aw bC) (ar bC) (ag bC) .none Vi Vj Vk Vf O6 Vl),Vg⟩)(Vo:aan K O6 "_law_numbers"=true)(Vp:aah K (.ref Vd)=true){Vq:Z5}{Vr Vs:Option Z5}{Vt:Array (Option ZO)}{Vu Vv Vw Vx O7 Vy:ZO}(Vz:aak K aab "_law_seen_chances"=some (some (.ref Vq)))(VA:K.lookup Vq=some ⟨Vu,Vr,.func (Z1 "_law_seen_chances" "_law_seen_chances" (aw aU) (ar aU) (ag aU) .none Vv Vw Vx Vs O7 Vy),Vt⟩)(VB:aan K O7 "_law_seen_chances"=true)(VC:aah K (.ref Vq)=true){VD:Z5}{VE VF:Option Z5}{VG:Array (Option ZO)}{VH VI VJ VL O8 VM:ZO}(VN:aak K aab "_law_results"=some (some (.ref VD)))(VO:K.lookup VD=some ⟨VH,VE,.func (Z1 "_law_results" "_law_results" (aw bD) (ar bD) (ag bD) .none VI VJ VL VF O8 VM),VG⟩)(VP:aan K O8 "_law_results"=true)(VQ:aah K (.ref VD)=true){VR:Z5}{VS VT:Option Z5}{VU:Array (Option ZO)}{VX VY VZ V0 O9 V1:ZO}(V2:aak K aab "_law_right"=some (some (.ref VR)))(V3:K.lookup VR=some ⟨VX,VS,.func (Z1 "_law_right" "_law_right" (aw cw) (ar cw) (ag cw) .none VY VZ V0 VT O9 V1),VU⟩)(V4:aan K O9 "_law_right"=true)(V5:aah K (.ref VR)=true){V6:Z5}{V7 O_:Option Z5}{V8:Array (Option ZO)}{V9 Pa Pb Pc L8 Pd:ZO}(PZ:aak K aab "law"=some (some (.ref V6)))(P0:K.lookup V6=some ⟨V9,V7,.func (Z1 "law" "law" (aw ph) (ar ph) (ag ph) .none Pa Pb Pc O_ L8 Pd),V8⟩)(P2:aan K L8 "law"=true)(P4:aah K (.ref V6)=true)(ziq:aak K aab "abs"=some none)(zfq:aak K aab "len"=some none)(zeq:aak K aab "list"=some none)(zlq:aak K aab "max"=some none)(zgq:aak K aab "min"=some none)(zcq:aak K aab "range"=some none)(zkq:aak K aab "set"=some none)(zbq:aak K aab "sorted"=some none)(zjq:aak K aab "sum"=some none)(zdq:aak K aab "tuple"=some none)(zhq:aak K aab "zip"=some none){gZ:Tok}(zaq:aak K aab "MOST_PILES_MIXED"=some (some (.int 4 gZ)))(hp:∀ns:List Int,ns.length<=63->x_ [.scr (ns.map .int)]=.ok (.bl true))
  : ∃fd:aeh,(∀(s:Z8) (v:ZO),BindsTo s fd ⟨[v],[]⟩ [("script",v)])/\∀base:acj,K.In base->base.Ns aab mg->kW PySem.Challenge.pw_hushcards_k54_told_twice w K mg base wF 12 fa fd ["script"] (wX K):=by
 have e:=Yc.symm.trans (aas X G PZ);cases e;have T:m4 mg:=⟨aaX X G ziq,aaX X G zfq,aaX X G zeq,aaX X G zlq,aaX X G zgq,aaX X G zcq,aaX X G zkq,aaX X G zbq,aaX X G zjq,aaX X G zdq,aaX X G zhq,⟨_,aas X G zaq⟩⟩;have gJ:Df K mg "exchanged" b6:=⟨_,_,aas X G a0,bF (st:=b6) l0 c0 k0⟩;have dz:Df K mg "arrangements" aY:=⟨_,_,aas X G a1,bF (st:=aY) l1 c1 k1⟩;have iK:Df K mg "pile_mix" dq:=⟨_,_,aas X G a2,bF (st:=dq) l2 c2 k2⟩;have jr:Df K mg "pair_at" e_:=⟨_,_,aas X G a3,bF (st:=e_) l3 c3 k3⟩;have ky:Df K mg "turned" fb:=⟨_,_,aas X G a4,bF (st:=fb) l4 c4 k4⟩;have gK:Df K mg "whole_end" cu:=⟨_,_,aas X G a5,bF (st:=cu) l5 c5 k5⟩;have dA:Df K mg "mixed_and_seen" bo:=⟨_,_,aas X G a6,bF (st:=bo) l6 c6 k6⟩;have jt:Df K mg "turning" cS:=⟨_,_,aas X G a7,bF (st:=cS) l7 c7 k7⟩;have kA:Df K mg "copied" fc:=⟨_,_,aas X G a8,bF (st:=fc) l8 c8 k8⟩;have eC:Df K mg "_law_cell_at" b9:=⟨_,_,aas X G a9,bF (st:=b9) l9 c9 k9⟩;have fL:Df K mg "_law_state" cI:=⟨_,_,aas X G R9,bF (st:=cI) R_ Sa Sb⟩;have gL:Df K mg "_law_take" dP:=⟨_,_,aas X G Sm,bF (st:=dP) Sn So Sq⟩;have eD:Df K mg "_law_divisor" bJ:=⟨_,_,aas X G SF,bF (st:=bJ) SG SH SJ⟩;have fM:Df K mg "_law_ratio" cJ:=⟨_,_,aas X G SX,bF (st:=cJ) SY S0 L7⟩;have gN:Df K mg "_law_laid" du:=⟨_,_,aas X G S_,bF (st:=du) Ta Tb Tc⟩;have eK:Df K mg "_law_paths" cv:=⟨_,_,aas X G Tp,bF (st:=cv) Tq Tr Tt⟩;have eY:Df K mg "_law_walked" bt:=⟨_,_,aas X G TJ,bF (st:=bt) TL TM TN⟩;have fN:Df K mg "_law_total" cK:=⟨_,_,aas X G T4,bF (st:=cK) T5 T6 T7⟩;have gO:Df K mg "_law_gone" dv:=⟨_,_,aas X G Uh,bF (st:=dv) Ui Uj Uk⟩;have eL:Df K mg "_law_sound" bf:=⟨_,_,aas X G Uv,bF (st:=bf) Uw Ux Uy⟩;have gP:Df K mg "_law_pair" dQ:=⟨_,_,aas X G UJ,bF (st:=dQ) UK UL UM⟩;have cU:Df K mg "_law_with_pairs" bg:=⟨_,_,aas X G UX,bF (st:=bg) UY UZ U0⟩;have eZ:Df K mg "_law_others" bH:=⟨_,_,aas X G U_,bF (st:=bH) Va Vb Vc⟩;have eE:Df K mg "_law_numbers" bC:=⟨_,_,aas X G Vm,bF (st:=bC) Vn Vo Vp⟩;have cf:Df K mg "_law_seen_chances" aU:=⟨_,_,aas X G Vz,bF (st:=aU) VA VB VC⟩;have eF:Df K mg "_law_results" bD:=⟨_,_,aas X G VN,bF (st:=bD) VO VP VQ⟩;have fR:Df K mg "_law_right" cw:=⟨_,_,aas X G V2,bF (st:=cw) V3 V4 V5⟩;have Xe:Df K mg "law" ph:=⟨_,_,aas X G PZ,bF (st:=ph) P0 P2 P4⟩;have FL:=bF (st:=ph) P0 P2 P4;refine⟨Z1 "law" "law" (aw ph) (ar ph) (ag ph) .none Pa Pb Pc O_ L8 Pd,λs v=>.of_eq rfl,λbase _ _=>?_⟩;exact Lw (P:=PySem.Challenge.pw_hushcards_k54_told_twice) (w:=w) (base:=base) T  FL gJ dz iK jr ky gK dA jt kA eC fL gL eD fM gN eK eY fN gO eL gP cU eZ eE cf eF fR hp
end Hc
namespace Hc
open L2
noncomputable abbrev hS (s:String)(n:Nat):ZO:=.str (abN s) n
noncomputable abbrev hE (P:Params)(s:String)(n:Nat)(v:ZO):DictEntry:=⟨PyData.keyHash P (abN s),hS s n,v⟩
noncomputable abbrev hD (c:ZO)(l:List DictEntry)(n:Nat):Obj:=⟨c,none,.dict l.toArray n,#[]⟩
noncomputable abbrev hX (c:ZO)(l:List ZO):Obj:=⟨c,none,.fields l.toArray,#[]⟩
noncomputable abbrev hC (n q:String)(a:Nat)(l k:Int)(r r1:Nat)(v1 v2:ZO)(r2:Nat)(m:Int)(m':Nat):Obj:=hX (.type "code") [hS n a,hS q (a+1),hS "/claim/cut.py" (a+2),.int l 0,.int k 0,.int 0 0,.int 0 0,.int 3 0,.ref r,.bool true,.int 181 0,.ref r1,.none,v1,v2,.ref r2,.int m 0,.int l 0,hS "/claim/cut.py" m']
noncomputable abbrev hF (n q:String)(s:ad9)(kV dC pm:ZO)(an:Option Z5)(cd ct:ZO):Obj:=⟨.type "function",none,.func (Z1 n q (aw s) (ar s) (ag s) .none kV dC pm an cd ct),#[]⟩
noncomputable def Kf (P:Params):ZQ:=
 (nat_lit 2,hD .none [] 0) ::
 (nat_lit 3,hD (.type "dict") [hE P "__name__" 165 (hS "law_hushcards_k54_told_twice" 303),hE P "__doc__" 166 .none,hE P "__package__" 167 .none,hE P "__loader__" 168 (.builtin "__main__.__loader__#opaque"),hE P "__spec__" 169 .none,hE P "__annotations__" 170 (.ref 6),hE P "__builtins__" 171 (.ref 4),hE P "__file__" 173 (hS "/claim/cut.py" 172),hE P "__cached__" 174 .none,hE P "CardError" 206 (.ref 24),hE P "TooMany" 222 (.ref 37),hE P "MOST_PILES_MIXED" 226 (.int 4 225),hE P "exchanged" 240 (.ref 46),hE P "arrangements" 246 (.ref 51),hE P "pile_mix" 252 (.ref 56),hE P "pair_at" 261 (.ref 63),hE P "turned" 268 (.ref 70),hE P "whole_end" 274 (.ref 75),hE P "mixed_and_seen" 283 (.ref 82),hE P "turning" 289 (.ref 87),hE P "copied" 302 (.ref 94),hE P "_law_cell_at" 312 (.ref 101),hE P "_law_state" 321 (.ref 108),hE P "_law_take" 331 (.ref 115),hE P "_law_divisor" 339 (.ref 122),hE P "_law_ratio" 348 (.ref 129),hE P "_law_laid" 354 (.ref 134),hE P "_law_paths" 370 (.ref 141),hE P "_law_walked" 376 (.ref 146),hE P "_law_total" 386 (.ref 153),hE P "_law_gone" 392 (.ref 158),hE P "_law_sound" 398 (.ref 163),hE P "_law_pair" 405 (.ref 170),hE P "_law_with_pairs" 411 (.ref 175),hE P "_law_others" 417 (.ref 180),hE P "_law_numbers" 423 (.ref 185),hE P "_law_seen_chances" 429 (.ref 190),hE P "_law_results" 435 (.ref 195),hE P "_law_right" 441 (.ref 200),hE P "law" 451 (.ref 207)] 40) ::
 (nat_lit 23,hD (.type "dict") [hE P "__module__" 196 (hS "hushcards.errors" 187),hE P "__firstlineno__" 200 (.int 2 199),hE P "__static_attributes__" 201 (.ref 22),hE P "__weakref__" 203 (.ref 25),hE P "__doc__" 204 .none] 3) ::
 (nat_lit 24,⟨.type "type",none,.cls {name:="CardError",bases:=[.type "ValueError"],mro:=[.ref 24,.type "ValueError",.type "Exception",.type "BaseException",.type "object"],ns:=23,qualname:="CardError",subclasses:=[.ref 37]},#[some (.ref 15),none,some (hS "CardError" 189),some (hS "CardError" 197),some (.builtin "ValueError.__new__"),some (.bool true)]⟩) ::
 (nat_lit 36,hD (.type "dict") [hE P "__module__" 214 (hS "hushcards.errors" 187),hE P "__firstlineno__" 218 (.int 4 217),hE P "__static_attributes__" 219 (.ref 35),hE P "__doc__" 220 .none] 2) ::
 (nat_lit 37,⟨.type "type",none,.cls {name:="TooMany",bases:=[.ref 24],mro:=[.ref 37,.ref 24,.type "ValueError",.type "Exception",.type "BaseException",.type "object"],ns:=36,qualname:="TooMany"},#[some (.ref 28),none,some (hS "TooMany" 207),some (hS "TooMany" 215),some (.builtin "ValueError.__new__"),some (.bool true)]⟩) ::
 (nat_lit 45,hC "exchanged" "exchanged" 227 8 3 40 41 (.ref 42) (.ref 43) 44 238 239) ::
 (nat_lit 46,hF "exchanged" "exchanged" (top 5) .none .none (hS "hushcards.shuffles" 223) none (.ref 45) .none) ::
 (nat_lit 50,hC "arrangements" "arrangements" 241 14 1 47 48 .none .none 49 244 245) ::
 (nat_lit 51,hF "arrangements" "arrangements" (top 6) .none .none (hS "hushcards.shuffles" 223) none (.ref 50) .none) ::
 (nat_lit 55,hC "pile_mix" "pile_mix" 247 22 2 52 53 .none .none 54 250 251) ::
 (nat_lit 56,hF "pile_mix" "pile_mix" (top 7) .none .none (hS "hushcards.shuffles" 223) none (.ref 55) .none) ::
 (nat_lit 62,hC "pair_at" "pair_at" 255 27 1 57 58 (.ref 59) (.ref 60) 61 259 260) ::
 (nat_lit 63,hF "pair_at" "pair_at" (top 9) .none .none (hS "hushcards.gates" 253) none (.ref 62) .none) ::
 (nat_lit 69,hC "turned" "turned" 262 29 1 64 65 (.ref 66) (.ref 67) 68 266 267) ::
 (nat_lit 70,hF "turned" "turned" (top 10) .none .none (hS "hushcards.gates" 253) none (.ref 69) .none) ::
 (nat_lit 74,hC "whole_end" "whole_end" 269 31 2 71 72 .none .none 73 272 273) ::
 (nat_lit 75,hF "whole_end" "whole_end" (top 11) .none .none (hS "hushcards.gates" 253) none (.ref 74) .none) ::
 (nat_lit 81,hC "mixed_and_seen" "mixed_and_seen" 275 36 3 76 77 (.ref 78) (.ref 79) 80 281 282) ::
 (nat_lit 82,hF "mixed_and_seen" "mixed_and_seen" (top 12) .none .none (hS "hushcards.gates" 253) none (.ref 81) .none) ::
 (nat_lit 86,hC "turning" "turning" 284 38 2 83 84 .none .none 85 287 288) ::
 (nat_lit 87,hF "turning" "turning" (top 13) .none .none (hS "hushcards.gates" 253) none (.ref 86) .none) ::
 (nat_lit 93,hC "copied" "copied" 290 40 4 88 89 (.ref 90) (.ref 91) 92 300 301) ::
 (nat_lit 94,hF "copied" "copied" (top 14) .none .none (hS "hushcards.gates" 253) none (.ref 93) .none) ::
 (nat_lit 100,hC "_law_cell_at" "_law_cell_at" 305 46 2 95 96 (.ref 97) (.ref 98) 99 310 311) ::
 (nat_lit 101,hF "_law_cell_at" "_law_cell_at" (top 16) .none .none (hS "law_hushcards_k54_told_twice" 303) none (.ref 100) .none) ::
 (nat_lit 107,hC "_law_state" "_law_state" 313 50 2 102 103 (.ref 104) (.ref 105) 106 319 320) ::
 (nat_lit 108,hF "_law_state" "_law_state" (top 17) .none .none (hS "law_hushcards_k54_told_twice" 303) none (.ref 107) .none) ::
 (nat_lit 114,hC "_law_take" "_law_take" 322 55 2 109 110 (.ref 111) (.ref 112) 113 329 330) ::
 (nat_lit 115,hF "_law_take" "_law_take" (top 18) .none .none (hS "law_hushcards_k54_told_twice" 303) none (.ref 114) .none) ::
 (nat_lit 121,hC "_law_divisor" "_law_divisor" 332 64 2 116 117 (.ref 118) (.ref 119) 120 337 338) ::
 (nat_lit 122,hF "_law_divisor" "_law_divisor" (top 19) .none .none (hS "law_hushcards_k54_told_twice" 303) none (.ref 121) .none) ::
 (nat_lit 128,hC "_law_ratio" "_law_ratio" 340 70 2 123 124 (.ref 125) (.ref 126) 127 346 347) ::
 (nat_lit 129,hF "_law_ratio" "_law_ratio" (top 20) .none .none (hS "law_hushcards_k54_told_twice" 303) none (.ref 128) .none) ::
 (nat_lit 133,hC "_law_laid" "_law_laid" 349 73 2 130 131 .none .none 132 352 353) ::
 (nat_lit 134,hF "_law_laid" "_law_laid" (top 21) .none .none (hS "law_hushcards_k54_told_twice" 303) none (.ref 133) .none) ::
 (nat_lit 140,hC "_law_paths" "_law_paths" 355 75 5 135 136 (.ref 137) (.ref 138) 139 368 369) ::
 (nat_lit 141,hF "_law_paths" "_law_paths" (top 22) .none .none (hS "law_hushcards_k54_told_twice" 303) none (.ref 140) .none) ::
 (nat_lit 145,hC "_law_walked" "_law_walked" 371 92 1 142 143 .none .none 144 374 375) ::
 (nat_lit 146,hF "_law_walked" "_law_walked" (top 23) .none .none (hS "law_hushcards_k54_told_twice" 303) none (.ref 145) .none) ::
 (nat_lit 152,hC "_law_total" "_law_total" 377 108 1 147 148 (.ref 149) (.ref 150) 151 384 385) ::
 (nat_lit 153,hF "_law_total" "_law_total" (top 24) .none .none (hS "law_hushcards_k54_told_twice" 303) none (.ref 152) .none) ::
 (nat_lit 157,hC "_law_gone" "_law_gone" 387 113 2 154 155 .none .none 156 390 391) ::
 (nat_lit 158,hF "_law_gone" "_law_gone" (top 25) .none .none (hS "law_hushcards_k54_told_twice" 303) none (.ref 157) .none) ::
 (nat_lit 162,hC "_law_sound" "_law_sound" 393 122 3 159 160 .none .none 161 396 397) ::
 (nat_lit 163,hF "_law_sound" "_law_sound" (top 26) .none .none (hS "law_hushcards_k54_told_twice" 303) none (.ref 162) .none) ::
 (nat_lit 169,hC "_law_pair" "_law_pair" 399 142 1 164 165 (.ref 166) (.ref 167) 168 403 404) ::
 (nat_lit 170,hF "_law_pair" "_law_pair" (top 27) .none .none (hS "law_hushcards_k54_told_twice" 303) none (.ref 169) .none) ::
 (nat_lit 174,hC "_law_with_pairs" "_law_with_pairs" 406 144 4 171 172 .none .none 173 409 410) ::
 (nat_lit 175,hF "_law_with_pairs" "_law_with_pairs" (top 28) .none .none (hS "law_hushcards_k54_told_twice" 303) none (.ref 174) .none) ::
 (nat_lit 179,hC "_law_others" "_law_others" 412 150 2 176 177 .none .none 178 415 416) ::
 (nat_lit 180,hF "_law_others" "_law_others" (top 29) .none .none (hS "law_hushcards_k54_told_twice" 303) none (.ref 179) .none) ::
 (nat_lit 184,hC "_law_numbers" "_law_numbers" 418 153 3 181 182 .none .none 183 421 422) ::
 (nat_lit 185,hF "_law_numbers" "_law_numbers" (top 30) .none .none (hS "law_hushcards_k54_told_twice" 303) none (.ref 184) .none) ::
 (nat_lit 189,hC "_law_seen_chances" "_law_seen_chances" 424 156 2 186 187 .none .none 188 427 428) ::
 (nat_lit 190,hF "_law_seen_chances" "_law_seen_chances" (top 31) .none .none (hS "law_hushcards_k54_told_twice" 303) none (.ref 189) .none) ::
 (nat_lit 194,hC "_law_results" "_law_results" 430 161 2 191 192 .none .none 193 433 434) ::
 (nat_lit 195,hF "_law_results" "_law_results" (top 32) .none .none (hS "law_hushcards_k54_told_twice" 303) none (.ref 194) .none) ::
 (nat_lit 199,hC "_law_right" "_law_right" 436 169 2 196 197 .none .none 198 439 440) ::
 (nat_lit 200,hF "_law_right" "_law_right" (top 33) .none .none (hS "law_hushcards_k54_told_twice" 303) none (.ref 199) .none) ::
 (nat_lit 206,hC "law" "law" 442 183 1 201 202 (.ref 203) (.ref 204) 205 449 450) ::
 (nat_lit 207,hF "law" "law" (top 34) .none .none (hS "law_hushcards_k54_told_twice" 303) none (.ref 206) .none)::[]
noncomputable def vw:ack:={PySem.Challenge.pw_hushcards_k54_told_twice with main:={PySem.Challenge.pw_hushcards_k54_told_twice.main with body:=([1,2,4,5,6,7,9,10,11,12,13,14,16,17,18,19,20,21,22,23,24,25,26,27,28,29,30,31,32,33,34]:List Nat).map top}}
noncomputable def hk:PySem.W.Hook:=PySem.W.kHook Kf [2,3,23,24,36,37,45,46,50,51,55,56,62,63,69,70,74,75,81,82,86,87,93,94,100,101,107,108,114,115,121,122,128,129,133,134,140,141,145,146,152,153,157,158,162,163,169,170,174,175,179,180,184,185,189,190,194,195,199,200,206,207] (λ_=>by kernel_rfl)
noncomputable abbrev Wx:=PySem.Challenge.rw_hushcards_k54_told_twice.row
theorem left:PySem.W.LeftO Wx.prog vw [] (λs=>PySem.W.xlAt vw [] s&&PySem.W.recOk (PySem.W.RowW.records Wx.toRowW) s) hk.obs hk.val 2632:=λw=>by kernel_rfl
end Hc
namespace Hc
open L2
theorem Jx {f:Bool->Bool}{u w:U}:QV f u w=(N4 u w).bind λb=>.ok (.bl (f b)):=nr rfl
theorem Bj {a b:Int}:N4 (.int a) (.int b)=.ok (a==b):=nr rfl
theorem FA {a b:Bool}:N4 (.bl a) (.bl b)=.ok (a==b):=nr rfl
theorem Bk {a b:Str}:N4 (.str a) (.str b)=.ok (a==b):=nr rfl
theorem sf:type_of% @Z_.{0,0}/\type_of% @abO.{0,0}/\type_of% @ZT.{0}/\type_of% @ab4.{0}/\type_of% @aca.{0}/\type_of% @abP.{0}/\type_of% @adw.{0}/\type_of% @adx.{0}/\type_of% @List.getElem?_cons_zero.{0}/\type_of% @aa1.{0}/\type_of% @abQ.{0}/\type_of% @acN.{0}/\type_of% @acK.{0}/\type_of% @adk.{0}/\type_of% @if_true.{1}/\type_of% @if_false.{1}/\type_of% @aau/\type_of% @IB/\type_of% @ac7/\type_of% @aeY/\type_of% @Jx/\type_of% @Bj/\type_of% @FA/\type_of% @Bk:=
 ⟨@Z_.{0,0},@abO.{0,0},@ZT.{0},@ab4.{0},@aca.{0},@abP.{0},@adw.{0},@adx.{0},@List.getElem?_cons_zero.{0},@aa1.{0},@abQ.{0},@acN.{0},@acK.{0},@adk.{0},@if_true.{1},@if_false.{1},@aau,@IB,@ac7,@aeY,@Jx,@Bj,@FA,@Bk⟩
end Hc
namespace Hc
open L2
theorem NS:(0:Nat)<=ZY/\(1:Nat)<=ZY/\(2:Nat)<=ZY/\(3:Nat)<=ZY/\(4:Nat)<=ZY/\(5:Nat)<=ZY/\(6:Nat)<=ZY/\(10:Nat)<=ZY/\(16:Nat)<=ZY/\(18:Nat)<=ZY/\(22:Nat)<=ZY:=by decide
theorem Pzz:type_of% @ez∧type_of% @sf∧type_of% @NS:=⟨@ez,@sf,@NS⟩
def wt (s:U):Prop:=∃v b,s=.lst [.int v,.bl b]/\0<=v/\(b=false->v<2147483647)
theorem pY {s:U}{m:Int}(h:wt s)(h0:0<m)(h1:m<18446744073709551616):∃r s',bw [s,.int m]=.ok (.int r,s')/\0<=r/\r<m/\wt s':=by
 obtain⟨v,b,rfl,hv,hb⟩:=h;cases b with
 |true=>
  refine⟨v % m,.lst [.int (v / m),.bl true],?_,acW _ (by lia),acg _ h0,v / m,true,rfl,Int.ediv_nonneg hv (by lia),λh=>nomatch h⟩;simp only[Pzz,jR,Nat.reduceAdd,Nat.reduceSub,bw,i0,hG h0,vc h0 h1,AU]
 |false=>
  have g1:0<=(v*48271+29) % 2147483647:=acW _ (by decide);have g2:(v*48271+29) % 2147483647<2147483647:=acg _ (by decide);have c1:o_ v 48271=true:=K6 (by decide) (by decide);have d1:decide ((0:Int)<2147483647)=true:=by decide
  have d2:decide ((0:Int)<2147483629)=true:=by decide
  have d3:decide ((0:Int)<2147483587)=true:=by decide
  have e8:yS (((((v*48271+29) % 2147483647)*((v*48271+29) % 2147483647)+39373*((v*48271+29) % 2147483647)+7) % 2147483629*((((v*48271+29) % 2147483647)*((v*48271+29) % 2147483647)+39373*((v*48271+29) % 2147483647)+7) % 2147483629)+16807*((((v*48271+29) % 2147483647)*((v*48271+29) % 2147483647)+39373*((v*48271+29) % 2147483647)+7) % 2147483629)) % 2147483587) 8=true:=vc (by decide) (by decide);have c2:o_ ((v*48271+29) % 2147483647) ((v*48271+29) % 2147483647)=true:=vd g1 (by lia);have c3:o_ 39373 ((v*48271+29) % 2147483647)=true:=vd (by decide) (by decide);generalize hs:(v*48271+29) % 2147483647=s1 at *;have g3:0<=(s1*s1+39373*s1+7) % 2147483629:=acW _ (by decide);have g4:(s1*s1+39373*s1+7) % 2147483629<2147483629:=acg _ (by decide);have c4:o_ ((s1*s1+39373*s1+7) % 2147483629) ((s1*s1+39373*s1+7) % 2147483629)=true:=vd g3 (by lia);have c5:o_ 16807 ((s1*s1+39373*s1+7) % 2147483629)=true:=vd (by decide) (by decide);refine⟨((s1*s1+39373*s1+7) % 2147483629*((s1*s1+39373*s1+7) % 2147483629)+16807*((s1*s1+39373*s1+7) % 2147483629)) % 2147483587 / 8 % m,.lst [.int s1,.bl false],?_,acW _ (by lia),acg _ h0,s1,false,rfl,g1,λ_=>g2⟩
  ·simp only[Pzz,jR,Nat.reduceAdd,Nat.reduceSub,bw,i0,hG h0,c1,d1,d2,d3,hs,c2,c3,c4,c5,e8,AU]
theorem FC {us:List U}{k:Int}(hu:u=.scr (ns.map .int)\/u=.lst (ns.map .int))(h0:0<=k):∃s,fI [u,.int k]=.ok s/\wt s:=by
 obtain⟨k,rfl⟩:∃n:Nat,k=n:=⟨k.toNat,by lia⟩;have uL:∃c:Int,dh [u,.int k]=.ok (.int c):=by
  by_cases hk:k<ns.length
  ·refine⟨ns[k],?_⟩;have d:decide ((k:Int)<((ns.map U.int).length:Nat))=true:=by rw[ZW];exact hG (by lia)
   have e:m_ (ns.map U.int) (k:Int)=some (.int ns[k]):=by rw[AS,aay,ZM hk];rfl
   rcases hu with rfl|rfl<;>simp only[Pzz,jR,Nat.reduceAdd,Nat.reduceSub,dh,fH,d,e]
  ·refine⟨0,?_⟩;have d:decide ((k:Int)<((ns.map U.int).length:Nat))=false:=by rw[ZW];exact hJ (by lia)
   rcases hu with rfl|rfl<;>simp only[Pzz,jR,Nat.reduceAdd,Nat.reduceSub,dh,fH,d]
 obtain⟨c,hc⟩:=uL;have Xf:GV 10 18=true:=by decide
 have Xg:(10:Int) ^ (18:Int).toNat=1000000000000000000:=by decide
 have l2:(2:Nat)<=ZY:=by decide
 have dm:decide ((0:Int)<2147483647)=true:=by decide
 by_cases h:1000000000000000000<=c
 ·refine⟨.lst [.int (c-1000000000000000000),.bl true],?_,_,true,rfl,by lia,λh=>nomatch h⟩;simp only[Pzz,jR,Nat.reduceAdd,Nat.reduceSub,fI,g8,hc,Xf,Xg,hG h,l2,hV]
 ·refine⟨.lst [.int (c % 2147483647),.bl false],?_,_,false,rfl,acW _ (by decide),λ_=>acg _ (by decide)⟩;simp only[Pzz,jR,Nat.reduceAdd,Nat.reduceSub,fI,g8,hc,Xf,Xg,hJ h,l2,dm,hV]
open Hc.Ts
noncomputable def Bl:R U->Bool
 | .ok _=>true
 |_=>false
noncomputable def Wy:R U->U
 | .ok u=>u
 |_=>.non
theorem FD {r:R U}(h:Bl r=true):r=.ok (Wy r):=by
 cases r<;>first|rfl|cases h
noncomputable def HF (r:R U)(u:U):Bool:=match r with
 | .ok x=>tR x u
 |_=>false
theorem wc {r:R U}(h:HF r u=true):r=.ok u:=by
 cases r with
 |ok x=>rw[yF h]
 |exc=>cases h
 |stk=>cases h
theorem dM {α β:Type}{f g:α->β}:∀{l:List α},l.map f=l.map g->∀x∈l,f x=g x
 | [],_,x,h=>by cases h
 |y::l,e,x,h=>by
  rw[Z_,Z_] at e;injection e with e1 e2
  rcases Z4.mp h with rfl|h
  ·exact e1
  ·exact dM e2 x h
noncomputable abbrev Jy:=Nat×Nat×Nat
noncomputable def iR (n:Nat):List Jy:=((aaA n).flatMap λa=>(aaA n).flatMap λb=>(aaA n).map λc=>(a,b,c)).filter λt=>t.1 != t.2.1&&t.1 != t.2.2&&t.2.1 != t.2.2
theorem HG {a b c:Nat}(ha:a<n)(hb:b<n)(hc:c<n)(h1:a≠b)(h2:a≠c)(h3:b≠c):(a,b,c)∈iR n:=by
 unfold iR;rw[List.mem_filter];refine⟨List.mem_flatMap.mpr ⟨a,aax.mpr ha,List.mem_flatMap.mpr ⟨b,aax.mpr hb,aaP.mpr ⟨c,aax.mpr hc,rfl⟩⟩⟩,?_⟩;simp[h1,h2,h3]
noncomputable def gm (t:Jy):U:=.lst [.int t.1,.int t.2.1,.int t.2.2]
theorem yd (h:d≠[]):Fi (bq d)=some d:=by
 unfold Fi bq;dsimp only;rw[D0];cases d with
 |nil=>exact absurd rfl h
 |cons=>rfl
theorem CB (h:d≠[]):gG [.lst [bq d,bq d]]=.ok (.lst [bq d]):=by
 have e:jL [bq d,bq d]=some [d,d]:=by
  unfold jL jL jL;rw[yd h]
 have o:jM [d,d]=[d]:=by
  have a1:vD [] d=[d]:=hU acb;have a2:vD [d] d=[d]:=hV ZS;show vD (vD [] d) d=[d];rw[a1,a2]
 unfold gG;dsimp only;rw[e];dsimp only;rw[o];rfl
theorem FE {d:D}(h:qJ u=some d)(hd:eO d<=30):BN u u=.ok true:=by
 unfold BN;rw[h];dsimp only;rw[hV hd,qk]
theorem HH (r:List Int):qJ (bq r)=some (.tup (r.map .int)):=by unfold bq qJ;rw[B_];rfl
theorem HJ (d:List Int):BN (.lst [bq d]) (.lst [bq d])=.ok true:=by
 refine FE (d:=.lst [.tup (d.map .int)]) ?_ ?_
 ·unfold qJ kY kY;rw[HH];rfl
 ·have:=zo d;unfold eO jJ jJ eO;rw[this];decide
theorem sh {α:Type}:∀(l:List α) (i:Nat) (h:i<l.length),(l[i]::l.eraseIdx i).Perm l
 |x::l,0,_=>abh _
 |x::l,i+1,h=>by
  have h':i<l.length:=by simpa using h
  show (l[i]::x::l.eraseIdx i).Perm (x::l);exact (List.Perm.swap _ _ _).trans (List.Perm.cons x (sh l i h'))
theorem m7 {α β:Type}(f:α->β):∀(l:List α) (i:Nat),(l.map f).eraseIdx i=(l.eraseIdx i).map f
 | [],_=>rfl
 |_::_,0=>rfl
 |x::l,i+1=>by
  show f x::(l.map f).eraseIdx i=f x::(l.eraseIdx i).map f;rw[m7 f l i]
theorem Lx {k:Int}{y:U}(h1:ae6 k us.length=some j)(h2:us[j]? = some y)(h3:0<=k)(h4:k<1000000000):nF (.lst us) [.int k]=.ok (y,.lst (us.eraseIdx j)):=by
 unfold nF;dsimp only;rw[hV (by lia),h1];dsimp only;rw[h2]
open Hc.Ts
theorem HK {s:U}{c:Nat}(h:wt s)(hn:(m:Int) / 2=n)(h1:n<=1000)(hc:c<=n)(hm:m<=100):∃(os:List Int) (s':U),cA [s,.int m,.int c]=.ok (.lst (os.map .int),s')/\os.length=c/\os.Nodup/\(∀x∈os,0<=x/\x<n)/\wt s':=by
 obtain⟨ys,⟨left,s'⟩,e,l,os,hr,hp,hs'⟩:=qQ (G:=iG) (js:=[none,some 3,some 0]) (sg:=cb 0) (ge:=gM "list" 1 nF (af (wq 2 2 bw (af (gR g6 (af (ah 1) aq)) aq)) aq))
  (λx:List Int×U=>[some x.2,some (.int m),some (.int c),some (.lst (x.1.map .int))]) c (λys x=>∃os:List Int,ys=os.map .int/\(os++x.1).Perm (iy n)/\wt x.2)
  (λdone u x hd h00=>by
   obtain⟨os,hr,hp,hs⟩:=h00;obtain⟨left,s⟩:=x;have hl:0<left.length:=by
    have:=hp.length_eq;rw[ZZ,qR] at this;have h2:done.length=os.length:=by rw[hr,ZW]
    dsimp only at this;lia
   have LO:left.length<=n:=by
    have:=hp.length_eq;rw[ZZ,qR] at this;dsimp only at this;lia
   obtain⟨r,s',b1,b2,b3,b4⟩:=pY (m:=left.length) hs (by lia) (by lia);obtain⟨k,rfl⟩:∃n:Nat,r=n:=⟨r.toNat,by lia⟩;have hk:k<left.length:=by lia
   refine⟨[some u,some (.lst (left.map .int)),some s],.int left[k],[some u,some (.lst ((left.eraseIdx k).map .int)),some s'],(left.eraseIdx k,s'),rfl,?_,rfl,os++[left[k]],by rw[hr,abp];rfl,?_,b4⟩
   ·have hx:ae6 (k:Int) (left.map U.int).length=some k:=by
     unfold ae6;rw[ZW];simp;lia
    have hy:(left.map U.int)[k]? = some (.int left[k]):=by rw[aay,ZM hk];rfl
    have pp:=Lx hx hy (by lia) (by lia);rw[m7] at pp;simp only[Pzz,jR,Nat.reduceAdd,Nat.reduceSub,ZW,b1,pp]
   ·rw[aao];refine List.Perm.trans (abc os ?_) hp;exact sh left k hk) (cz 0 c) [] (iy n,s) (by rw[gc];simp) ⟨[],rfl,abh _,h⟩
 rw[gc] at l;have ln:os.length=c:=by
  have:=congrArg List.length hr;rw[abP,ZW] at this;lia
 rw[abP] at hr;dsimp only at e;have nd:(iy n).Nodup:=by
  unfold iy;exact List.Pairwise.map _ (λa b h e=>h (Int.ofNat.inj e)) adn
 have V_:(os++left).Nodup:=hp.symm.nodup nd;refine⟨os,s',?_,ln,(abK.mp V_).1,λx hx=>?_,hs'⟩
 ·have d2:decide ((0:Int)<2)=true:=by decide
  have c2:yS (m:Int) 2=true:=vc (by decide) (by decide);rw[hr] at e;simp only[Pzz,jR,Nat.reduceAdd,Nat.reduceSub,cA,iH,d2,c2,hn,zm c (by lia),Ha n (by lia),xl] at e ⊢;simp only[Pzz,jR,Nat.reduceAdd,Nat.reduceSub,e]
 ·have:=hp.mem_iff.mp (aat _ hx)
  rwa [zp] at this
theorem FF {s:U}{y2 y6:Option U}(h:wt s)(h1:m<=1000):∃(xs:List Int) (s':U),nC cR [none,some 0] (cb 0) f_ (wq 2 1 bw (af (gC (.int 10)) aq)) (cz 0 m) [some s,some (.int m),y2,y3,none,y5,y6]=.ok (xs.map .int,[some s',some (.int m),y2,y3,none,y5,y6])/\xs.length=m/\wt s':=by
 obtain⟨ys,s',e,l,row,hr,hs'⟩:=qQ (G:=cR) (js:=[none,some 0]) (sg:=cb 0) (ge:=wq 2 1 bw (af (gC (.int 10)) aq)) (λs:U=>[some s,some (.int m),y2,y3,none,y5,y6]) m (λys s=>∃row:List Int,ys=row.map .int/\wt s)
  (λdone u s _ h00=>by
   obtain⟨row,hr,hs⟩:=h00;obtain⟨r,s',b1,b2,b3,b4⟩:=pY (m:=10) hs (by decide) (by decide);refine⟨[some u,some s],.int r,[some u,some s'],s',rfl,?_,rfl,row++[r],by rw[hr,abp];rfl,b4⟩;simp only[Pzz,jR,Nat.reduceAdd,Nat.reduceSub,b1]) (cz 0 m) [] s (by rw[gc];simp) ⟨[],rfl,h⟩
 rw[gc] at l;refine⟨row,s',by rw[e,←hr];rfl,?_,hs'⟩;have:=congrArg List.length hr;simp at this;lia
noncomputable def HL:Ev->SR:=aI (jk (B8 (af (ah 2) (af (ah 3) aq))) (dg 2 (aF (cb 5) (aF (cb 6) df))) iF) (bB (gR gb (af (ah 4) aq)))
theorem Ob:fJ=aI (bj 4 (yP cR (mw (af (ah 1) aq)) [none,some 0] (cb 0) f_ (wq 2 1 bw (af (gC (.int 10)) aq)))) HL:=rfl
theorem FG {s nu bi:U}(h:wt s)(h1:m<=1000){R:List Int->U}(hw:∀xs:List Int,xs.length=m->∀s,pd (HL [some s,some (.int m),some nu,some bi,some (.lst (xs.map .int)),none,none])=.ok (R xs,s)) :
  ∃(xs:List Int) (s':U),bX [s,.int m,nu,bi]=.ok (R xs,s')/\xs.length=m/\wt s':=by
 obtain⟨xs,s',e,l,hs⟩:=FF (y2:=some nu) (y3:=some bi) (y5:=none) (y6:=none) h h1;refine⟨xs,s',?_,l,hs⟩;unfold bX;rw[Ob];simp only[Pzz,jR,Nat.reduceAdd,Nat.reduceSub,zm m (by lia),e];exact hw xs l s'
theorem uI:∀d:List Int,u_ (d.map .int)=true
 | []=>by unfold u_;rfl
 |x::d=>by rw[Z_];unfold u_ sP;exact uI d
theorem uJ:∀d:List Int,qp (d.map .int)=0
 | []=>by unfold qp;rfl
 |x::d=>by rw[Z_];unfold qp wO;rw[uJ d];rfl
theorem FH (d:List Int):BU (bq d)=true:=by
 show (u_ (d.map .int)&&decide (qp (d.map .int)<=6))=true;rw[uI,uJ];rfl
theorem HM {l:U}:jS (.dct [bq d] [l]) (bq d)=.ok l:=by
 have f:y_ [bq d] (bq d)=true:=by unfold y_;rw[FH];exact Bool.or_true _
 unfold jS;dsimp only;rw[hV f];unfold fx;rw[hV rfl]
theorem FI {l:U}(h:d≠[]):oP [.dct [bq d] [l]]=.ok (.lst [bq d]):=by
 have e:jL [bq d]=some [d]:=by
  unfold jL jL;rw[yd h]
 unfold oP;show rL [.dct [bq d] [l]]=_;unfold rL;dsimp only;rw[hV (show NQ [bq d]=true from rfl)];unfold j_;rw[e];rfl
noncomputable def nW:U:=.tup [.int 1,.int 1]
noncomputable def uK:U:=.tup [.int 1,.int 2]
noncomputable def QY:Ev->R (U×Ev):=(d_ (cy (gR oP (af (aG jS (ah 2) (ah 3)) aq))) [none,some 2,some 3] (cb 0) f_ (aP (af (ah 0) (af (fh 1 bG (af (aG jS (aG jS (ah 1) (ah 2)) (ah 0)) aq)) aq))))
noncomputable def PH:Ev->SR:=(aI (bj 9 (fh 1 bG (af (d_ (cy (ah 8)) [none,none] (dg 2 (aF (cb 0) (aF (cb 1) df))) f_ (ah 1)) aq)))
 (aI (bj 10 (d_ (cy (ah 8)) [none,none,some 9] (dg 2 (aF (cb 0) (aF (cb 1) df))) f_ (aP (af (ah 0) (af (fh 2 bQ (af (aG eo (aG bW (ah 1) (gC (.int 0))) (aG bW (ah 2) (gC (.int 1)))) (af (aG eo (aG bW (ah 1) (gC (.int 1))) (aG bW (ah 2) (gC (.int 0)))) aq))) aq)))))
 (lj (gM "list" 7 iY (af (aP (af (ah 3) (af (fh 2 bQ (af (aG eo (aG bW (ah 9) (gC (.int 0))) (aG bW (ah 6) (gC (.int 1)))) (af (aG eo (aG bW (ah 9) (gC (.int 1))) (aG bW (ah 6) (gC (.int 0)))) aq))) (af (ah 10) aq)))) aq)))))
theorem Oc:di=aI (bj 8 QY) PH:=rfl
theorem Jz {tr:U}(hd:d≠[]){y0 y1 y6 y7 y8 y9 HW:Option U}{b:Int}(ht:bG [.lst [.tup [.int 1,.int b]]]=.ok (.tup [.int 1,.int b]))(hD:jS (.dct ks us) tr=.ok (.dct [bq d] [.lst [.tup [.int 1,.int b]]])) :
  di [y0,y1,some (.dct ks us),some tr,y4,y5,y6,y7,y8,y9,HW]=PH [y0,y1,some (.dct ks us),some tr,y4,y5,y6,y7,some (.lst [.tup [bq d,.tup [.int 1,.int b]]]),y9,HW]:=by
 rw[Oc];have e:QY [y0,y1,some (.dct ks us),some tr,y4,y5,y6,y7,y8,y9,HW]=.ok (.lst [.tup [bq d,.tup [.int 1,.int b]]],[y0,y1,some (.dct ks us),some tr,y4,y5,y6,y7,y8,y9,HW]):=by
  unfold QY;simp only[Pzz,jR,Nat.reduceAdd,Nat.reduceSub,hD,FI hd];have q:Mb [none,some 2,some 3] (cb 0) f_ (aP (af (ah 0) (af (fh 1 bG (af (aG jS (aG jS (ah 1) (ah 2)) (ah 0)) aq)) aq))) [y0,y1,some (.dct ks us),some tr,y4,y5,y6,y7,y8,y9,HW] (bq d)=.ok (some (.tup [bq d,.tup [.int 1,.int b]])):=by
   simp only[Pzz,jR,Nat.reduceAdd,Nat.reduceSub,hD,HM,ht]
  unfold Ma;rw[q];rfl
 simp only[ud,EB,e,uc,nJ,acN,abQ]
noncomputable def QZ (X:Ev->SR):Ev->SR:=(aI (bj 1 (fh 1 bG (af (d_ (cy (ah 0)) [none,none,none] (dg 3 (aF (cb 0) (aF (cb 1) (aF (cb 2) df)))) (gB (aG (lL id) (ah 1) (gC .non))) (aP (af (gC (.int 1)) (af (ah 2) aq)))) aq)))
 (aI (bj 2 Po)
 (aI (Be 2 (Fv 2 (cy (ah 0)) (dg 3 (aF (cb 3) (aF (cb 4) (aF (cb 5) df))))
 (Lp 2 (gB (aG (lL not) (ah 4) (gC .non))) (Ls 2 (uD 2 (zE 0) (uD 2 (zE 1) (Bf 2) (ah 3)) (ah 4)) (aP (af (gC (.int 1)) (af (ah 5) aq)))) bM))) X)))
noncomputable def Wz (X:Ev->SR):Ev->SR:=(aI (bj 6 (fh 2 bQ (af (aG wZ (aG bW (ah 1) (gC (.int 1))) (aG bW (ah 1) (gC (.int 0)))) (af (aG bW (ah 1) (gC (.int 1))) aq))))
 (aI (kE (gB (aG (jf id) (aG bW (ah 6) (gC (.int 0))) (gC (.int 0)))) (bB (aP (af (ah 1) (af (gC .non) aq)))) bM)
 (aI (bj 7 (bT aq)) X)))
noncomputable def Q0:Ev->SR:=pf 7 (bB (aP (af (ah 1) (af (ah 7) aq))))
theorem Od:ja=QZ (pf 2 (Wz (aI (jk (cy (gR nR (af (ah 2) aq))) (cb 3) di) Q0))):=rfl
noncomputable def pZ:U:=.tup [.tup [.int 0]]
noncomputable def pJ:U:=.tup [.tup [.int 1]]
noncomputable def gH (tr:U)(d:List Int):U:=.tup [tr,uK,.lst [.tup [bq d,nW]]]
noncomputable def eJ (d:List Int):U:=.dct [bq d] [.lst [uK]]
theorem Ly {A B C D:U}{e c f:List Int}(hc:c≠[])(hf:f≠[])(h1:jS (.dct [A,B] [eJ d,eJ e]) C=.ok (eJ c))(h2:jS (.dct [A,B] [eJ d,eJ e]) D=.ok (eJ f)){y0:Option U} :
  ∃ρ,iu (cb 3) di [C,D] [y0,some (.tup [.int 0,.int 1]),some (.dct [A,B] [eJ d,eJ e]),y3,y4,y5,some nW,some (.lst []),none,none,none]=.nx ρ/\ρ[1]? = some (some (.tup [.int 0,.int 1]))/\ρ[7]? = some (some (.lst [gH C c,gH D f])):=by
 have t:bG [.lst [.tup [.int 1,.int 2]]]=.ok (.tup [.int 1,.int 2]):=by kernel_rfl
 have q1:∀y9 HW,PH [y0,some (.tup [.int 0,.int 1]),some (.dct [A,B] [eJ d,eJ e]),some C,y4,y5,some nW,some (.lst []),some (.lst [.tup [bq c,.tup [.int 1,.int 2]]]),y9,HW]=.nx [y0,some (.tup [.int 0,.int 1]),some (.dct [A,B] [eJ d,eJ e]),some C,y4,y5,some nW,some (.lst [gH C c]),some (.lst [.tup [bq c,.tup [.int 1,.int 2]]]),some uK,some (.lst [.tup [bq c,nW]])]:=by intros;kernel_rfl
 have q2:∀y9 HW,PH [y0,some (.tup [.int 0,.int 1]),some (.dct [A,B] [eJ d,eJ e]),some D,y4,y5,some nW,some (.lst [gH C c]),some (.lst [.tup [bq f,.tup [.int 1,.int 2]]]),y9,HW]=.nx [y0,some (.tup [.int 0,.int 1]),some (.dct [A,B] [eJ d,eJ e]),some D,y4,y5,some nW,some (.lst [gH C c,gH D f]),some (.lst [.tup [bq f,.tup [.int 1,.int 2]]]),some uK,some (.lst [.tup [bq f,nW]])]:=by intros;kernel_rfl
 refine⟨[y0,some (.tup [.int 0,.int 1]),some (.dct [A,B] [eJ d,eJ e]),some D,y4,y5,some nW,some (.lst [gH C c,gH D f]),some (.lst [.tup [bq f,.tup [.int 1,.int 2]]]),some uK,some (.lst [.tup [bq f,nW]])],?_,rfl,rfl⟩;unfold iu;show SR.of (R.ok _) _=_;simp only[uc,acN,abQ];rw[Jz hc t h1,q1];dsimp only;unfold iu;show SR.of (R.ok _) _=_;simp only[uc,acN,abQ];rw[Jz hf t h2,q2];rfl
theorem iq {A B C D:U}{e c f:List Int}{P:U}(hc:c≠[])(hf:f≠[])(h1:jS (.dct [A,B] [eJ d,eJ e]) C=.ok (eJ c))(h2:jS (.dct [A,B] [eJ d,eJ e]) D=.ok (eJ f))(hA:∀X,QZ X [some P,none,none,none,none,none,none,none,none,none,none]=X [some P,some (.tup [.int 0,.int 1]),some (.dct [A,B] [eJ d,eJ e]),y3,y4,y5,none,none,none,none,none])(hs:nR [.dct [A,B] [eJ d,eJ e]]=.ok (.lst [C,D])):cW [P]=.ok (.tup [.tup [.int 0,.int 1],.lst [gH C c,gH D f]]):=by
 obtain⟨ρ,e1,e2,e3⟩:=Ly (y0:=some P) (y3:=y3) (y4:=y4) (y5:=y5) hc hf h1 h2;have hB:∀X,Wz X [some P,some (.tup [.int 0,.int 1]),some (.dct [A,B] [eJ d,eJ e]),y3,y4,y5,none,none,none,none,none]=X [some P,some (.tup [.int 0,.int 1]),some (.dct [A,B] [eJ d,eJ e]),y3,y4,y5,some nW,some (.lst []),none,none,none]:=by intros;kernel_rfl
 have hE:∃ρ',Q0 ρ=.rt (.tup [.tup [.int 0,.int 1],.lst [gH C c,gH D f]]) ρ':=by
  refine⟨ρ.set 7 none,?_⟩;unfold Q0 pf bB aP af aq ah;rw[e2];dsimp only[R.bind];rw[e3];rfl
 obtain⟨ρ',hE⟩:=hE;have hF:jk (cy (gR nR (af (ah 2) aq))) (cb 3) di [some P,some (.tup [.int 0,.int 1]),some (.dct [A,B] [eJ d,eJ e]),y3,y4,y5,some nW,some (.lst []),none,none,none]=.nx ρ:=by
  simp only[Pzz,jR,Nat.reduceAdd,Nat.reduceSub,hs];exact e1
 unfold cW;rw[Od];unfold eh;show (match QZ _ [some P,none,none,none,none,none,none,none,none,none,none] with|.rt u _=>_|.nx _=>_|.exc c u=>_|_=>_)=_;rw[hA];unfold pf;rw[hB];unfold aI;rw[hF];dsimp only;rw[hE]
noncomputable def Q1:Ev->SR:=(aI (bj 4 (aG bW (fh 1 cW (af (ah 2) aq)) (gC (.int 1))))
 (aI (kE (gB (aG (lL id) (ah 4) (gC .non))) (bB (aP (af (gC (.str "end")) (af (bT aq) aq)))) bM)
 (bB (aP (af (gC (.str "walked")) (af (ah 4) aq))))))
noncomputable def WA:Ev->SR:=(aI (bj 3 (d_ (cy (ah 2)) [none,none,none] (dg 3 (aF (cb 0) (aF (cb 1) (aF (cb 2) df)))) (nB (gB (aG (lL not) (ah 1) (gC .non))) (gB (aG (jf id) (Pl KP (ah 1) Ag (wR (gC (.int 1)))) (aP (af (gC (.str "no way")) aq))))) (aG bW (ah 1) (gC (.int 1)))))
 (aI (kE (gB (aG (jf not) (ah 3) (bT aq))) (bB (aP (af (gC (.str "way")) (af (ah 3) aq)))) bM) Q1))
theorem Oe:km=aI (bj 2 (fh 5 (aM 6) (af (ah 0) (af (ah 1) (af (ah 1) (af (gC (.int 1)) (af (aP aq) aq))))))) WA:=rfl
theorem kQ {P Q w:U}{l:List U}(hp:aM 6 [P,row,row,.int 1,.tup []]=.ok Q)(hM:∀y0 y1,WA [y0,y1,some Q,none,none]=Q1 [y0,y1,some Q,some (.lst []),none])(hw:cW [Q]=.ok (.tup [w,.lst l])):ba [P,row]=.ok (.tup [.str "walked",.lst l]):=by
 unfold ba;rw[Oe];simp only[Pzz,jR,Nat.reduceAdd,Nat.reduceSub,hp];rw[hM];unfold Q1;simp only[Pzz,jR,Nat.reduceAdd,Nat.reduceSub,hw];rfl
noncomputable def pth (s:Bool)(d e:List Int):U:=.lst [.tup [if s then pJ else pZ,bq d,.int 2],.tup [if s then pZ else pJ,bq e,.int 2]]
noncomputable def lE (d e:List Int):U:=.tup [.str "walked",.lst [gH pZ d,gH pJ e]]
theorem Q2 {P:U}(hp:aM 6 [P,row,row,.int 1,.tup []]=.ok (pth false [d0,d1,d2,d3,d4,d5] [e0,e1,e2,e3,e4,e5])):ba [P,row]=.ok (lE [d0,d1,d2,d3,d4,d5] [e0,e1,e2,e3,e4,e5]):=
 kQ hp (by intros;kernel_rfl) (iq (A:=pZ) (B:=pJ) (C:=pZ) (D:=pJ) (d:=[d0,d1,d2,d3,d4,d5]) (e:=[e0,e1,e2,e3,e4,e5]) (c:=[d0,d1,d2,d3,d4,d5]) (f:=[e0,e1,e2,e3,e4,e5]) (by simp) (by simp) (by kernel_rfl) (by kernel_rfl) (y3:=some pJ) (y4:=some (bq [e0,e1,e2,e3,e4,e5])) (y5:=some (.int 2)) (by intros;kernel_rfl) (by kernel_rfl))
theorem Q3 {P:U}(hp:aM 6 [P,row,row,.int 1,.tup []]=.ok (pth true [d0,d1,d2,d3,d4,d5] [e0,e1,e2,e3,e4,e5])):ba [P,row]=.ok (lE [e0,e1,e2,e3,e4,e5] [d0,d1,d2,d3,d4,d5]):=
 kQ hp (by intros;kernel_rfl) (iq (A:=pJ) (B:=pZ) (C:=pZ) (D:=pJ) (d:=[d0,d1,d2,d3,d4,d5]) (e:=[e0,e1,e2,e3,e4,e5]) (c:=[e0,e1,e2,e3,e4,e5]) (f:=[d0,d1,d2,d3,d4,d5]) (by simp) (by simp) (by kernel_rfl) (by kernel_rfl) (y3:=some pZ) (y4:=some (bq [e0,e1,e2,e3,e4,e5])) (y5:=some (.int 2)) (by intros;kernel_rfl) (by kernel_rfl))
theorem Q4 {P:U}(hp:aM 6 [P,row,row,.int 1,.tup []]=.ok (pth false [d0,d1,d2,d3,d4,d5,d6] [e0,e1,e2,e3,e4,e5,e6])):ba [P,row]=.ok (lE [d0,d1,d2,d3,d4,d5,d6] [e0,e1,e2,e3,e4,e5,e6]):=
 kQ hp (by intros;kernel_rfl) (iq (A:=pZ) (B:=pJ) (C:=pZ) (D:=pJ) (d:=[d0,d1,d2,d3,d4,d5,d6]) (e:=[e0,e1,e2,e3,e4,e5,e6]) (c:=[d0,d1,d2,d3,d4,d5,d6]) (f:=[e0,e1,e2,e3,e4,e5,e6]) (by simp) (by simp) (by kernel_rfl) (by kernel_rfl) (y3:=some pJ) (y4:=some (bq [e0,e1,e2,e3,e4,e5,e6])) (y5:=some (.int 2)) (by intros;kernel_rfl) (by kernel_rfl))
theorem Q5 {P:U}(hp:aM 6 [P,row,row,.int 1,.tup []]=.ok (pth true [d0,d1,d2,d3,d4,d5,d6] [e0,e1,e2,e3,e4,e5,e6])):ba [P,row]=.ok (lE [e0,e1,e2,e3,e4,e5,e6] [d0,d1,d2,d3,d4,d5,d6]):=
 kQ hp (by intros;kernel_rfl) (iq (A:=pJ) (B:=pZ) (C:=pZ) (D:=pJ) (d:=[d0,d1,d2,d3,d4,d5,d6]) (e:=[e0,e1,e2,e3,e4,e5,e6]) (c:=[e0,e1,e2,e3,e4,e5,e6]) (f:=[d0,d1,d2,d3,d4,d5,d6]) (by simp) (by simp) (by kernel_rfl) (by kernel_rfl) (y3:=some pZ) (y4:=some (bq [e0,e1,e2,e3,e4,e5,e6])) (y5:=some (.int 2)) (by intros;kernel_rfl) (by kernel_rfl))
theorem Q7 {P:U}{d7 e7:Int}(hp:aM 6 [P,row,row,.int 1,.tup []]=.ok (pth false [d0,d1,d2,d3,d4,d5,d6,d7] [e0,e1,e2,e3,e4,e5,e6,e7])):ba [P,row]=.ok (lE [d0,d1,d2,d3,d4,d5,d6,d7] [e0,e1,e2,e3,e4,e5,e6,e7]):=
 kQ hp (by intros;kernel_rfl) (iq (A:=pZ) (B:=pJ) (C:=pZ) (D:=pJ) (d:=[d0,d1,d2,d3,d4,d5,d6,d7]) (e:=[e0,e1,e2,e3,e4,e5,e6,e7]) (c:=[d0,d1,d2,d3,d4,d5,d6,d7]) (f:=[e0,e1,e2,e3,e4,e5,e6,e7]) (by simp) (by simp) (by kernel_rfl) (by kernel_rfl) (y3:=some pJ) (y4:=some (bq [e0,e1,e2,e3,e4,e5,e6,e7])) (y5:=some (.int 2)) (by intros;kernel_rfl) (by kernel_rfl))
theorem Q8 {P:U}{d7 e7:Int}(hp:aM 6 [P,row,row,.int 1,.tup []]=.ok (pth true [d0,d1,d2,d3,d4,d5,d6,d7] [e0,e1,e2,e3,e4,e5,e6,e7])):ba [P,row]=.ok (lE [e0,e1,e2,e3,e4,e5,e6,e7] [d0,d1,d2,d3,d4,d5,d6,d7]):=
 kQ hp (by intros;kernel_rfl) (iq (A:=pJ) (B:=pZ) (C:=pZ) (D:=pJ) (d:=[d0,d1,d2,d3,d4,d5,d6,d7]) (e:=[e0,e1,e2,e3,e4,e5,e6,e7]) (c:=[e0,e1,e2,e3,e4,e5,e6,e7]) (f:=[d0,d1,d2,d3,d4,d5,d6,d7]) (by simp) (by simp) (by kernel_rfl) (by kernel_rfl) (y3:=some pZ) (y4:=some (bq [e0,e1,e2,e3,e4,e5,e6,e7])) (y5:=some (.int 2)) (by intros;kernel_rfl) (by kernel_rfl))
noncomputable def PL (m:Nat)(t:Jy):U:=Wy (fG [.int m,.int t.1,.int t.2.1,.int t.2.2])
noncomputable def wd (b:Nat):U:=.tup [.int b,.int 0,.int 0]
noncomputable def Lz (xs:List Int)(k:Nat)(b:Int):List Int:=(xs.set (2*k) b).set (2*k+1) (1-b)
noncomputable def dW (t:Jy)(b:Nat)(xs:List Int):U:=bq (Lz (Lz (Lz xs t.1 b) t.2.1 0) t.2.2 0)
noncomputable def HN (m:Nat)(t:Jy)(xs:List Int):List Int:=((aaA m).filter λp=>p / 2 != t.1&&p / 2 != t.2.1&&p / 2 != t.2.2).map λp=>xs.getD p 0
noncomputable def fW (m:Nat)(t:Jy)(b:Nat)(xs:List Int):List Int:=(b:Int)::(1-b:Int)::(b:Int)::(1-b:Int)::0::1::HN m t xs
noncomputable def zP:U:=.lst [.tup [.tup [.tup [.int 0]],.tup [.int 1,.int 2]],.tup [.tup [.tup [.int 1]],.tup [.int 1,.int 2]]]
noncomputable def ye:Ev->R (U×Ev):=(aG fV (aG fV (aG fV (fh 1 ft (af (ah 6) aq)) (fh 1 ft (af (ah 6) aq))) (aP (af (gC (.int 0)) (af (gC (.int 1)) aq)))) (fh 2 gy (af (ah 7) (af (ah 2) aq))))
structure t6 (m n:Nat):Prop where
 cop:∀t∈iR n,fG [.int m,.int t.1,.int t.2.1,.int t.2.2]=.ok (PL m t)
 snd:∀t∈iR n,cQ 6 [PL m t,.int m,.bl true]=.ok (.tup [.int 4,.int 3])
 row:∀t∈iR n,∀b∈[0,1],∀xs:List Int,xs.length=m->∀s,pd (HL [some s,some (.int m),some (gm t),some (wd b),some (.lst (xs.map .int)),none,none])=.ok (dW t b xs,s)
 due:∀t∈iR n,∀b∈[0,1],∀xs:List Int,xs.length=m->∀y0 y1 y3 y4 y5 y8,ye [y0,y1,some (gm t),y3,y4,y5,some (.int (b:Nat)),some (dW t b xs),y8]=.ok (bq (fW m t b xs),[y0,y1,some (gm t),y3,y4,y5,some (.int (b:Nat)),some (dW t b xs),y8])
 path:∀t∈iR n,∀b∈[0,1],∀xs:List Int,xs.length=m->aM 6 [PL m t,dW t b xs,dW t b xs,.int 1,.tup []]=.ok (pth (b==1) (fW m t b xs) (fW m t b xs))
 len:∀t∈iR n,∀b xs,(fW m t b xs).length=m
 gn:∀(d e:List Int) (s:Bool) (P row:U),d.length=m->e.length=m->aM 6 [P,row,row,.int 1,.tup []]=.ok (pth s d e)->ba [P,row]=.ok (if s=true then lE e d else lE d e)
theorem LA {P:U}{e:List Int}(hd:d≠[])(he:d=e)(hg:ba [P,row]=.ok (lE d e)):dk [P,row]=.ok (.lst [bq d]):=by
 subst he;have q:∀y0 y1,jk (cy (ah 3)) (dg 3 (aF (cb 5) (aF (cb 6) (aF (cb 7) df)))) gX [y0,y1,some (.str "walked"),some (.lst [gH pZ d,gH pJ d]),some (.lst []),none,none,none]=.nx [y0,y1,some (.str "walked"),some (.lst [gH pZ d,gH pJ d]),some (.lst [bq d,bq d]),some pJ,some uK,some (.lst [.tup [bq d,nW]])]:=by intros;kernel_rfl
 have a:∀y0 y1 X,aI (kE (gB (aG (jf not) (ah 2) (gC (.str "walked")))) (bB (gC .non)) bM) (aI (bj 4 (bT aq)) X) [y0,y1,some (.str "walked"),some (.lst [gH pZ d,gH pJ d]),none,none,none,none]=X [y0,y1,some (.str "walked"),some (.lst [gH pZ d,gH pJ d]),some (.lst []),none,none,none]:=by intros;kernel_rfl
 have b:BL (dg 2 (aF (cb 2) (aF (cb 3) df))) (fh 2 ba (af (ah 0) (af (ah 1) aq))) [some P,some row,none,none,none,none,none,none]=.nx [some P,some row,some (.str "walked"),some (.lst [gH pZ d,gH pJ d]),none,none,none,none]:=by
  simp only[Pzz,jR,Nat.reduceAdd,Nat.reduceSub,hg];rfl
 unfold dk iI;rw[vb];simp only[jR,ud,Z_,abO,ZT,ab4,Nat.reduceAdd,Nat.reduceSub,adw,adx,aca,abP];rw[b,nJ];have a':=a (some P) (some row) (aI (jk (cy (ah 3)) (dg 3 (aF (cb 5) (aF (cb 6) (aF (cb 7) df)))) gX) (bB (gR gG (af (ah 4) aq))));rw[a',ud,q,nJ];simp only[Pzz,jR,Nat.reduceAdd,Nat.reduceSub,CB hd]
theorem LB {P:U}{e:List Int}(hg:ba [P,row]=.ok (lE d e)):bI [P,row]=.ok zP:=by
 have b:BL (dg 2 (aF (cb 2) (aF (cb 3) df))) (fh 2 ba (af (ah 0) (af (ah 1) aq))) [some P,some row,none,none]=.nx [some P,some row,some (.str "walked"),some (.lst [gH pZ d,gH pJ e])]:=by
  simp only[Pzz,jR,Nat.reduceAdd,Nat.reduceSub,hg];rfl
 unfold bI eR;rw[vb];simp only[jR,ud,Z_,abO,ZT,ab4,Nat.reduceAdd,Nat.reduceSub,adw,adx,aca,abP];rw[b,nJ]
 kernel_rfl
theorem Q9:∀t∈iR 3,∀b∈[0,1],∀xs:List Int,xs.length=6->∀s,pd (HL [some s,some (.int (6:Nat)),some (gm t),some (wd b),some (.lst (xs.map .int)),none,none])=.ok (dW t b xs,s):=by
 have A:∀(x0 x1 x2 x3 x4 x5:Int) (s:U),(iR 3).map (λt=>[0,1].map λb=>pd (HL [some s,some (.int (6:Nat)),some (gm t),some (wd b),some (.lst ([x0,x1,x2,x3,x4,x5].map .int)),none,none]))=(iR 3).map (λt=>[0,1].map λb=>.ok (dW t b [x0,x1,x2,x3,x4,x5],s)):=by intros;kernel_rfl
 intro t ht b hb xs hl s
 match xs,hl with
 | [x0,x1,x2,x3,x4,x5],_=>exact dM (dM (A x0 x1 x2 x3 x4 x5 s) t ht) b hb
theorem Q_:∀t∈iR 3,∀b∈[0,1],∀xs:List Int,xs.length=6->∀y0 y1 y3 y4 y5 y8,ye [y0,y1,some (gm t),y3,y4,y5,some (.int (b:Nat)),some (dW t b xs),y8]=.ok (bq (fW 6 t b xs),[y0,y1,some (gm t),y3,y4,y5,some (.int (b:Nat)),some (dW t b xs),y8]):=by
 have A:∀(x0 x1 x2 x3 x4 x5:Int) (y0 y1 y3 y4 y5 y8:Option U),(iR 3).map (λt=>[0,1].map λb=>ye [y0,y1,some (gm t),y3,y4,y5,some (.int (b:Nat)),some (dW t b [x0,x1,x2,x3,x4,x5]),y8])=(iR 3).map (λt=>[0,1].map λb=>.ok (bq (fW 6 t b [x0,x1,x2,x3,x4,x5]),[y0,y1,some (gm t),y3,y4,y5,some (.int (b:Nat)),some (dW t b [x0,x1,x2,x3,x4,x5]),y8])):=by intros;kernel_rfl
 intro t ht b hb xs hl y0 y1 y3 y4 y5 y8
 match xs,hl with
 | [x0,x1,x2,x3,x4,x5],_=>exact dM (dM (A x0 x1 x2 x3 x4 x5 y0 y1 y3 y4 y5 y8) t ht) b hb
theorem Of:∀t∈iR 3,∀b∈[0,1],∀xs:List Int,xs.length=6->aM 6 [PL 6 t,dW t b xs,dW t b xs,.int 1,.tup []]=.ok (pth (b==1) (fW 6 t b xs) (fW 6 t b xs)):=by
 have A:∀(x0 x1 x2 x3 x4 x5:Int),(iR 3).map (λt=>[0,1].map λb=>aM 6 [PL 6 t,dW t b [x0,x1,x2,x3,x4,x5],dW t b [x0,x1,x2,x3,x4,x5],.int 1,.tup []])=(iR 3).map (λt=>[0,1].map λb=>.ok (pth (b==1) (fW 6 t b [x0,x1,x2,x3,x4,x5]) (fW 6 t b [x0,x1,x2,x3,x4,x5]))):=by intros;kernel_rfl
 intro t ht b hb xs hl
 match xs,hl with
 | [x0,x1,x2,x3,x4,x5],_=>exact dM (dM (A x0 x1 x2 x3 x4 x5) t ht) b hb
theorem Ra:t6 6 3:=by
 have a1:(iR 3).all (λt=>Bl (fG [.int (6:Nat),.int t.1,.int t.2.1,.int t.2.2]))=true:=by kernel_rfl
 have a2:(iR 3).all (λt=>HF (cQ 6 [PL 6 t,.int (6:Nat),.bl true]) (.tup [.int 4,.int 3]))=true:=by kernel_rfl
 have a3:∀t∈iR 3,((aaA 6).filter λp=>p / 2 != t.1&&p / 2 != t.2.1&&p / 2 != t.2.2).length=0:=by decide
 refine⟨λt ht=>FD (aaI.mp a1 t ht),λt ht=>wc (aaI.mp a2 t ht),Q9,Q_,Of,λt ht b xs=>?_,λd e s P row hd he hp=>?_⟩
 ·unfold fW HN;rw[ZT,ZT,ZT,ZT,ZT,ZT,ZW,a3 t ht]
 ·match d,e,hd,he with
  | [d0,d1,d2,d3,d4,d5],[e0,e1,e2,e3,e4,e5],_,_=>
   cases s with
   |false=>exact Q2 hp
   |true=>exact Q3 hp
theorem Rb:∀t∈iR 3,∀b∈[0,1],∀xs:List Int,xs.length=7->∀s,pd (HL [some s,some (.int (7:Nat)),some (gm t),some (wd b),some (.lst (xs.map .int)),none,none])=.ok (dW t b xs,s):=by
 have A:∀(x0 x1 x2 x3 x4 x5 x6:Int) (s:U),(iR 3).map (λt=>[0,1].map λb=>pd (HL [some s,some (.int (7:Nat)),some (gm t),some (wd b),some (.lst ([x0,x1,x2,x3,x4,x5,x6].map .int)),none,none]))=(iR 3).map (λt=>[0,1].map λb=>.ok (dW t b [x0,x1,x2,x3,x4,x5,x6],s)):=by intros;kernel_rfl
 intro t ht b hb xs hl s
 match xs,hl with
 | [x0,x1,x2,x3,x4,x5,x6],_=>exact dM (dM (A x0 x1 x2 x3 x4 x5 x6 s) t ht) b hb
theorem Rc:∀t∈iR 3,∀b∈[0,1],∀xs:List Int,xs.length=7->∀y0 y1 y3 y4 y5 y8,ye [y0,y1,some (gm t),y3,y4,y5,some (.int (b:Nat)),some (dW t b xs),y8]=.ok (bq (fW 7 t b xs),[y0,y1,some (gm t),y3,y4,y5,some (.int (b:Nat)),some (dW t b xs),y8]):=by
 have A:∀(x0 x1 x2 x3 x4 x5 x6:Int) (y0 y1 y3 y4 y5 y8:Option U),(iR 3).map (λt=>[0,1].map λb=>ye [y0,y1,some (gm t),y3,y4,y5,some (.int (b:Nat)),some (dW t b [x0,x1,x2,x3,x4,x5,x6]),y8])=(iR 3).map (λt=>[0,1].map λb=>.ok (bq (fW 7 t b [x0,x1,x2,x3,x4,x5,x6]),[y0,y1,some (gm t),y3,y4,y5,some (.int (b:Nat)),some (dW t b [x0,x1,x2,x3,x4,x5,x6]),y8])):=by intros;kernel_rfl
 intro t ht b hb xs hl y0 y1 y3 y4 y5 y8
 match xs,hl with
 | [x0,x1,x2,x3,x4,x5,x6],_=>exact dM (dM (A x0 x1 x2 x3 x4 x5 x6 y0 y1 y3 y4 y5 y8) t ht) b hb
theorem Og:∀t∈iR 3,∀b∈[0,1],∀xs:List Int,xs.length=7->aM 6 [PL 7 t,dW t b xs,dW t b xs,.int 1,.tup []]=.ok (pth (b==1) (fW 7 t b xs) (fW 7 t b xs)):=by
 have A:∀(x0 x1 x2 x3 x4 x5 x6:Int),(iR 3).map (λt=>[0,1].map λb=>aM 6 [PL 7 t,dW t b [x0,x1,x2,x3,x4,x5,x6],dW t b [x0,x1,x2,x3,x4,x5,x6],.int 1,.tup []])=(iR 3).map (λt=>[0,1].map λb=>.ok (pth (b==1) (fW 7 t b [x0,x1,x2,x3,x4,x5,x6]) (fW 7 t b [x0,x1,x2,x3,x4,x5,x6]))):=by intros;kernel_rfl
 intro t ht b hb xs hl
 match xs,hl with
 | [x0,x1,x2,x3,x4,x5,x6],_=>exact dM (dM (A x0 x1 x2 x3 x4 x5 x6) t ht) b hb
theorem Rf:t6 7 3:=by
 have a1:(iR 3).all (λt=>Bl (fG [.int (7:Nat),.int t.1,.int t.2.1,.int t.2.2]))=true:=by kernel_rfl
 have a2:(iR 3).all (λt=>HF (cQ 6 [PL 7 t,.int (7:Nat),.bl true]) (.tup [.int 4,.int 3]))=true:=by kernel_rfl
 have a3:∀t∈iR 3,((aaA 7).filter λp=>p / 2 != t.1&&p / 2 != t.2.1&&p / 2 != t.2.2).length=1:=by decide
 refine⟨λt ht=>FD (aaI.mp a1 t ht),λt ht=>wc (aaI.mp a2 t ht),Rb,Rc,Og,λt ht b xs=>?_,λd e s P row hd he hp=>?_⟩
 ·unfold fW HN;rw[ZT,ZT,ZT,ZT,ZT,ZT,ZW,a3 t ht]
 ·match d,e,hd,he with
  | [d0,d1,d2,d3,d4,d5,d6],[e0,e1,e2,e3,e4,e5,e6],_,_=>
   cases s with
   |false=>exact Q4 hp
   |true=>exact Q5 hp
theorem Rg:∀t∈iR 4,∀b∈[0,1],∀xs:List Int,xs.length=8->∀s,pd (HL [some s,some (.int (8:Nat)),some (gm t),some (wd b),some (.lst (xs.map .int)),none,none])=.ok (dW t b xs,s):=by
 have A:∀(x0 x1 x2 x3 x4 x5 x6 x7:Int) (s:U),(iR 4).map (λt=>[0,1].map λb=>pd (HL [some s,some (.int (8:Nat)),some (gm t),some (wd b),some (.lst ([x0,x1,x2,x3,x4,x5,x6,x7].map .int)),none,none]))=(iR 4).map (λt=>[0,1].map λb=>.ok (dW t b [x0,x1,x2,x3,x4,x5,x6,x7],s)):=by intros;kernel_rfl
 intro t ht b hb xs hl s
 match xs,hl with
 | [x0,x1,x2,x3,x4,x5,x6,x7],_=>exact dM (dM (A x0 x1 x2 x3 x4 x5 x6 x7 s) t ht) b hb
theorem Rh:∀t∈iR 4,∀b∈[0,1],∀xs:List Int,xs.length=8->∀y0 y1 y3 y4 y5 y8,ye [y0,y1,some (gm t),y3,y4,y5,some (.int (b:Nat)),some (dW t b xs),y8]=.ok (bq (fW 8 t b xs),[y0,y1,some (gm t),y3,y4,y5,some (.int (b:Nat)),some (dW t b xs),y8]):=by
 have A:∀(x0 x1 x2 x3 x4 x5 x6 x7:Int) (y0 y1 y3 y4 y5 y8:Option U),(iR 4).map (λt=>[0,1].map λb=>ye [y0,y1,some (gm t),y3,y4,y5,some (.int (b:Nat)),some (dW t b [x0,x1,x2,x3,x4,x5,x6,x7]),y8])=(iR 4).map (λt=>[0,1].map λb=>.ok (bq (fW 8 t b [x0,x1,x2,x3,x4,x5,x6,x7]),[y0,y1,some (gm t),y3,y4,y5,some (.int (b:Nat)),some (dW t b [x0,x1,x2,x3,x4,x5,x6,x7]),y8])):=by intros;kernel_rfl
 intro t ht b hb xs hl y0 y1 y3 y4 y5 y8
 match xs,hl with
 | [x0,x1,x2,x3,x4,x5,x6,x7],_=>exact dM (dM (A x0 x1 x2 x3 x4 x5 x6 x7 y0 y1 y3 y4 y5 y8) t ht) b hb
theorem Oh:∀t∈iR 4,∀b∈[0,1],∀xs:List Int,xs.length=8->aM 6 [PL 8 t,dW t b xs,dW t b xs,.int 1,.tup []]=.ok (pth (b==1) (fW 8 t b xs) (fW 8 t b xs)):=by
 have A:∀(x0 x1 x2 x3 x4 x5 x6 x7:Int),(iR 4).map (λt=>[0,1].map λb=>aM 6 [PL 8 t,dW t b [x0,x1,x2,x3,x4,x5,x6,x7],dW t b [x0,x1,x2,x3,x4,x5,x6,x7],.int 1,.tup []])=(iR 4).map (λt=>[0,1].map λb=>.ok (pth (b==1) (fW 8 t b [x0,x1,x2,x3,x4,x5,x6,x7]) (fW 8 t b [x0,x1,x2,x3,x4,x5,x6,x7]))):=by intros;kernel_rfl
 intro t ht b hb xs hl
 match xs,hl with
 | [x0,x1,x2,x3,x4,x5,x6,x7],_=>exact dM (dM (A x0 x1 x2 x3 x4 x5 x6 x7) t ht) b hb
theorem Ri:t6 8 4:=by
 have a1:(iR 4).all (λt=>Bl (fG [.int (8:Nat),.int t.1,.int t.2.1,.int t.2.2]))=true:=by kernel_rfl
 have a2:(iR 4).all (λt=>HF (cQ 6 [PL 8 t,.int (8:Nat),.bl true]) (.tup [.int 4,.int 3]))=true:=by kernel_rfl
 have a3:∀t∈iR 4,((aaA 8).filter λp=>p / 2 != t.1&&p / 2 != t.2.1&&p / 2 != t.2.2).length=2:=by decide
 refine⟨λt ht=>FD (aaI.mp a1 t ht),λt ht=>wc (aaI.mp a2 t ht),Rg,Rh,Oh,λt ht b xs=>?_,λd e s P row hd he hp=>?_⟩
 ·unfold fW HN;rw[ZT,ZT,ZT,ZT,ZT,ZT,ZW,a3 t ht]
 ·match d,e,hd,he with
  | [d0,d1,d2,d3,d4,d5,d6,d7],[e0,e1,e2,e3,e4,e5,e6,e7],_,_=>
   cases s with
   |false=>exact Q7 hp
   |true=>exact Q8 hp
theorem LC:eW=(aI (bj 7 (wq 4 0 bX (af (ah 1) (af (ah 2) (af (aP (af (ah 6) (af (gC (.int 0)) (af (gC (.int 0)) aq)))) aq)))))
 (aI (bj 8 ye)
 (aI (kE (gB (aG (jf not) (fh 2 dk (af (ah 3) (af (ah 7) aq))) (bT (af (ah 8) aq)))) (bB (gC (.bl false))) bM)
 (lj (gM "list" 5 iY (af (fh 2 bI (af (ah 3) (af (ah 7) aq))) aq)))))):=rfl
theorem LD {t:Jy}{b:Nat}{xs:List Int}:fW m t b xs≠[]:=by unfold fW;exact List.cons_ne_nil _ _
theorem LF (T:t6 m n)(hm:m<=1000){t:Jy}(ht:t∈iR n){b:Nat}(hb:b∈[0,1]){s:U}(h:wt s){sn:List U}(hl:sn.length<1000){y7 y8:Option U} :
  ∃s' z7 z8,eW [some s,some (.int m),some (gm t),some (PL m t),y4,some (.lst sn),some (.int (b:Nat)),y7,y8]=.nx [some s',some (.int m),some (gm t),some (PL m t),y4,some (.lst (sn++[zP])),some (.int (b:Nat)),z7,z8]/\wt s':=by
 obtain⟨xs,s',e1,hx,hs⟩:=FG (nu:=gm t) (bi:=wd b) (R:=dW t b) h hm λxs hx s=>T.row t ht b hb xs hx s;have e2:=T.due t ht b hb xs hx (some s') (some (.int m)) (some (PL m t)) y4 (some (.lst sn)) y8;have hg:=T.gn _ _ _ _ _ (T.len t ht b xs) (T.len t ht b xs) (T.path t ht b hb xs hx);rw[ite_self] at hg;have e3:=LA LD rfl hg;have e4:=LB hg;have ap:iY (.lst sn) [zP]=.ok (.non,.lst (sn++[zP])):=by
  unfold iY;dsimp only;exact hV (by rw[abG];lia)
 have l3:(3:Nat)<=ZY:=by decide
 have l1:(1:Nat)<=ZY:=by decide
 refine⟨s',some (dW t b xs),some (bq (fW m t b xs)),?_,hs⟩;unfold wd at e1;rw[LC];simp only[Pzz,jR,Nat.reduceAdd,Nat.reduceSub,e1,e2,e3,e4,HJ,ap]
noncomputable def WB:Ev->SR:=(pf 5 (bB (aG (jf id) (d_ (cy (ah 5)) [none,some 5] (cb 0) (gB (aG (jf not) (ah 0) (aG bW (ah 1) (gC (.int 0))))) (ah 0)) (bT aq))))
theorem Oi:jF=(aI (bj 2 (wq 3 0 cA (af (ah 1) (af (gC (.int 3)) aq))))
 (aI (bj 3 (fh 4 fG (af (ah 1) (af (aG bW (ah 2) (gC (.int 0))) (af (aG bW (ah 2) (gC (.int 1))) (af (aG bW (ah 2) (gC (.int 2))) aq))))))
 (aI (bj 4 (fh 3 (cQ 6) (af (ah 3) (af (ah 1) (af (gC (.bl true)) aq)))))
 (aI (kE (CI (gB (aG (lL id) (ah 4) (gC .non))) (CI (gB (aG GX (aG bW (ah 4) (gC (.int 0))) (gC (.int 5)))) (gB (aG GX (aG bW (ah 4) (gC (.int 1))) (gC (.int 3)))))) (bB (gC (.bl false))) bM)
 (aI (bj 5 (bT aq))
 (aI (jk (cy (bT (af (gC (.int 0)) (af (gC (.int 1)) (af (gC (.int 0)) (af (gC (.int 1)) (af (gC (.int 1)) (af (gC (.int 0)) aq)))))))) (cb 6) eW) WB)))))):=rfl
theorem Oj {os:List Int}(h:os.length=3):∃a b c,os=[a,b,c]:=by
 match os,h with
 | [a,b,c],_=>exact⟨a,b,c,rfl⟩
theorem su (T:t6 m n)(hn:(m:Int) / 2=n)(h3:3<=n)(hm:m<=100)(JG:n<=1000){s:U}(h:wt s):∃s',dI [s,.int m]=.ok (.bl true,s')/\wt s':=by
 obtain⟨os,s1,e1,ho,nd,hb,hs1⟩:=HK (c:=3) h hn JG h3 hm;obtain⟨a,b,c,rfl⟩:=Oj ho;obtain⟨a,rfl⟩:∃k:Nat,a=k:=⟨a.toNat,by have:=(hb a (by simp)).1;lia⟩;obtain⟨b,rfl⟩:∃k:Nat,b=k:=⟨b.toNat,by have:=(hb b (by simp)).1;lia⟩;obtain⟨c,rfl⟩:∃k:Nat,c=k:=⟨c.toNat,by have:=(hb c (by simp)).1;lia⟩;have ht:(a,b,c)∈iR n:=by
  have:=(hb a (by simp)).2;have:=(hb b (by simp)).2;have:=(hb c (by simp)).2;simp only[aa4,Z4,acb,or_false,not_or] at nd;obtain⟨⟨n1,n2⟩,n3,_⟩:=nd;exact HG (by lia) (by lia) (by lia) (λe=>n1 (by rw[e])) (λe=>n2 (by rw[e])) (λe=>n3 (by rw[e]))
 replace e1:cA [s,.int m,.int 3]=.ok (.lst [.int a,.int b,.int c],s1):=e1
 have e2:=T.cop _ ht;have e3:=T.snd _ ht;obtain⟨ρ,e4,s2,y6,y7,y8,rfl,cV⟩:=ug (us:=[.int 0,.int 1,.int 0,.int 1,.int 1,.int 0]) (sg:=cb 6) (s:=eW) (λi ρ=>∃s y6 y7 y8,ρ=[some s,some (.int m),some (gm (a,b,c)),some (PL m (a,b,c)),some (.tup [.int 4,.int 3]),some (.lst (ad5 i zP)),y6,y7,y8]/\wt s)
  (λi u ρ hu h00=>by
   obtain⟨s,y6,y7,y8,hr,hs⟩:=h00;subst hr;have hi:i<6:=(Z0.mp hu).1;obtain⟨b',tF,rfl⟩:∃b'∈[0,1],u=.int (b':Nat):=by
    have hm:=aaV hu;simp only[Z4,acb,or_false] at hm;rcases hm with rfl|rfl|rfl|rfl|rfl|rfl
    all_goals first|exact⟨0,by simp,rfl⟩|exact⟨1,by simp,rfl⟩
   obtain⟨s',z7,z8,q,hs'⟩:=LF T (by lia) ht tF hs (sn:=ad5 i zP) (by rw[acQ];lia) (y4:=some (.tup [.int 4,.int 3])) (y7:=y7) (y8:=y8);rw[←List.replicate_succ'] at q;exact⟨_,_,rfl,.inl q,_,_,_,_,rfl,hs'⟩)
  (ρ:=[some s1,some (.int m),some (gm (a,b,c)),some (PL m (a,b,c)),some (.tup [.int 4,.int 3]),some (.lst []),none,none,none]) ⟨_,_,_,_,rfl,hs1⟩
 have hE:∀s y1 y2 y3 y4 y6 y7 y8,pd (WB [some s,y1,y2,y3,y4,some (.lst (ad5 6 zP)),y6,y7,y8])=.ok (.bl true,s):=by intros;kernel_rfl
 refine⟨s2,?_,cV⟩;unfold gm at e4;unfold dI;rw[Oi];have g4:decide ((4:Int)>5)=false:=by decide
 have g3:decide ((3:Int)>3)=false:=by decide
 have iN:Ao (.tup [.int 4,.int 3])=false:=rfl;simp only[Pzz,jR,Nat.reduceAdd,Nat.reduceSub,e1,e2,e3,iN,id,g4,g3,e4];exact hE _ _ _ _ _ _ _ _
theorem Ol {x2 x3:Option U}:∃a b:Option U,vP [some (.scr (ns.map .int)),some (.int i),x2,x3]=.nx [some (.scr (ns.map .int)),some (.int i),a,b]:=by
 obtain⟨s0,e0,h0⟩:=FC (us:=[]) (u:=.scr (ns.map .int)) (ns:=ns) (k:=i) (.inl rfl) (by lia);have rt:∀r:Int,0<=r->r<3->∀s,wt s->∃s',dI [s,.int (6+r)]=.ok (.bl true,s')/\wt s':=λr r0 r1 s hs=>by
  obtain⟨k,rfl⟩:∃k:Nat,r=k:=⟨r.toNat,by lia⟩
  match k,r1 with
  |0,_=>exact su Ra (by decide) (by decide) (by decide) (by decide) hs
  |1,_=>exact su Rf (by decide) (by decide) (by decide) (by decide) hs
  |2,_=>exact su Ri (by decide) (by decide) (by decide) (by decide) hs
  |k+3,h=>lia
 obtain⟨r,s1,e1,r0,r1,h1⟩:=pY (m:=3) h0 (by decide) (by decide);obtain⟨s2,e2,h2⟩:=rt r r0 r1 s1 h1;obtain⟨q,s3,e3,q0,q1,h3⟩:=pY (m:=3) h2 (by decide) (by decide);obtain⟨s4,e4,h4⟩:=rt q q0 q1 s3 h3;obtain⟨s5,e5,h5⟩:=rt r r0 r1 s4 h4;refine⟨some s5,some (.int (6+r)),?_⟩;unfold vP;simp only[Pzz,jR,Nat.reduceAdd,Nat.reduceSub,e0,e1,e2,e3,e4,e5]
theorem pure_law (ns:List Int)(hl:ns.length<=63):x_ [.scr (ns.map .int)]=.ok (.bl true):=by
 obtain⟨z,hz⟩:∃z:Nat,(if (if (3:Int)<(((ns.map U.int).length:Nat):Int) then 3 else (((ns.map U.int).length:Nat):Int))>1 then (if (3:Int)<(((ns.map U.int).length:Nat):Int) then 3 else (((ns.map U.int).length:Nat):Int)) else 1)=z:=⟨(if (if (3:Int)<(((ns.map U.int).length:Nat):Int) then 3 else (((ns.map U.int).length:Nat):Int))>1 then (if (3:Int)<(((ns.map U.int).length:Nat):Int) then 3 else (((ns.map U.int).length:Nat):Int)) else 1).toNat,by split<;>(try split)<;>lia⟩;have zb:z<=1000:=by split at hz<;>(try split at hz)<;>lia
 obtain⟨ρ',e,a,b,c,rfl⟩:=ug (us:=cz 0 z) (sg:=cb 1) (s:=vP) (λ_ ρ=>∃a b c:Option U,ρ=[some (.scr (ns.map .int)),a,b,c])
  (λi u ρ hu h00=>by
   obtain⟨a,b,c,hr⟩:=h00;subst hr;have hi:i<z:=by
    rcases acV i z with y|y
    ·exact y
    ·rw[abo.mpr (by rw[gc];exact y)] at hu;cases hu
   obtain rfl:u=.int i:=by
    rw[xl] at hu;unfold iy at hu;rw[abC,aay,adt hi] at hu;cases hu;rfl
   obtain⟨a1,b1,q⟩:=Ol (ns:=ns) (i:=i) (x2:=b) (x3:=c);exact⟨_,_,rfl,.inl q,_,_,_,rfl⟩)
  (ρ:=[some (.scr (ns.map .int)),none,none,none]) ⟨_,_,_,rfl⟩
 unfold x_ Fz;simp only[Pzz,jR,Nat.reduceAdd,Nat.reduceSub,hz,zm z (by lia),e]
theorem walk {q:ack}{d:DefRec}{K:Params->ZQ}(Ou:d.params.defaults=[])(hY:∀(w:acJ) (h:acj),YP w h->(K w.params).In h)(F:∀(w:acJ) (mg:Str->Option ZO) (fa:Z5) (h:acj),(K w.params).In h->h.Ns aab mg->mg d.name=some (.ref fa)->
   ∃fd:aeh,(∀(s:Z8) (u:ZO),BindsTo s fd ⟨[u],[]⟩ [("script",u)])/\∀base:acj,(K w.params).In base->base.Ns aab mg->kW PySem.Challenge.rw_hushcards_k54_told_twice.prog w (K w.params) mg base wF 12 fa fd ["script"] (wX (K w.params))) :
  PySem.W.WalkO q loose XP YP PySem.Challenge.rw_hushcards_k54_told_twice.row.toRowW d [] (λf vs=>PySem.call f vs):=
 L2.walk_of (l:=PySem.Challenge.rw_hushcards_k54_told_twice) (n:=63) (k:=12) (x:="script") (CX:=λ_=>wF) (sp:=λw=>wX (K w.params)) rfl (by decide) Ou ⟨rfl,by decide,by decide⟩ hY F (λ_ _ a ns hl hO hS=>⟨a,ns,rfl,KL hO hS,hl,λ_=>rfl⟩) λ_ _ _ _ _ z=>z
end Hc
open PySem PySem.W PyProof.Rows
set_option maxRecDepth 100000 in
set_option maxHeartbeats 0 in
theorem PySem.Challenge.cw_hushcards_k54_told_twice_holds : PySem.Challenge.rw_hushcards_k54_told_twice.Holds := by
 w_on
 refine PySem.W.holds_law (by decide+kernel) λWa=>?_;refine' PySem.W.holds_open Hc.left (PySem.W.Hook.of _) (PySem.W.Hook.keeps _) (XP:=PySem.W.XL Hc.vw [])
  (λs e=>PySem.W.xl_of s (Bool.and_eq_true_iff.mp e).1) PySem.W.XL.keeps ?d ?t ?k
  (λs e=>PySem.W.recFacts_of (Bool.and_eq_true_iff.mp e).2) ?w Wa ?g ⟨rfl,rfl,rfl,rfl,rfl,by decide+kernel⟩ ?hw ?hc
 case d=>rfl
 case t=>rfl
 case k=>rfl
 case w=>rfl
 case g=>decide+kernel
 case hw=>w_witness2
 show PySem.W.WalkO Hc.vw [] (PySem.W.XL Hc.vw []) (PySem.W.InK Hc.Kf) _ _ _ _
 k_fill
 refine Hc.walk rfl (λw h Y=>Y) ?F
 case F=>
  intro w mg fa h KX G Ov;refine' Hc.all_mk KX G Ov ?a0 ?l0 ?c0 ?k0 ?a1 ?l1 ?c1 ?k1 ?a2 ?l2 ?c2 ?k2 ?a3 ?l3 ?c3 ?k3 ?a4 ?l4 ?c4 ?k4 ?a5 ?l5 ?c5 ?k5 ?a6 ?l6 ?c6 ?k6 ?a7 ?l7 ?c7 ?k7 ?a8 ?l8 ?c8 ?k8 ?a9 ?l9 ?c9 ?k9 ?R9 ?R_ ?Sa ?Sb ?Sm ?Sn ?So ?Sq ?SF ?SG ?SH ?SJ ?SX ?SY ?S0 ?L7 ?S_ ?Ta ?Tb ?Tc ?Tp ?Tq ?Tr ?Tt ?TJ ?TL ?TM ?TN ?T4 ?T5 ?T6 ?T7 ?Uh ?Ui ?Uj ?Uk ?Uv ?Uw ?Ux ?Uy ?UJ ?UK ?UL ?UM ?UX ?UY ?UZ ?U0 ?U_ ?Va ?Vb ?Vc ?Vm ?Vn ?Vo ?Vp ?Vz ?VA ?VB ?VC ?VN ?VO ?VP ?VQ ?V2 ?V3 ?V4 ?V5 ?PZ ?P0 ?P2 ?P4 ?ziq ?zfq ?zeq ?zlq ?zgq ?zcq ?zkq ?zbq ?zjq ?zdq ?zhq ?zaq Hc.pure_law
  (case a0=>k_is)
  (case l0=>k_is)
  (case c0=>k_is)
  (case k0=>k_is)
  (case a1=>k_is)
  (case l1=>k_is)
  (case c1=>k_is)
  (case k1=>k_is)
  (case a2=>k_is)
  (case l2=>k_is)
  (case c2=>k_is)
  (case k2=>k_is)
  (case a3=>k_is)
  (case l3=>k_is)
  (case c3=>k_is)
  (case k3=>k_is)
  (case a4=>k_is)
  (case l4=>k_is)
  (case c4=>k_is)
  (case k4=>k_is)
  (case a5=>k_is)
  (case l5=>k_is)
  (case c5=>k_is)
  (case k5=>k_is)
  (case a6=>k_is)
  (case l6=>k_is)
  (case c6=>k_is)
  (case k6=>k_is)
  (case a7=>k_is)
  (case l7=>k_is)
  (case c7=>k_is)
  (case k7=>k_is)
  (case a8=>k_is)
  (case l8=>k_is)
  (case c8=>k_is)
  (case k8=>k_is)
  (case a9=>k_is)
  (case l9=>k_is)
  (case c9=>k_is)
  (case k9=>k_is)
  (case R9=>k_is)
  (case R_=>k_is)
  (case Sa=>k_is)
  (case Sb=>k_is)
  (case Sm=>k_is)
  (case Sn=>k_is)
  (case So=>k_is)
  (case Sq=>k_is)
  (case SF=>k_is)
  (case SG=>k_is)
  (case SH=>k_is)
  (case SJ=>k_is)
  (case SX=>k_is)
  (case SY=>k_is)
  (case S0=>k_is)
  (case L7=>k_is)
  (case S_=>k_is)
  (case Ta=>k_is)
  (case Tb=>k_is)
  (case Tc=>k_is)
  (case Tp=>k_is)
  (case Tq=>k_is)
  (case Tr=>k_is)
  (case Tt=>k_is)
  (case TJ=>k_is)
  (case TL=>k_is)
  (case TM=>k_is)
  (case TN=>k_is)
  (case T4=>k_is)
  (case T5=>k_is)
  (case T6=>k_is)
  (case T7=>k_is)
  (case Uh=>k_is)
  (case Ui=>k_is)
  (case Uj=>k_is)
  (case Uk=>k_is)
  (case Uv=>k_is)
  (case Uw=>k_is)
  (case Ux=>k_is)
  (case Uy=>k_is)
  (case UJ=>k_is)
  (case UK=>k_is)
  (case UL=>k_is)
  (case UM=>k_is)
  (case UX=>k_is)
  (case UY=>k_is)
  (case UZ=>k_is)
  (case U0=>k_is)
  (case U_=>k_is)
  (case Va=>k_is)
  (case Vb=>k_is)
  (case Vc=>k_is)
  (case Vm=>k_is)
  (case Vn=>k_is)
  (case Vo=>k_is)
  (case Vp=>k_is)
  (case Vz=>k_is)
  (case VA=>k_is)
  (case VB=>k_is)
  (case VC=>k_is)
  (case VN=>k_is)
  (case VO=>k_is)
  (case VP=>k_is)
  (case VQ=>k_is)
  (case V2=>k_is)
  (case V3=>k_is)
  (case V4=>k_is)
  (case V5=>k_is)
  (case PZ=>k_is)
  (case P0=>k_is)
  (case P2=>k_is)
  (case P4=>k_is)
  (case ziq=>k_is)
  (case zfq=>k_is)
  (case zeq=>k_is)
  (case zlq=>k_is)
  (case zgq=>k_is)
  (case zcq=>k_is)
  (case zkq=>k_is)
  (case zbq=>k_is)
  (case zjq=>k_is)
  (case zdq=>k_is)
  (case zhq=>k_is)
  (case zaq=>k_is)