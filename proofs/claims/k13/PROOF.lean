import PyProof.Rows.All
import Wide.All
import OpenK.AllK
import Wide.FinOn
import Lean
import PyProof.EqAt
import PyProof.EqKinds
import PyProof.TupleCall
import PyProof.NeKinds
import PyProof.TupleKey
import PyProof.DictRoadsH
import PyProof.Rows.SetFrom
import PyProof.WalksMore
import PyProof.SetRoads
import PyProof.ListMulRoad
import PyProof.FactsAll.subtypes_4
import PyProof.Rows.ListMulArg
import PyProof.ZipIter
import KE.KTryMore
import PyProof.Rows.TopTwo
import PyProof.NsDelKeeps
import KE.RegKTryMore
import KE.RegKIsAll
import PyProof.Rows.SortRuns
import PyProof.Rows.SortKey
import PyProof.Rows.SortShell
import PyProof.Rows.SortWalk
import KE.KSortTup
import PyProof.DictItems
import PyProof.DictValues
import PyProof.DictWalks
import PyProof.FactsAll.dict_itemiterator
import KE.KDictList
import KE.KEqDict
import PyProof.AttrMissHeap
import KE.KDictOf
import PyProof.AutoListH
import PyProof.SumWalk
import PySem.Challenge.RW_hushcards_k13_two_shuffles
set_option Elab.async false
set_option linter.all false
set_option maxRecDepth 100000
set_option maxHeartbeats 4000000
open PySem renaming wpAny_bind->Yo,wpAny_pure->Yr,Value->Yv,sizeLine->Yx,starEach->YF,Shared->YK,Addr->YM,mainGlobals->YQ,wpAny->YR,wpAny_newObj_type->Y6,model->Y7,wpAny_call_entry->Y8,mem_of_lookup->Zn,wpAny_callSpecial?_slot->Zo,bootBuiltins->Zr,Around->Zw,wpAny_mono->ZI,wpAny_dictEntries->ZK,wpAny_holding->ZL,wpAny_setField_rec->ZO,sysModules->ZQ,wpAny_field->ZS,wpAny_dictEpoch->aaf,bindArgs->aag,sizeLine_eq->aaq,Expr->aav,wpAny_seqItems->aaA,wpAny_attempt->aaB,wpAny_typeNameOfWhole_itemiter->aaH,wpAny_typeNameOfWhole_keyiter->aaN,wpAny_typeNameOfWhole_valiter->aaO,backTo->aaQ,wpAny_rule->aaU,Program->aa1,wpAny_notOrdered_dict->aa7,firstArgMember->aba,wpAny_typeNameOf_itemiter->abc,wpAny_truthy_bool->abe,wpAny_passesOwn->abf,foldedSetIterable->abg,codeAny_builtin->abh,wpAny_typeNameOf_keyiter->abi,wpAny_typeNameOf_valiter->abj,cLine->abp,Heap->abr,wpAny_isInstance->abx,assignEach->abz,wpAny_setField->abB,IsItemIter->abC,eval->abE,Paired->abH,binaryOp->abI,wpAny_Call_Name_kw->abJ,compareOp->abL,behindInMarks->abR,IsPair->abX,rawInt->ab2,wpAny_fieldsOf->ab6,FuncData->ab7,pyNext->acf,codeAny_mono->acg,World->ack,wpAny_execs_nil->acm,wpAny_isOneOf_itemiter->acD,wpAny_pyIter_list->acE,sliceBounds->acH,call_meets->acI,wpAny_Call_method->acL,wpAny_of_eq->acM,wpAny_pyIter_slot->acN,wpAny_typeOf->acT,wpAny_isOneOf_valiter->acY,wpAny_updateSeq_pair->ac7,codeAny_call_builtin->ac8,attributeBase->ac9,strLen_append->ada,Stmt->adh,holding->adi,swapsWith->adj,letOwnedTupleGo->adk,getItem->adm,wpAny_specialOf->adp,unsupported->adt,tupleKind_room_in1->adK,recursionLimit->adT,codeAny->adU,Keyword->adV,isSubtype_stop->adX,seqIndex?->ad8,wpAny_collect_seq->ad9,NameKind->aef,DictEntry->aeg,PassesOwn->aeh
open List renaming length_map->Yp,getElem?_eq_getElem->Ys,length_append->Yu,map_cons->Yw,size_toArray->YB,getElem?_eq_some_iff->YD,getElem?_map->YH,length_take->YJ,length_cons->YN,mem_cons_self->YO,mem_cons_of_mem->YS,mem_cons->YU,append_assoc->YW,getElem_mem->YX,length_drop->Y1,map_append->Y2,mem_append->Y4,mem_map->Y9,take_succ_eq_append_getElem->Y_,mem_append_right->Za,append_nil->Zb,map_map->Zc,getElem?_set_ne->Zf,replicate->Zh,flatten_cons->Zk,mem_singleton->Zt,map_congr_left->Zv,take_append_drop->Zz,range->ZA,mem_map_of_mem->ZG,sum_cons->ZH,mem_of_mem_take->ZJ,map_nil->ZM,all_eq_true->ZN,perm_append_comm->ZP,getElem?_append_right->ZR,eq_nil_of_length_eq_zero->ZT,take_length->ZU,mem_of_mem_drop->ZW,all_cons->ZX,length_singleton->Z0,length_range->Z2,mem_of_getElem?->Z4,getElem?_append_left->Z7,length_set->Z8,find?_cons->Z9,getElem?_eq_none_iff->aab,drop_eq_getElem_cons->aac,replicate_succ->aah,length_replicate->aaj,getElem?_cons_succ->aar,mem_append_left->aat,lookup_cons->aau,take_of_length_le->aaw,nodup_cons->aaD,nil_append->aaE,mem_nil_iff->aaL,zipWith->aaT,flatten_append->aaW,length_pos_iff->aaX,zipWith_cons_cons->aaZ,getD_eq_getElem?_getD->aa3,set_cons_zero->aa6,extract_eq_take_drop->abb,mem_iff_getElem->abd,flatMap_cons->abn,length_zipWith->abw,drop_length->aby,nodup_nil->abA,getElem?_set_self->abD,drop_eq_nil_of_le->abF,pairwise_cons->abK,length_nil->abO,getElem_take->abU,pairwise_iff_getElem->ab5,cons_append->ab8,filterMap_cons->ab_,reverse_append->aca,getElem?_replicate->aco,getElem?_take->acu,foldl_cons->acv,set_cons_succ->acw,foldl_append->acQ,drop_zero->acR,getElem?_eq_none->acV,not_mem_nil->ac3,map_take->adf,map_drop->adg,of_mem_zip->adl,forIn_cons->adq,flatMap_append->adx,mem_filterMap->adG,getElem?_drop->adN,zip_cons_cons->adP,mem_range->adQ,drop_drop->ad0,getElem?_take_of_lt->ad7,ext_getElem?->ad_,nodup_append->aea,pairwise_map->aed
open Bool renaming false_ne_true->Yq,and_eq_true->YG,false_eq_true->ZE,eq_iff_iff->aap,or_eq_true->aaV,not_true->abT,or_eq_false_iff->abZ,eq_false_iff->acJ,false_and->adS,not_eq_true'->aec
open PySem.Heap renaming get?_push_of_some->Yt,get?_push_size->YA,lt_size->YE,SameBut->aaC,size_push->aa_,get?_update_self->abN
open PySem.W renaming Frag->Yy,fnOf->YI,nsIn->YT,keepIn->Y3,mg_of->Y5,codeIn->Ze,mg_none_of->Zu,kia_one->ZZ,kitOne->aan,kia_tup->aaF,findIn->aa8,cellsFrom_some->acz,kitx_list->acF,kitx_dict->acG,callWith_K->adI,kitAny->adY,methodObj->ad5,specialIn->ad6
open Array renaming length_toList->Yz,getElem?_toList->Zj,toList_append->ZF,getElem?_eq_getElem->aaa,getElem?_eq_none->abG,toList_push->abV,toList_extract->ab0,toList_reverse->ab1,toList_setIfInBounds->adB,perm_iff_toList_perm->adC
open Nat renaming le_refl->YC,ne_of_lt->Y0,le_trans->Zd,lt_of_lt_of_le->Zi,min_eq_left->aad,add_sub_cancel_left->aas,lt_irrefl->aaz,le_add_right->aaM,ne_of_gt->abq,add_assoc->abu,zero_add->abQ,le_of_lt->ace,lt_or_ge->acj,lt_of_le_of_lt->acq,lt_succ_of_lt->acK,add_le_add->acS,gcd->ac4,add_sub_cancel->adO,mul_le_mul->ad4
open PyProof.Rows renaming wpS_bind->YL,wpS_pure->YV,Keyed->YY,SortSt->YZ,pendingOf->Zl,arrOf->Zq,kindOf->ZY,wpS_forRange->Z1,slot_tuple_getitem->aax,envOfC->aa0,wpS_mono->aa5,callWith_type1->abM,evalArgs_none->abY,failedOf->ab9,wpS_modify->aci,SortKind->acs,reverseSlice'->adb,IntsAre->adn,assignInOrder_cons->adF,seqObj->adL,gallopOf->adM,AllBare->adR,elem'->adZ,KeyOrd->aei
open Option.some renaming inj->Zg
open PyProof.Rows.KeyOrd renaming kle_trans->Zm,kle_of_klt->ZD,kle_refl->aae
open PySem.PassesOwn renaming never->Zs
open PySem.Builtin.SmallTypes renaming nextOf->Zx,ownedTupleIsFree->aai,ownedTupleHandOut->ab4
open PySem.Builtin.Dict_items renaming ownsTuple->Zy,ownedTupleFields->acb,ownedTupleIsFree->acd,pairFromOwner->acy,newIterator->acX,dictOf->ad1
open Int renaming toNat_natCast->ZC,emod_lt_of_pos->aaK,emod_nonneg->abo
open False renaming elim->ZV
open PySem.F renaming plainAttrs_list->Z3,slot_dict_valueiterator_next->aaG,slot_dict_itemiterator_next->aaP,slot_dict_keyiterator_next->aaS,slot_tuple_iterator_next->aa2,slot_dict_values->abk,slot_list_extend->abl,type_list_extend->abm,plainAttrs_dict->abv,slot_dict_get->abP,args_tuple_add_2->ach,entry_tuple_add->acp,args_dict_get_3->acr,args_dict_valueiterator_next_1->acx,slot_tuple_add->acA,entry_dict_get->acC,entry_dict_valueiterator_next->acO,args_dict_itemiterator_next_1->acP,args_dict_keyiterator_next_1->acW,entry_dict_itemiterator_next->acZ,entry_dict_keyiterator_next->ac1,slot_dict_itemiterator_iter->ac2,args_list_extend_2->ac6,args_tuple_iterator_next_1->ac_,entry_list_extend->ado,entry_tuple_iterator_next->adu,slot_zip_next->adw,args_dict_values_1->adD,slot_list_extend->adJ,entry_dict_values->ad2,type_dict_values->aee
open PySem.Str renaming ofString->Z5
open List.Perm renaming append_right->Z6,append_left->aal,refl->aao
open PySem.Builtin.Tuple renaming tupleHashOf->Z_,tupleExact->aak,tupleItemsOf->abW,tupleIsExact->adA
open PySem.Builtin.Dict renaming showsAll->aam,dictSlotArgs->ad3
open PySem.Heap.SameBut renaming update->aay
open Option renaming isSome_iff_exists->aaI,map_eq_some_iff->acB,getD_none->ac0
open PySem.Builtin.List renaming listTooLong->aaJ,listExtendWith->ads
open PySem.Around renaming under_plainId->aaR
open PySem.Calls renaming callWith_builtin->aaY,evalArgs_plain->ac5,Name_function_global->ady,Constant_str->adE,spliced_cons->adH,call_function_entry->adW
open PySem.Obj renaming data_mapFields->aa4,mapSeq->abS,isFreed_of_fields->acU,mapFields->ade,cls_mapFields->aeb
open PySem.Builtin.Slice renaming slicePlaces->aa9,sliceAdjust->ab3,sliceApplied->adz
open PySem.Paired renaming length->abt
open PySem.Builtin.Range renaming rangeSize->acn
open PySem.SeqAt renaming EqAt->aej
open PySem PySem.Spec PyProof.Rows
variable {a b it f p C z i1 i2 a1 a2:YM}{o T ra rb S:List YY}{P prog:aa1}{w:ack}{h base h':abr}{g':Array GenState}{t' i j k n g m kt bc ep:Nat}{ch fp:List YM}{x qual:Str}{N ps loose:List Str}{M:Model}{A:YM→Prop}{E Q:Yv→YK→Prop}{s:YK}{pins:List (YM×Obj)}{pos p2 tp:Pos}{op:CmpOp}{K:Yy}{st:adh}{c tg iter:aav}{body:List adh}{l:List (List Int)}{hi:Option Int}{aq:List Yv}{mg:Str→Option Yv}{fd:ab7}{scope:Scope}{an od:Option YM}{osl:Array (Option Yv)}{ns:List Int}{ys:Array Yv}{q:Yv}{XP:(Str→Option Yv)→abr→Prop}{YP:ack→abr→Prop}{env:Env}{js:List (Option Nat)}{xo elts:List aav}{l1 l2:Bool}{arr:Array YY}{ds:Array aeg}
namespace L2
noncomputable abbrev Key:=Sum Int Str
noncomputable def rG:Key→Yv→Bool
 | .inl k,v=>Value.isInt k v
 | .inr x,v=>Value.isStrOf x v
noncomputable def Qg (w:ack):Key→Int
 | .inl k=>hashInt k
 | .inr x=>hashStr w x
theorem cv:∀{k:Key} {v:Yv},rG k v=true→(∃i t,k=Sum.inl i∧v=Value.int i t)∨(∃x t,k=Sum.inr x∧v=Value.str x t)
 | .inl i,v,h=>by
  obtain⟨t,e⟩:=Value.isInt_shape (k:=i) (v:=v) h
  exact .inl ⟨i,t,rfl,e⟩
 | .inr x,v,h=>by
  obtain⟨t,e⟩:=Value.isStrOf_shape (x:=x) (v:=v) h
  exact .inr ⟨x,t,rfl,e⟩
theorem AN (i:Int)(t:Tok):rG (.inl i) (.int i t)=true:=by simp[rG,Value.isInt]
theorem AO (x:Str)(t:Tok):rG (.inr x) (.str x t)=true:=by simp[rG,Value.isStrOf]
theorem J0 (a b:Int):decide ((Sum.inl a:Key)=Sum.inl b)=(a==b):=by
 by_cases e:a=b
 ·subst e;simp
 ·have h:¬(Sum.inl a:Key)=Sum.inl b:=fun q=>e (Sum.inl.inj q)
  rw[decide_eq_false h]
  exact (beq_eq_false_iff_ne.mpr e).symm
theorem J2 (a b:Str):decide ((Sum.inr a:Key)=Sum.inr b)=decide (a=b):=by
 by_cases e:a=b
 ·subst e;simp
 ·have h:¬(Sum.inr a:Key)=Sum.inr b:=fun q=>e (Sum.inr.inj q)
  rw[decide_eq_false h,decide_eq_false e]
theorem J3 (a:Int)(b:Str):decide ((Sum.inl a:Key)=Sum.inr b)=false:=decide_eq_false (fun q=>nomatch q)
theorem J5 (a:Str)(b:Int):decide ((Sum.inr a:Key)=Sum.inl b)=false:=decide_eq_false (fun q=>nomatch q)
noncomputable def cJ (prog:aa1)(w:ack):PySem.KeyKind prog w Key where
 is:=rG
 hash:=Qg w
 inj:=fun v a b ha hb=>by
  rcases cv ha with⟨i,t,rfl,rfl⟩|⟨x,t,rfl,rfl⟩
  ·rcases cv hb with⟨j,u,rfl,e⟩|⟨y,u,rfl,e⟩
   ·injection e with e1 _;rw[e1]
   ·exact nomatch e
  ·rcases cv hb with⟨j,u,rfl,e⟩|⟨y,u,rfl,e⟩
   ·exact nomatch e
   ·injection e with e1 _;rw[e1]
 byValue:=fun k v h=>by
  rcases cv h with⟨i,t,rfl,rfl⟩|⟨x,t,rfl,rfl⟩<;>rfl
 pyHash:=fun hv h=>by
  rcases cv hv with⟨i,t,rfl,rfl⟩|⟨x,t,rfl,rfl⟩
  ·exact wpAny_pyHash_int h
  ·exact wpAny_pyHash_str h
 eqBool:=fun hu hv h=>by
  rcases cv hu with⟨i,t,rfl,rfl⟩|⟨x,t,rfl,rfl⟩
  ·rcases cv hv with⟨j,u,rfl,rfl⟩|⟨y,u,rfl,rfl⟩
   ·rw[J0] at h;exact wpAny_eqBool_int h
   ·rw[J3] at h;exact SeqAt.EqAt.int_str i t y u _ _ _ _ h
  ·rcases cv hv with⟨j,u,rfl,rfl⟩|⟨y,u,rfl,rfl⟩
   ·rw[J5] at h;exact SeqAt.EqAt.str_int x t j u _ _ _ _ h
   ·rw[J2] at h;exact wpAny_eqBool_str h
 «strs»:=fun k x t v h=>by
  rcases cv h with⟨i,u,rfl,e⟩|⟨y,u,rfl,e⟩
  ·exact nomatch e
  ·injection e with e1 _
   subst e1
   cases v<;>rfl
theorem vd (prog:aa1)(w:ack)(i:Int)(t:Tok):(cJ prog w).is (.inl i) (.int i t)=true:=AN i t
theorem vf (prog:aa1)(w:ack)(x:Str)(t:Tok):(cJ prog w).is (.inr x) (.str x t)=true:=AO x t
end L2
namespace L2
inductive V where
 |non|bl (b:Bool)|int (i:Int)|str (x:Str)|byt (b:Array UInt8)|flt (b:UInt64)|ref (a:YM)|ty (n:String)
 deriving DecidableEq
noncomputable def aO:V→Yv→Prop
 | .non,u=>u=Value.none
 | .bl b,u=>u=Value.bool b
 | .int i,u=>∃t,u=Value.int i t
 | .str x,u=>∃t,u=Value.str x t
 | .byt b,u=>∃t,u=Value.bytes b t
 | .flt b,u=>∃t,u=Value.float b t
 | .ref a,u=>u=Value.ref a
 | .ty n,u=>u=Value.type n
noncomputable abbrev aQ:List V→List Yv→Prop:=abH aO
theorem aQ.length {xs:List V}{us:List Yv}(r:aQ xs us):xs.length=us.length:=abt r
theorem aQ.get:∀{xs:List V} {us:List Yv} {i:Nat} {x:V},aQ xs us→xs[i]? = some x→∃u,us[i]? = some u∧aO x u
 |_,_,_,_,.nil,e=>by simp at e
 |_,_,0,_,.cons r _,e=>by simp at e;subst e;exact⟨_,rfl,r⟩
 |_,_,i+1,x,.cons _ t,e=>by
  obtain⟨u,h1,h2⟩:=aQ.get (i:=i) (x:=x) t (by simpa using e)
  exact⟨u,by simpa using h1,h2⟩
theorem aQ.set {x:V}{u:Yv}(r:aO x u):∀{xs:List V} {us:List Yv} (i:Nat),aQ xs us→aQ (xs.set i x) (us.set i u)
 |_,_,_,.nil=>.nil
 |_,_,0,.cons _ t=>.cons r t
 |_,_,i+1,.cons q t=>.cons q (aQ.set r i t)
theorem aQ.append:∀{xs ys:List V} {us ws:List Yv},aQ xs us→aQ ys ws→aQ (xs++ys) (us++ws)
 |_,_,_,_,.nil,s=>s
 |_,_,_,_,.cons r t,s=>.cons r (aQ.append t s)
theorem aQ.take:∀{xs:List V} {us:List Yv} (n:Nat),aQ xs us→aQ (xs.take n) (us.take n)
 |_,_,0,_=>.nil
 |_,_,_+1,.nil=>.nil
 |_,_,n+1,.cons r t=>.cons r (aQ.take n t)
theorem aQ.drop:∀{xs:List V} {us:List Yv} (n:Nat),aQ xs us→aQ (xs.drop n) (us.drop n)
 |_,_,0,r=>r
 |_,_,_+1,.nil=>.nil
 |_,_,n+1,.cons _ t=>aQ.drop n t
noncomputable def j0:Option V→Option Yv→Prop
 |some v,some u=>aO v u
 |none,none=>True
 |_,_=>False
noncomputable def KV {κ:Type}:List (κ×V)→List (κ×Yv)→Prop:=abH fun (p:κ×V) (q:κ×Yv)=>p.1=q.1∧aO p.2 q.2
noncomputable def kV:Key→V
 | .inl i=>.int i
 | .inr x=>.str x
inductive HO where
 |lst (xs:List V)
 |tup (xs:List V)
 |dK (aJ:List (Key×V))|dT (aJ:List (List Key×V))
 |set (S:Int→Bool) (n:Nat)
 |ins (C dx:YM) (fs:List (Str×V))
 |own (x:YM)
 |xd (fs:List (Str×V))
 |met (f x:YM)
 |rng (lo hi:Int)
 |frz (o:Obj) (u:HO)
 |tbl (ps:Array Yv)
 |ext (φ:abr→Prop)
noncomputable abbrev Hp:=YM→Option HO
noncomputable def cm (H:Hp)(a:YM)(o:HO):Hp:=fun b=>if b=a then some o else H b
theorem aI {H:Hp}{o:HO}:cm H a o a=some o:=by unfold cm;rw[if_pos rfl]
theorem aD {H:Hp}{o:HO}(h:b≠a):cm H a o b=H b:=by unfold cm;rw[if_neg h]
theorem M8 {H:Hp}{o u:HO}(h:H a=some o)(h':H b=some u)(d:o≠u):a≠b:=by
 intro e;subst e;rw[h] at h';exact d (Zg h')
theorem ba {H:Hp}{o:HO}(h:H a=some o)(h':H b=none):a≠b:=by
 intro e;subst e;rw[h] at h';cases h'
section
variable (P:aa1)(w:ack)
noncomputable def bo (H:Hp)(h:abr)(a:YM):HO→Prop
 | .lst xs=>xs.length≤Yx∧∃(aq:List Yv) (n:Nat),aQ xs aq∧h.get? a=some {cls:=.type "list",data:=.seq aq.toArray n}
 | .tup xs=>xs.length≤Yx∧∃aq:List Yv,aQ xs aq∧IsTup h a aq.toArray∧∃n,h.get? a=some {cls:=.type "tuple",data:=.seq aq.toArray n}
 | .dK aJ=>aJ.length≤Yx∧(a==ZQ)=false∧∃vs,KV aJ vs∧h.DictOf (cJ P w) a vs
 | .dT aJ=>aJ.length≤Yx∧(a==ZQ)=false∧∃xs:List (List Key×YM×Yv),
   abH (fun (p:List Key×V) (q:List Key×YM×Yv)=>p.1=q.1∧H q.2.1=some (.tup (p.1.map kV))∧aO p.2 q.2.2) aJ xs ∧
   ∃o es ep,h.get? a=some o∧o.ExactDict∧o.data=.dict es ep∧es.toList=xs.map (entryOfKey (tupleKind (cJ P w)))∧(xs.map (·.1)).Nodup
 | .set S n=>h.SetOf (intKind P w) a S n
 | .ins C dx fs=>H dx=some (.own a)∧fs.length≤1000∧dx≠a∧h.get? a=some (PySem.W.instObj C dx) ∧
   ∃mA,h.Ns1 dx mA∧(∀f,j0 (fs.lookup f) (mA f))∧PySem.Within mA (fs.map (·.1))
 | .own _=>∃o,h.get? a=some o
 | .xd fs=>∃mA,h.Ns1 a mA∧∀f,j0 (fs.lookup f) (mA f)
 | .rng lo hi=>∃t u v,h.get? a=some {cls:=.type "range",data:=.fields #[.int lo t,.int hi u,.int 1 v]}
 | .frz o u=>h.get? a=some o∧bo H h a u
 | .tbl ps=>h.get? a=some {cls:=.none,data:=.fields ps}
 | .met f x=>h.get? a=some (ad5 (.ref f) (.ref x))
 | .ext φ=>φ h∧(∃o,h.get? a=some o)∧∀h1 h2:abr,φ h1→(∀o,h1.get? a=some o→h2.get? a=some o)→φ h2
noncomputable def gT (H:Hp)(h:abr):Prop:=∀a o,H a=some o→bo P w H h a o
end
section
variable {H H':Hp}{o:HO}
theorem bo.lt (x:bo P w H h a o):a<h.objs.size:=by
 cases o with
 |lst xs=>obtain⟨_,_,_,_,e⟩:=x;exact YE e
 |tup xs=>obtain⟨_,_,_,p,_⟩:=x;exact p.lt
 |dK aJ=>obtain⟨_,_,_,_,o,_,_,e,_⟩:=x;exact YE e
 |dT aJ=>obtain⟨_,_,_,_,o,_,_,e,_⟩:=x;exact YE e
 |set S n=>obtain⟨o,_,_,_,e,_⟩:=x;exact YE e
 |ins C dx fs=>obtain⟨_,_,_,e,_⟩:=x;exact YE e
 |own y=>obtain⟨_,e⟩:=x;exact YE e
 |xd fs=>obtain⟨_,⟨_,_,_,e,_⟩,_⟩:=x;exact YE e
 |rng lo hi=>obtain⟨_,_,_,e⟩:=x;exact YE e
 |frz ob u=>obtain⟨e,_⟩:=x;exact YE e
 |tbl ps=>exact YE (show h.get? a=some _ from x)
 |met f y=>exact YE (show h.get? a=some _ from x)
 |ext φ=>obtain⟨_,⟨_,e⟩,_⟩:=x;exact YE e
theorem Paired.mapP {α β:Type}{F G:α→β→Prop}:∀{l₁:List α} {l₂:List β},abH F l₁ l₂→(∀a b,F a b→G a b)→abH G l₁ l₂
 |_,_,.nil,_=>.nil
 |_,_,.cons r t,f=>.cons (f _ _ r) (Paired.mapP t f)
theorem bo.stay (x:bo P w H h a o)(k:∀b u,(b=a∨H b=some (.own a))→h.get? b=some u→h'.get? b=some u)
  (ho:∀b,H b=some (.own a)→H' b=some (.own a)) (ht:∀b xs,H b=some (.tup xs)→H' b=some (.tup xs)):bo P w H' h' a o:=by
 induction o with
 |lst xs=>obtain⟨z,aq,n,r,e⟩:=x;exact⟨z,aq,n,r,k _ _ (.inl rfl) e⟩
 |tup xs=>obtain⟨z,aq,r,⟨ob,e,c⟩,n2,e2⟩:=x;exact⟨z,aq,r,⟨ob,k _ _ (.inl rfl) e,c⟩,n2,k _ _ (.inl rfl) e2⟩
 |dK aJ=>obtain⟨z,y,vs,r,ob,es,ep,e,c⟩:=x;exact⟨z,y,vs,r,ob,es,ep,k _ _ (.inl rfl) e,c⟩
 |dT aJ =>
  obtain⟨z,y,xs,r,ob,es,ep,e,c⟩:=x
  exact⟨z,y,xs,Paired.mapP r fun p q z=>⟨z.1,ht _ _ z.2.1,z.2.2⟩,ob,es,ep,k _ _ (.inl rfl) e,c⟩
 |set S n=>obtain⟨ob,es,ep,t,e,c⟩:=x;exact⟨ob,es,ep,t,k _ _ (.inl rfl) e,c⟩
 |ins C dx fs =>
  obtain⟨d,z,ne,e,mA,⟨od,es,ep,e2,c⟩,r⟩:=x
  exact⟨ho _ d,z,ne,k _ _ (.inl rfl) e,mA,⟨od,es,ep,k _ _ (.inr d) e2,c⟩,r⟩
 |own y=>obtain⟨ob,e⟩:=x;exact⟨ob,k _ _ (.inl rfl) e⟩
 |xd fs=>obtain⟨mA,⟨od,es,ep,e,c⟩,r⟩:=x;exact⟨mA,⟨od,es,ep,k _ _ (.inl rfl) e,c⟩,r⟩
 |rng lo hi=>obtain⟨t,u,v,e⟩:=x;exact⟨t,u,v,k _ _ (.inl rfl) e⟩
 |frz ob u ih=>obtain⟨e,q⟩:=x;exact⟨k _ _ (.inl rfl) e,ih q⟩
 |tbl ps =>
  have e:h.get? a=some {cls:=.none,data:=.fields ps}:=x
  show h'.get? a=some {cls:=.none,data:=.fields ps}
  exact k a _ (.inl rfl) e
 |met f y =>
  have e:h.get? a=some (ad5 (.ref f) (.ref y)):=x
  show h'.get? a=some (ad5 (.ref f) (.ref y))
  exact k a _ (.inl rfl) e
 |ext φ=>obtain⟨p,⟨o,e⟩,st⟩:=x;exact⟨st _ _ p fun o q=>k _ _ (.inl rfl) q,⟨o,k _ _ (.inl rfl) e⟩,st⟩
theorem gT.lt (x:gT P w H h)(e:H a=some o):a<h.objs.size:=(x a o e).lt
theorem gT.fresh (x:gT P w H h)(e:h.objs.size≤a):H a=none:=by
 cases q:H a with
 |none=>rfl
 |some u=>exact absurd (Zi (x.lt q) e) (aaz _)
theorem gT.kept (x:gT P w H h)(k:∀b u,h.get? b=some u→h'.get? b=some u):gT P w H h':=fun a o e =>
 (x a o e).stay (fun b u _ q=>k b u q) (fun _ q=>q) fun _ _ q=>q
theorem gT.laid (x:gT P w H h)(k:∀b u,h.get? b=some u→h'.get? b=some u)(hp:h.objs.size≤a)(new:bo P w (cm H a o) h' a o):gT P w (cm H a o) h':=fun b u e=>by
 have hn:=x.fresh hp
 by_cases hb:b=a
 ·subst hb;rw[aI] at e;cases e;exact new
 ·rw[aD hb] at e
  exact (x b u e).stay (fun c v _ q=>k c v q) (fun c q=>by rw[aD (ba q hn)];exact q) fun c xs q=>by rw[aD (ba q hn)];exact q
end
noncomputable def Rd (H:Hp)(a:YM)(u:HO):Prop:=H a=some u∨∃o,H a=some (.frz o u)
theorem Rd.ok {H:Hp}{u:HO}(r:Rd H a u)(x:gT P w H h):bo P w H h a u:=by
 rcases r with r|⟨o,r⟩
 ·exact x a u r
 ·obtain⟨_,q⟩:=x a _ r
  exact q
noncomputable def MN:Option HO→Prop
 |some (.lst _)=>True
 |some (.dK _)=>True
 |some (.dT _)=>True
 |some (.set _ _)=>True
 |some (.ins _ _ _)=>True
 |some (.ext _)=>True
 |_=>False
section
variable {H:Hp}{x e:YM}{o':HO}
theorem gT.write (ok:gT P w H h)(mu:MN (H x))(he:e=x∨H e=some (.own x))(k:∀b u,b≠e→h.get? b=some u→h'.get? b=some u)(MY:∃u,h'.get? e=some u)
  (new:bo P w (cm H x o') h' x o'):gT P w (cm H x o') h':=fun b u q=>by
 have ON:∀c y,H c=some (.own y)→c≠x:=fun c y r z=>by subst z;rw[r] at mu;exact mu
 have Rl:∀c xs,H c=some (.tup xs)→c≠x:=fun c xs r z=>by subst z;rw[r] at mu;exact mu
 by_cases hb:b=x
 ·subst hb;rw[aI] at q;cases q;exact new
 ·rw[aD hb] at q
  by_cases hbe:b=e
  ·have q':H b=some (.own x):=by
    rcases he with z|z
    ·exact absurd (hbe.trans z) hb
    ·rw[hbe];exact z
   rw[q] at q';cases q'
   obtain⟨v,hv⟩:=MY
   exact⟨v,by rw[hbe];exact hv⟩
  ·refine (ok b u q).stay (fun c v hc r=>k c v ?_ r) (fun c r=>by rw[aD (ON c b r)];exact r) fun c xs r=>by rw[aD (Rl c xs r)];exact r
   rcases hc with rfl|hc
   ·exact hbe
   ·rintro rfl
    rcases he with z|z
    ·exact ON c b hc z
    ·rw[hc] at z;cases z;exact hb rfl
end
structure Un (fs ex:List YM)(H H':Hp)(h h':abr):Prop where
 keep:∀b o,h.get? b=some o→H b=none→b∉fs→b∉ex→h'.get? b=some o
 slot:∀b o,h.get? b=some o→H b=none→b∈fs→b∉ex→∃sl,h'.get? b=some {o with slots:=sl}
 free:∀b o,h.get? b=some o→H b=none→b∉ex→H' b=none
 there:∀b o,h.get? b=some o→b∉ex→∃o',h'.get? b=some o'
 tups:∀b xs,H b=some (.tup xs)→H' b=some (.tup xs)
 frzs:∀b o u,H b=some (.frz o u)→H' b=some (.frz o u)
 tbls:∀b ps,H b=some (.tbl ps)→∃more,H' b=some (.tbl (ps++more))
section
variable {fs fs' ex ex':List YM}{H H1 H2:Hp}{h1 h2:abr}{x e:YM}{o:HO}
theorem Un.any (u:Un fs ex H H1 h h1){ob:Obj}(q:h.get? b=some ob)(n:H b=none)(hx:b∉ex):∃sl,h1.get? b=some {ob with slots:=sl}:=by
 by_cases hb:b∈fs
 ·exact u.slot b ob q n hb hx
 ·exact⟨ob.slots,u.keep b ob q n hb hx⟩
theorem Un.kept (k:∀b u,h.get? b=some u→h'.get? b=some u):Un fs ex H H h h' :=
 ⟨fun b ob q _ _ _=>k b ob q,fun b ob q _ _ _=>⟨ob.slots,k b ob q⟩,fun _ _ _ n _=>n,fun b ob q _=>⟨ob,k b ob q⟩,fun _ _ q=>q,fun _ _ _ q=>q,fun _ ps q=>⟨#[],by rw[q];simp⟩⟩
theorem Un.refl:Un fs ex H H h h:=Un.kept fun _ _ q=>q
theorem Un.laid (k:∀b u,h.get? b=some u→h'.get? b=some u)(hp:h.objs.size≤a)(hn:H a=none):Un fs ex H (cm H a o) h h' where
 keep:=fun b u q _ _ _=>k b u q
 slot:=fun b u q _ _ _=>⟨u.slots,k b u q⟩
 free:=fun b u q n _=>by rw[aD (Y0 (Zi (YE q) hp))];exact n
 there:=fun b u q _=>⟨u,k b u q⟩
 tups:=fun b xs q=>by rw[aD (ba q hn)];exact q
 frzs:=fun b u xs q=>by rw[aD (ba q hn)];exact q
 tbls:=fun b ps q=>⟨#[],by rw[aD (ba q hn),q];simp⟩
theorem Un.write (mu:MN (H x))(he:e=x∨H e=some (.own x))(k:∀b u,b≠e→h.get? b=some u→h'.get? b=some u)(MY:∃u,h'.get? e=some u):Un fs ex H (cm H x o) h h':=by
 have hx:∀b,H b=none→b≠x:=fun b n z=>by subst z;rw[n] at mu;exact mu
 have hb:∀b,H b=none→b≠e:=fun b n z=>by
  subst z
  rcases he with r|r
  ·exact hx b n r
  ·rw[n] at r;cases r
 have hm:∀b u,H b=some u→¬MN (some u)→b≠x:=fun b u q nm z=>by subst z;rw[q] at mu;exact nm mu
 refine⟨fun b u q n _ _=>k b u (hb b n) q,fun b u q n _ _=>⟨u.slots,k b u (hb b n) q⟩,fun b u q n _=>by rw[aD (hx b n)];exact n,fun b u q _ => ?_,
  fun b xs q=>by rw[aD (hm b _ q fun z=>z)];exact q,fun b u xs q=>by rw[aD (hm b _ q fun z=>z)];exact q,fun b ps q=>⟨#[],by rw[aD (hm b _ q fun z=>z),q];simp⟩⟩
 by_cases hbe:b=e
 ·subst hbe;exact MY
 ·exact⟨u,k b u hbe q⟩
end
noncomputable def Pr (h:abr)(H:Hp):List YM:=(ZA h.objs.size).filter fun a=>(H a).isSome
noncomputable def sT (h:abr)(H:Hp):abr:=PySem.W.hideAll h (Pr h H)
theorem AQ (h:abr)(H:Hp):(sT h H).objs.size=h.objs.size:=PySem.W.hideAll_size _ _
theorem Ci {H:Hp}{o:Obj}(e:h.get? b=some o)(n:H b=none):(sT h H).get? b=some o :=
 PySem.W.hideAll_get _ e fun hm=>by
  have q:(H b).isSome=true:=(List.mem_filter.mp hm).2
  rw[n] at q;simp at q
theorem FJ {H:Hp}{o:Obj}(e:(sT h H).get? b=some o):h.get? b=some o∧H b=none:=by
 have e':h.get? b=some o:=PySem.W.of_hideAll (Pr h H) e
 refine⟨e',?_⟩
 cases q:H b with
 |none=>rfl
 |some x =>
  have hm:b∈Pr h H:=List.mem_filter.mpr ⟨adQ.mpr (YE e'),by simp[q]⟩
  have z:(sT h H).get? b=none:=PySem.W.hideAll_none (Pr h H) hm
  rw[z] at e;cases e
end L2
variable {xs vs:List L2.V}{H H' H1 H2:L2.Hp}{v y:L2.V}{aJ:List (List L2.Key×L2.V)}
namespace L2
structure Mod (K:Yy)(mg:Str→Option Yv)(base:abr):Prop where
 kin:K.In base
 glob:base.Ns YQ mg
 blt:∃mb,base.Ns builtinsNs mb∧∀x:Str,x≠"__name__"→mb x=Zr x
 nolimit:base.NoLimit
structure Cx where
 prog:aa1
 w:ack
 K:Yy
 mg:Str→Option Yv
 base:abr
 A:Zw
 N:List Str
 s₀:YK
 H₀:Hp
 env:Env
 outer:List Env
 stack:List Env
 ex:List YM
 fn:Str→Bool
 calm:Bool
 pn:List (YM×Obj)
 xe:Yv→YK→Prop
noncomputable def oV (l:List Env):List YM:=l.filterMap (·.frame)
noncomputable abbrev Cx.fs (X:Cx):List YM:=oV X.outer
noncomputable def yZ (sc:Scope)(x:Str):Prop:=sc.names.lookup x=some .local∨sc.names.lookup x=some .cell∨sc.names.lookup x=some .free
noncomputable def Ic (sc:Scope)(x:Str):Prop:=sc.names.lookup x=some .local∨sc.names.lookup x=some .cell
noncomputable def Qh (env:Env)(h:abr)(m:Str→Option Yv)(x:Str)(u:Yv):Prop :=
 (env.kindOf x=some .local∧m x=some u)∨((env.kindOf x=some .cell∨env.kindOf x=some .free)∧∃c,env.cells.lookup x=some c∧h.IsCell c (some u))
structure Cx.Ok (X:Cx):Prop where
 mod:Mod X.K X.mg X.base
 kind:X.env.scope.kind=.function
 glob:X.env.globals=YQ
 blt:X.env.builtins=builtinsNs
 above:X.s₀.heap.objs.size≤X.env.locals
 inj:∀x y c,X.env.cells.lookup x=some c→X.env.cells.lookup y=some c→x=y
 has:∀x,(X.env.kindOf x=some .cell∨X.env.kindOf x=some .free)→∃c,X.env.cells.lookup x=some c
 cab:∀x c,X.fn x=true→X.env.cells.lookup x=some c→X.s₀.heap.objs.size≤c
 hd:X.calm=true→X.A.handled=none
 frames:X.A.frames=some X.stack
 stk:X.stack=X.outer∨(X.stack=X.env::X.outer∧X.env.frame=some X.env.locals)
 exf:∀b∈X.ex,b≠X.env.locals∧∀x c,X.env.cells.lookup x=some c→c≠b
 bs:∀b o,X.base.get? b=some o→X.s₀.heap.get? b=some o∧X.H₀ b=none
 bsz:X.base.objs.size≤X.s₀.heap.objs.size
 noex:∀b o,X.base.get? b=some o→b∉X.ex
 exfs:∀b∈X.ex,b∉X.fs
 funs:X.s₀.heap.FunFrames X.base X.outer
 frf:∀b∈X.fs,X.H₀ b=none
structure aw (X:Cx)(pins:List (YM×Obj))(σ:List (Option V))(H:Hp)(s:YK):Prop where
 ok:X.Ok
 os:s.os=X.s₀.os
 bare:adR s.gens
 base:Un X.fs X.ex X.H₀ H X.s₀.heap s.heap
 loc:∃m,s.heap.Ns X.env.locals m∧∀(i:Nat) (x:Str) (v:V),X.N[i]? = some x→σ[i]? = some (some v)→yZ X.env.scope x→∃u,aO v u∧Qh X.env s.heap m x u
 cell:∀x c,X.env.cells.lookup x=some c→∃v,s.heap.IsCell c v
 free:H X.env.locals=none
 freeC:∀x c,X.env.cells.lookup x=some c→H c=none
 pin:∀p∈X.pn++pins,s.heap.get? p.1=some p.2∧H p.1=none∧p.1≠X.env.locals∧p.1∉X.fs∧∀v,p.2.data≠.cell v
 hok:gT X.prog X.w H s.heap
 len:σ.length=X.N.length
section
variable {X:Cx}{σ:List (Option V)}
theorem Cx.Ok.nofr (ok:X.Ok){o:Obj}(e:X.base.get? b=some o):b∉X.fs:=fun hb=>by
 have:=(ok.funs.mem hb).1
 rw[e] at this;cases this
theorem aw.bs (I:aw X pins σ H s):∀b o,X.base.get? b=some o→s.heap.get? b=some o∧H b=none:=fun b o e =>
 ⟨I.base.keep b o (I.ok.bs b o e).1 (I.ok.bs b o e).2 (I.ok.nofr e) (I.ok.noex b o e),I.base.free b o (I.ok.bs b o e).1 (I.ok.bs b o e).2 (I.ok.noex b o e)⟩
theorem aw.bk (I:aw X pins σ H s):∀b o,X.base.get? b=some o→s.heap.get? b=some o:=fun b o e=>(I.bs b o e).1
theorem aw.mod (I:aw X pins σ H s):Mod X.K X.mg X.base:=I.ok.mod
theorem aw.kIn (I:aw X pins σ H s):X.K.In s.heap:=I.ok.mod.kin.keeps I.bk
theorem aw.lt (I:aw X pins σ H s):X.env.locals<s.heap.objs.size:=let ⟨_,hn,_⟩:=I.loc;hn.lt
theorem aw.sz (I:aw X pins σ H s):X.s₀.heap.objs.size≤s.heap.objs.size:=Zd I.ok.above (ace I.lt)
theorem aw.nofs (I:aw X pins σ H s)(h:s.heap.objs.size≤a):a∉X.fs:=fun hb=>by
 obtain⟨_,o,ho,_⟩:=I.ok.funs.mem hb
 exact absurd (Zi (YE ho) (Zd I.sz h)) (aaz _)
theorem aw.cne (I:aw X pins σ H s):∀x c,X.env.cells.lookup x=some c→c≠X.env.locals:=fun x c e z=>by
 obtain⟨v,o,ho,hd⟩:=I.cell x c e
 obtain⟨m,⟨o',es,ep,ho',hd',_⟩,_⟩:=I.loc
 rw[z,ho'] at ho;cases ho;rw[hd'] at hd;cases hd
theorem aw.funs (I:aw X pins σ H s):s.heap.FunFrames X.base X.outer:=by
 have all:∀(l:List Env),(∀b∈oV l,b∈X.fs)→X.s₀.heap.FunFrames X.base l→s.heap.FunFrames X.base l:=by
  intro l
  induction l with
  |nil=>intro _ _;trivial
  |cons env r ih =>
   intro hs hl
   obtain⟨hk,⟨L,o,hf,hn,ho,hd⟩,hr⟩:=hl
   have hL:L∈X.fs:=hs L (by unfold oV;rw[ab_,hf];exact YO)
   obtain⟨sl,e⟩:=I.base.slot L o ho (I.ok.frf L hL) hL fun z=>I.ok.exfs L z hL
   exact⟨hk,⟨L,_,hf,hn,e,hd⟩,ih (fun b hb=>hs b (by unfold oV;rw[ab_,hf];exact YS _ hb)) hr⟩
 exact all X.outer (fun _ hb=>hb) I.ok.funs
theorem aw.stack (I:aw X pins σ H s):s.heap.FunFrames X.base X.stack:=by
 rcases I.ok.stk with e|⟨e,hf⟩
 ·rw[e];exact I.funs
 ·rw[e]
  obtain⟨m,hn,_⟩:=I.loc
  refine .cons (by rw[I.ok.kind];decide) hf hn ?_ I.funs
  exact Heap.get?_none_of_le (Zd I.ok.bsz I.ok.above)
theorem aw.stkSub (I:aw X pins σ H s):∀b∈oV X.stack,b∈X.env.locals::X.fs:=fun b hb=>by
 rcases I.ok.stk with e|⟨e,hf⟩
 ·rw[e] at hb;exact YS _ hb
 ·rw[e] at hb
  unfold oV at hb
  rw[ab_,hf] at hb
  exact hb
theorem aw.stkFree (I:aw X pins σ H s):∀b∈oV X.stack,H b=none:=fun b hb=>by
 rcases YU.mp (I.stkSub b hb) with e|hb
 ·rw[e];exact I.free
 ·obtain⟨_,o,ho,_⟩:=I.ok.funs.mem hb
  exact I.base.free b o ho (I.ok.frf b hb) fun z=>I.ok.exfs b z hb
theorem aw.step {t':Nat}{d':Drawn}(I:aw X pins σ H s)(FC:∀b∈ch,(b∈X.ex∨X.s₀.heap.objs.size≤b)∧b≠X.env.locals∧(∀x c,X.env.cells.lookup x=some c→c≠b)∧∀p∈X.pn++pins,p.1≠b)(keep:∀b o,b≠X.env.locals→b∉X.fs→b∉ch→s.heap.get? b=some o→H b=none→h'.get? b=some o)(slot:∀b o,b≠X.env.locals→b∈X.fs→b∉ch→s.heap.get? b=some o→H b=none→∃sl,h'.get? b=some {o with slots:=sl})(free:∀b o,b∉ch→s.heap.get? b=some o→H b=none→H' b=none)(there:∀b o,b∉ch→s.heap.get? b=some o→∃o',h'.get? b=some o')(tups:∀b xs,H b=some (.tup xs)→H' b=some (.tup xs))(frzs:∀b o u,H b=some (.frz o u)→H' b=some (.frz o u))(tbls:∀b ps,H b=some (.tbl ps)→∃more,H' b=some (.tbl (ps++more)))(ns:∀m,s.heap.Ns X.env.locals m→h'.Ns X.env.locals m)(hok:gT X.prog X.w H' h')(hg:adR g') :
  aw X pins σ H' {s with heap:=h',gens:=g',drawn:=d',toks:=t'}:=by
 have HX:∀b o,X.s₀.heap.get? b=some o→b≠X.env.locals:=fun b o e=>Y0 (Zi (YE e) I.ok.above)
 have P4:∀b o,X.s₀.heap.get? b=some o→b∉X.ex→b∉ch:=fun b o e hx hb=>by
  rcases (FC b hb).1 with z|z
  ·exact hx z
  ·exact absurd (Zi (YE e) z) (aaz _)
 have JL:∀x c,X.env.cells.lookup x=some c→∀v,s.heap.IsCell c v→h'.IsCell c v:=fun x c e v h00=>by
  obtain⟨o,ho,hd⟩:=h00
  have OO:c∉ch:=fun z=>(FC c z).2.2.1 x c e rfl
  by_cases hc:c∈X.fs
  ·obtain⟨sl,q⟩:=slot c o (I.cne x c e) hc OO ho (I.freeC x c e)
   exact⟨_,q,hd⟩
  ·exact⟨o,keep c o (I.cne x c e) hc OO ho (I.freeC x c e),hd⟩
 refine⟨I.ok,I.os,hg,⟨fun b o e n hb hx => ?_,fun b o e n hb hx => ?_,fun b o e n hx => ?_,fun b o e hx => ?_,fun b xs e=>tups b xs (I.base.tups b xs e),fun b o xs e=>frzs b o xs (I.base.frzs b o xs e),fun b ps e => ?_⟩,?_,fun x c e => ?_,?_,fun x c e => ?_,fun p hp => ?_,hok,I.len⟩
 ·exact keep b o (HX b o e) hb (P4 b o e hx) (I.base.keep b o e n hb hx) (I.base.free b o e n hx)
 ·obtain⟨sl,e1⟩:=I.base.slot b o e n hb hx
  obtain⟨O5,e2⟩:=slot b _ (HX b o e) hb (P4 b o e hx) e1 (I.base.free b o e n hx)
  exact⟨O5,e2⟩
 ·obtain⟨o',e1⟩:=I.base.there b o e hx
  exact free b o' (P4 b o e hx) e1 (I.base.free b o e n hx)
 ·obtain⟨o',e1⟩:=I.base.there b o e hx
  exact there b o' (P4 b o e hx) e1
 ·obtain⟨m1,e1⟩:=I.base.tbls b ps e
  obtain⟨m2,e2⟩:=tbls b _ e1
  exact⟨m1++m2,by rw[e2,Array.append_assoc]⟩
 ·obtain⟨m,hn,hl⟩:=I.loc
  refine⟨m,ns m hn,fun i x v e1 e2 e3 => ?_⟩
  obtain⟨u,r,l⟩:=hl i x v e1 e2 e3
  refine⟨u,r,?_⟩
  rcases l with l|⟨k,c,e,z⟩
  ·exact .inl l
  ·exact .inr ⟨k,c,e,JL x c e _ z⟩
 ·obtain⟨v,z⟩:=I.cell x c e
  exact⟨v,JL x c e v z⟩
 ·obtain⟨m,⟨o,_,_,ho,_⟩,_⟩:=I.loc
  exact free _ o (fun z=>(FC _ z).2.1 rfl) ho I.free
 ·obtain⟨v,o,ho,hd⟩:=I.cell x c e
  exact free c o (fun z=>(FC c z).2.2.1 x c e rfl) ho (I.freeC x c e)
 ·obtain⟨e,n,ne,nf,d⟩:=I.pin p hp
  have OO:p.1∉ch:=fun z=>(FC p.1 z).2.2.2 p hp rfl
  exact⟨keep p.1 p.2 ne nf OO e n,free p.1 p.2 OO e n,ne,nf,d⟩
theorem aw.un {t':Nat}(I:aw X pins σ H s)(u:Un X.fs [] H H' s.heap h')(hok:gT X.prog X.w H' h'):aw X pins σ H' {s with heap:=h',toks:=t'}:=by
 obtain⟨m,⟨o,es,ep,ho,r⟩,_⟩:=id I.loc
 obtain⟨sl,hL⟩:=u.any ho I.free (by simp)
 exact I.step (g':=s.gens) (d':=s.drawn) (ch:=[]) (fun _ z=>nomatch z) (fun b o _ hb _ e n=>u.keep b o e n hb (by simp)) (fun b o _ hb _ e n=>u.slot b o e n hb (by simp)) (fun b o _ e n=>u.free b o e n (by simp)) (fun b o _ e=>u.there b o e (by simp)) u.tups u.frzs u.tbls (fun m' hm=>by
  obtain⟨o',es',ep',ho',r'⟩:=hm
  rw[ho] at ho';cases ho'
  exact⟨_,es',ep',hL,r'⟩) hok I.bare
theorem aw.call {t':Nat}{d':Drawn}(I:aw X pins σ H s)(u:Un (oV X.stack) ch H H' s.heap h')(hok:gT X.prog X.w H' h')(hg:adR g')(FC:∀b∈ch,(b∈X.ex∨X.s₀.heap.objs.size≤b)∧b≠X.env.locals∧(∀x c,X.env.cells.lookup x=some c→c≠b)∧∀p∈X.pn++pins,p.1≠b) :
  aw X pins σ H' {s with heap:=h',gens:=g',drawn:=d',toks:=t'}:=by
 obtain⟨m,⟨o,es,ep,ho,r⟩,_⟩:=id I.loc
 obtain⟨sl,hL⟩:=u.any ho I.free fun z=>(FC _ z).2.1 rfl
 exact I.step (ch:=ch) FC (fun b o hL hb hc e n=>u.keep b o e n (fun z=>(YU.mp (I.stkSub b z)).elim hL hb) hc) (fun b o _ _ hc e n=>u.any e n hc) (fun b o hc e n=>u.free b o e n hc) (fun b o hc e=>u.there b o e hc) u.tups u.frzs u.tbls (fun m' hm=>by
  obtain⟨o',es',ep',ho',r'⟩:=hm
  rw[ho] at ho';cases ho'
  exact⟨_,es',ep',hL,r'⟩) hok hg
theorem aw.turned {t':Nat}(I:aw X pins σ H s)(k:∀b o,b≠it→s.heap.get? b=some o→h'.get? b=some o)(hn:H it=none)(hL:it≠X.env.locals)(h1:it∈X.ex∨X.s₀.heap.objs.size≤it)(h2:∀x c,X.env.cells.lookup x=some c→c≠it)(h3:∀p∈X.pn++pins,p.1≠it):aw X pins σ H {s with heap:=h',toks:=t'}:=by
 have U6:∀b u,H b=some u→b≠it:=fun b u e z=>by rw[z,hn] at e;cases e
 refine I.step (g':=s.gens) (d':=s.drawn) (ch:=[it]) (fun b hb => ?_) (fun b o _ _ hc e _=>k b o (fun z=>hc (by simp[z])) e) (fun b o _ _ hc e _=>⟨o.slots,k b o (fun z=>hc (by simp[z])) e⟩) (fun _ _ _ _ n=>n)
  (fun b o hc e=>⟨o,k b o (fun z=>hc (by simp[z])) e⟩) (fun _ _ e=>e) (fun _ _ _ e=>e) (fun b ps e=>⟨#[],by rw[e];simp⟩) (fun m hm => ?_) (fun b u e => ?_) I.bare
 ·have e:b=it:=by simpa using hb
  subst e
  exact⟨h1,hL,h2,h3⟩
 ·obtain⟨o,es,ep,ho,r⟩:=hm
  exact⟨o,es,ep,k _ o (Ne.symm hL) ho,r⟩
 ·refine (I.hok b u e).stay (fun c v hc q=>k c v ?_ q) (fun _ q=>q) fun _ _ q=>q
  rcases hc with z|z
  ·rw[z];exact U6 b u e
  ·exact U6 c _ z
theorem aw.tok (I:aw X pins σ H s)(t:Nat):aw X pins σ H {s with toks:=t}:=I.un (h':=s.heap) (t':=t) Un.refl I.hok
theorem aw.kept {t':Nat}(I:aw X pins σ H s)(k:∀b u,s.heap.get? b=some u→h'.get? b=some u):aw X pins σ H {s with heap:=h',toks:=t'}:=I.un (Un.kept k) (I.hok.kept k)
theorem aw.laid {t':Nat}{o:HO}(I:aw X pins σ H s)(k:∀b u,s.heap.get? b=some u→h'.get? b=some u)(hp:s.heap.objs.size≤a)(new:bo X.prog X.w (cm H a o) h' a o) :
  aw X pins σ (cm H a o) {s with heap:=h',toks:=t'}:=I.un (Un.laid k hp (I.hok.fresh hp)) (I.hok.laid k hp new)
theorem aw.write {t':Nat}{x e:YM}{o:HO}(I:aw X pins σ H s)(mu:MN (H x))(he:e=x∨H e=some (.own x))(k:∀b u,b≠e→s.heap.get? b=some u→h'.get? b=some u)(MY:∃u,h'.get? e=some u)(new:bo X.prog X.w (cm H x o) h' x o):aw X pins σ (cm H x o) {s with heap:=h',toks:=t'}:=I.un (Un.write mu he k MY) (I.hok.write mu he k MY new)
theorem aw.pins_of {JM:List (YM×Obj)}(I:aw X pins σ H s)(h:∀p∈JM,s.heap.get? p.1=some p.2∧H p.1=none∧p.1≠X.env.locals∧p.1∉X.fs∧∀v,p.2.data≠.cell v):aw X JM σ H s :=
 ⟨I.ok,I.os,I.bare,I.base,I.loc,I.cell,I.free,I.freeC,fun p hp=>(Y4.mp hp).elim (fun z=>I.pin p (aat _ z)) (h p),I.hok,I.len⟩
theorem oW (hN:N.Nodup)(a:N[i]? = some x)(b:N[j]? = some x):i=j:=by
 obtain⟨h1,e1⟩:=YD.mp a
 obtain⟨h2,e2⟩:=YD.mp b
 exact (List.getElem_inj hN).mp (e1.trans e2.symm)
theorem AR {A:Zw}{u:Yv}{Q:Unit→YK→Prop}(I:aw X pins σ H s)(hN:X.N.Nodup)(hi:X.N[i]? = some x)(hx:Ic X.env.scope x)(r:aO v u)(h:∀s',aw X pins (σ.set i (some v)) H s'→(∃a,aaC a s.heap s'.heap∧(a=X.env.locals∨X.env.cells.lookup x=some a))→Q () s')(hf:X.fn x=true∨X.env.scope.names.lookup x=some .local:=by first|exact .inl rfl|exact .inr rfl|assumption):YR M A (storeName X.env x u) Q E s:=by
 obtain⟨m,hn,hl⟩:=id I.loc
 have Mg:(X.env.scope.kind==.class||(X.env.scope.kind==.module&&X.env.locals != X.env.globals))=false:=by rw[I.ok.kind];rfl
 have P5:i<σ.length:=by rw[I.len];exact (YD.mp hi).1
 have cne:=I.cne
 have AH:∀{a:YM} {h':abr},(∃o,s.heap.get? a=some o∧H a=none)→aaC a s.heap h'→gT X.prog X.w H h':=fun {a h'} ha hs b ob e=>by
  obtain⟨_,_,hfree⟩:=ha
  refine (I.hok b ob e).stay (fun c w' hc q=>(hs.2 c ?_).trans q) (fun _ q=>q) fun _ _ q=>q
  rintro rfl
  rcases hc with rfl|hc
  ·rw[hfree] at e;cases e
  ·rw[hfree] at hc;cases hc
 rcases hx with hk|hk
 ·refine wpAny_storeName_local hk hn (fun h' Rm hs => ?_) Mg
  obtain⟨oL,_,_,JQ,_⟩:=id hn
  refine h _ ⟨I.ok,I.os,I.bare,⟨fun b o e n hb hx => ?_,fun b o e n hb hx => ?_,I.base.free,fun b o e hx => ?_,I.base.tups,I.base.frzs,I.base.tbls⟩,⟨_,Rm,fun j y v' e1 e2 e3 => ?_⟩,fun y c e => ?_,I.free,I.freeC,fun p hp => ?_,AH ⟨oL,JQ,I.free⟩ hs,by simpa using I.len⟩ ⟨_,hs,.inl rfl⟩
  ·exact (hs.2 b (Y0 (Zi (YE e) I.ok.above))).trans (I.base.keep b o e n hb hx)
  ·obtain⟨sl,e1⟩:=I.base.slot b o e n hb hx
   exact⟨sl,(hs.2 b (Y0 (Zi (YE e) I.ok.above))).trans e1⟩
  ·obtain⟨o',e1⟩:=I.base.there b o e hx
   exact⟨o',(hs.2 b (Y0 (Zi (YE e) I.ok.above))).trans e1⟩
  ·by_cases hj:j=i
   ·subst hj
    rw[hi] at e1;cases e1
    rw[abD P5] at e2
    cases e2
    exact⟨u,r,.inl ⟨hk,by simp⟩⟩
   ·rw[Zf (Ne.symm hj)] at e2
    obtain⟨u',r',q⟩:=hl j y v' e1 e2 e3
    refine⟨u',r',?_⟩
    rcases q with⟨k,e⟩|⟨k,c,e,z⟩
    ·refine .inl ⟨k,?_⟩
     have:y≠x:=fun e=>hj (oW hN e1 (e▸hi))
     simp[this,e]
    ·exact .inr ⟨k,c,e,z.sameBut hs (cne y c e)⟩
  ·obtain⟨w',z⟩:=I.cell y c e
   exact⟨w',z.sameBut hs (cne y c e)⟩
  ·obtain⟨e,n,ne,nf,d⟩:=I.pin p hp
   exact⟨(hs.2 p.1 ne).trans e,n,ne,nf,d⟩
 ·have Rn:X.fn x=true:=by
   rcases hf with z|z
   ·exact z
   ·rw[z] at hk;cases hk
  obtain⟨c,hc⟩:=I.ok.has x (.inl hk)
  obtain⟨w',z⟩:=I.cell x c hc
  refine wpAny_storeName_cell I.ok.kind hk hc z (fun h' U7 hs => ?_)
  obtain⟨oc,hoc,hocd⟩:=id z
  refine h {s with heap:=h'} ⟨I.ok,I.os,I.bare,⟨fun b o e n hb hx => ?_,fun b o e n hb hx => ?_,I.base.free,fun b o e hx => ?_,I.base.tups,I.base.frzs,I.base.tbls⟩,⟨m,hn.sameBut hs (Ne.symm (cne x c hc)),fun j y v' e1 e2 e3 => ?_⟩,fun y c' e => ?_,I.free,I.freeC,fun p hp => ?_,AH ⟨oc,hoc,I.freeC x c hc⟩ hs,by simpa using I.len⟩ ⟨c,hs,.inr hc⟩
  ·exact (hs.2 b (Y0 (Zi (YE e) (I.ok.cab x c Rn hc)))).trans (I.base.keep b o e n hb hx)
  ·obtain⟨sl,e1⟩:=I.base.slot b o e n hb hx
   exact⟨sl,(hs.2 b (Y0 (Zi (YE e) (I.ok.cab x c Rn hc)))).trans e1⟩
  ·obtain⟨o',e1⟩:=I.base.there b o e hx
   exact⟨o',(hs.2 b (Y0 (Zi (YE e) (I.ok.cab x c Rn hc)))).trans e1⟩
  ·by_cases hj:j=i
   ·subst hj
    rw[hi] at e1;cases e1
    rw[abD P5] at e2
    cases e2
    exact⟨u,r,.inr ⟨.inl hk,c,hc,U7⟩⟩
   ·rw[Zf (Ne.symm hj)] at e2
    obtain⟨u',r',q⟩:=hl j y v' e1 e2 e3
    refine⟨u',r',?_⟩
    rcases q with q|⟨k,c',e,z'⟩
    ·exact .inl q
    ·refine .inr ⟨k,c',e,z'.sameBut hs ?_⟩
     rintro rfl
     exact hj (oW hN e1 (I.ok.inj _ _ _ e hc▸hi))
  ·by_cases hcc:c'=c
   ·subst hcc;exact⟨_,U7⟩
   ·obtain⟨w2,z2⟩:=I.cell y c' e
    exact⟨w2,z2.sameBut hs hcc⟩
  ·obtain⟨e,n,ne,nf,d⟩:=I.pin p hp
   refine⟨(hs.2 p.1 ?_).trans e,n,ne,nf,d⟩
   intro q
   rw[q,hoc] at e
   have q':oc=p.2:=Zg e
   exact d w' (by rw[←q'];exact hocd)
theorem iZ {A:Zw}{u:Yv}{Q:Unit→YK→Prop}(I:aw X pins σ H s)(hN:X.N.Nodup)(hi:X.N[i]? = some x)(hx:Ic X.env.scope x)(r:aO v u)(h:∀s',aw X pins (σ.set i (some v)) H s'→Q () s')(hf:X.fn x=true∨X.env.scope.names.lookup x=some .local:=by first|exact .inl rfl|exact .inr rfl|assumption):YR M A (storeName X.env x u) Q E s :=
 AR I hN hi hx r (fun s' I' _=>h s' I') hf
theorem aw.call' {s':YK}(I:aw X pins σ H s)(ho:s'.os=s.os)(u:Un (oV X.stack) ch H H' s.heap s'.heap)(hok:gT X.prog X.w H' s'.heap)(hg:adR s'.gens)(FC:∀b∈ch,(b∈X.ex∨X.s₀.heap.objs.size≤b)∧b≠X.env.locals∧(∀x c,X.env.cells.lookup x=some c→c≠b)∧∀p∈X.pn++pins,p.1≠b):aw X pins σ H' s':=by
 obtain⟨h',g',d',t',o'⟩:=s'
 have e:o'=s.os:=ho
 subst e
 exact I.call (g':=g') (t':=t') (d':=d') u hok hg FC
end
noncomputable abbrev XK:=Yv→Option YM→Hp→Prop
noncomputable abbrev St:=List (Option V)
noncomputable abbrev VK:=V→Hp→Prop
noncomputable abbrev TE:=St→Hp→VK→Prop
noncomputable abbrev TT:=St→Hp→(Bool→Hp→Prop)→Prop
noncomputable abbrev TA:=St→Hp→(List V→Hp→Prop)→Prop
structure j3 where
 nx:St→Hp→Prop
 rt:VK
 bk:St→Hp→Prop:=fun _ _=>False
 ct:St→Hp→Prop:=fun _ _=>False
noncomputable abbrev TS:=j3→St→Hp→Prop
noncomputable def EP (X:Cx)(pins:List (YM×Obj))(σ:St)(Q:VK)(u:Yv)(s':YK):Prop:=∃v H',aw X pins σ H' s'∧aO v u∧Q v H'
noncomputable def TP (X:Cx)(pins:List (YM×Obj))(σ:St)(Q:Bool→Hp→Prop)(b:Bool)(s':YK):Prop:=∃H',aw X pins σ H' s'∧Q b H'
noncomputable def AP (X:Cx)(pins:List (YM×Obj))(σ:St)(Q:List V→Hp→Prop)(us:List Yv)(s':YK):Prop:=∃vs H',aw X pins σ H' s'∧aQ vs us∧Q vs H'
noncomputable def SP (X:Cx)(pins:List (YM×Obj))(D:j3)(f:Flow)(s':YK):Prop :=
 match f with
 | .next=>∃σ' H',aw X pins σ' H' s'∧D.nx σ' H'
 | .brk=>∃σ' H',aw X pins σ' H' s'∧D.bk σ' H'
 | .cont=>∃σ' H',aw X pins σ' H' s'∧D.ct σ' H'
 | .ret u=>∃v σ' H',aw X pins σ' H' s'∧aO v u∧D.rt v H'
noncomputable def PE (X:Cx)(e:aav)(t:TE):Prop :=
 ∀(pins:List (YM×Obj)) (s:YK) (σ:St) (H:Hp) (Q:VK),aw X pins σ H s→t σ H Q→YR (Y7 X.prog X.w) X.A (abE e X.env) (EP X pins σ Q) X.xe s
noncomputable def PT (X:Cx)(e:aav)(t:TT):Prop :=
 ∀(pins:List (YM×Obj)) (s:YK) (σ:St) (H:Hp) (Q:Bool→Hp→Prop),aw X pins σ H s→t σ H Q→YR (Y7 X.prog X.w) X.A (isTrue e X.env (abE e X.env)) (TP X pins σ Q) X.xe s
noncomputable def PW (X:Cx)(e:aav)(t:TT):Prop :=
 ∀(lY:Sem Yv) (pins:List (YM×Obj)) (s:YK) (σ:St) (H:Hp) (Q:Bool→Hp→Prop),aw X pins σ H s→t σ H Q→YR (Y7 X.prog X.w) X.A (isTrue e X.env lY) (TP X pins σ Q) X.xe s
theorem PW.pt {X:Cx}{e:aav}{t:TT}(h:PW X e t):PT X e t:=h _
noncomputable def PA (X:Cx)(es:List aav)(t:TA):Prop :=
 ∀(pos:Pos) (pins:List (YM×Obj)) (s:YK) (σ:St) (H:Hp) (Q:List V→Hp→Prop),aw X pins σ H s→t σ H Q→YR (Y7 X.prog X.w) X.A (spliced (aaQ pos (YF es X.env))) (AP X pins σ Q) X.xe s
noncomputable def PS (X:Cx)(st:adh)(t:TS):Prop :=
 ∀(pins:List (YM×Obj)) (s:YK) (σ:St) (H:Hp) (D:j3),aw X pins σ H s→t D σ H→YR (Y7 X.prog X.w) X.A (exec st X.env) (SP X pins D) X.xe s
noncomputable def mV (X:Cx)(st:List adh)(t:TS):Prop :=
 ∀(pins:List (YM×Obj)) (s:YK) (σ:St) (H:Hp) (D:j3),aw X pins σ H s→t D σ H→YR (Y7 X.prog X.w) X.A (execs st X.env) (SP X pins D) X.xe s
theorem dz {α:Type}{t:Sem α}{Q Q':α→YK→Prop}{A:Zw}(h:YR M A t Q E s)(hQ:∀a s,Q a s→Q' a s):YR M A t Q' E s:=ZI h hQ fun _ _ x=>x
end L2
variable {X:L2.Cx}{t tb:L2.TS}{σ:L2.St}{te:L2.TE}
namespace L2
section
theorem Yc {a b:aav}{ta tb:TE}(ha:PE X a ta)(hb:PE X b tb){R:V→V→Hp→Prop}(I:aw X pins σ H s)(h:ta σ H fun x H1=>tb σ H1 fun y H2=>R x y H2){α:Type}{Q:α→YK→Prop}{f:Yv→Yv→Sem α}(hf:∀v u s2 x y H2,aw X pins σ H2 s2→aO x v→aO y u→R x y H2→YR (Y7 X.prog X.w) X.A (f v u) Q X.xe s2) :
  YR (Y7 X.prog X.w) X.A (abE a X.env) (fun v s₁=>YR (Y7 X.prog X.w) X.A (abE b X.env) (fun u s₂=>YR (Y7 X.prog X.w) X.A (f v u) Q X.xe s₂) X.xe s₁) X.xe s:=by
 refine dz (ha pins s σ H _ I h) fun v s1 ⟨x,H1,I1,r1,q1⟩ => ?_
 refine dz (hb pins s1 σ H1 _ I1 q1) fun u s2 ⟨y,H2,I2,r2,q2⟩ => ?_
 exact hf v u s2 x y H2 I2 r1 r2 q2
noncomputable def FK (i:Nat):TE:=fun σ H Q=>∃v,σ[i]? = some (some v)∧Q v H
noncomputable def tC (v:V):TE:=fun _ H Q=>Q v H
theorem fq (hN:X.N[i]? = some x)(hv:yZ X.env.scope x)(hd:(x==("__debug__":Str))=false:=by decide)(iP:(x==("__classdict__":Str))=false:=by decide):PE X (.Name x pos) (FK i):=by
 intro pins s σ H Q I h
 obtain⟨v,e,h⟩:=h
 obtain⟨m,hn,hl⟩:=I.loc
 obtain⟨u,r,l⟩:=hl i x v hN e hv
 have fin:EP X pins σ Q u s:=⟨v,H,I,r,h⟩
 rcases l with⟨hk,hm⟩|⟨hk,c,hc,sP⟩
 ·exact wpAny_Name (wpAny_loadName_local I.ok.kind hk hn hm fin) hd
 ·rcases hk with hk|hk
  ·exact wpAny_Name (wpAny_loadName_cell I.ok.kind hk hc sP fin) hd
  ·exact wpAny_Name (wpAny_loadName_free I.ok.kind hk hc sP fin iP) hd
theorem Cj {i j pos}:PE X (.Constant (.int i) j pos) (tC (.int i)):=fun _ _ _ H _ I h=>wpAny_Constant_int ⟨.int i,H,I.tok _,⟨_,rfl⟩,h⟩
theorem Ck {b j pos}:PE X (.Constant (.bool b) j pos) (tC (.bl b)):=fun _ _ _ H _ I h=>Constant_bool ⟨.bl b,H,I,rfl,h⟩
theorem gJ {x j pos}:PE X (.Constant (.str x) j pos) (tC (.str x)):=fun _ _ _ H _ I h=>adE ⟨.str x,H,I.tok _,⟨_,rfl⟩,h⟩
noncomputable def Gl (X:Cx)(x:Str):Prop:=X.env.kindOf x=some .globalImplicit
theorem jE {u:Yv}(I:aw X pins σ H s)(hg:Gl X x)(hm:X.mg x=some u)(h:Q u s)(hd:(x==("__debug__":Str))=false:=by decide):YR (Y7 X.prog X.w) X.A (abE (.Name x pos) X.env) Q E s :=
 ady I.ok.kind hg (Calls.loadGlobal_global (by rw[I.ok.glob];exact I.mod.glob.keeps I.bk) hm h) hd
theorem oX {u:Yv}(I:aw X pins σ H s)(hg:Gl X x)(hm:X.mg x=none)(hv:Zr x=some u)(h:Q u s)(hn:x≠"__name__":=by decide)(hd:(x==("__debug__":Str))=false:=by decide):YR (Y7 X.prog X.w) X.A (abE (.Name x pos) X.env) Q E s:=by
 obtain⟨mb,h1,h2⟩:=I.mod.blt
 exact ady I.ok.kind hg (Calls.loadGlobal_builtin (by rw[I.ok.glob];exact I.mod.glob.keeps I.bk) hm (by rw[I.ok.blt];exact h1.keeps I.bk) ((h2 x hn).trans hv) h) hd
theorem sU {u:Yv}(hg:Gl X x)(hm:X.mg x=some u)(r:aO v u)(hd:(x==("__debug__":Str))=false:=by decide):PE X (.Name x pos) (tC v) :=
 fun _ _ _ H _ I h=>jE I hg hm ⟨v,H,I,r,h⟩ hd
theorem oy {u:Yv}(hg:Gl X x)(hm:X.mg x=none)(hv:Zr x=some u)(r:aO v u)(hn:x≠"__name__":=by decide)(hd:(x==("__debug__":Str))=false:=by decide):PE X (.Name x pos) (tC v) :=
 fun _ _ _ H _ I h=>oX I hg hm hv ⟨v,H,I,r,h⟩ hn hd
variable {a b:aav}{ta tb:TE}
noncomputable def PC (X:Cx)(op:CmpOp)(a b:aav)(t:TE):Prop :=
 ∀(pins:List (YM×Obj)) (s:YK) (σ:St) (H:Hp) (Q:VK),aw X pins σ H s→t σ H Q →
  YR (Y7 X.prog X.w) X.A (abE a X.env) (fun v s₁=>YR (Y7 X.prog X.w) X.A (abE b X.env) (fun u s₂=>YR (Y7 X.prog X.w) X.A (abL op v u) (EP X pins σ Q) X.xe s₂) X.xe s₁) X.xe s
noncomputable def tB (t:TE):TT:=fun σ H Q=>t σ H fun x H1=>∃c,x=.bl c∧Q c H1
theorem Qi {t:TE}(h:PC X op a b t)(h1:abR op b=false:=by first|exact nobehind _ (by decide) (by decide)|rfl):PT X (.Compare a [op] [b] pos) (tB t):=by
 intro pins s σ H Q I hw
 refine wpAny_isTrue_Compare1 (dz (h pins s σ H _ I hw) fun v s1 h1=>dz h1 fun u s2 h2=>dz h2 fun c s3 ⟨x,H1,I1,r1,q1⟩ => ?_) h1
 obtain⟨d,rfl,q⟩:=q1
 cases r1
 exact abe ⟨H1,I1,q⟩
theorem Cm {e:aav}{t:TE}(h:PE X e t)(he:∀lY,isTrue e X.env lY=(do let v ←lY;standAt e.pos;adi [v] (truthy v)):=by intro _;rfl):PT X e (tB t):=by
 intro pins s σ H Q I hw
 refine isTrue_plain (dz (h pins s σ H _ I hw) fun v s1 ⟨x,H1,I1,r1,q1⟩ => ?_) (he _)
 obtain⟨d,rfl,q⟩:=q1
 cases r1
 exact abe ⟨H1,I1,q⟩
variable {tA tB':TT}{rest:List aav}
noncomputable def M9 (t u:TT):TT:=fun σ H Q=>t σ H fun c H1=>if c=true then u σ H1 Q else Q false H1
noncomputable def UG (t u:TT):TT:=fun σ H Q=>t σ H fun c H1=>if c=true then Q true H1 else u σ H1 Q
noncomputable def Qj (t:TT):TT:=fun σ H Q=>t σ H fun c H1=>Q (!c) H1
theorem FN (ha:PT X a tA):PW X (.BoolOp .And [a] pos) tA:=by
 intro wh pins s σ H Q I h
 refine isTrue_and (dz (ha pins s σ H Q I h) fun c s1 e => ?_)
 cases c with
 |true=>exact isTrue_and_nil e
 |false=>exact e
theorem J6 (ha:PT X a tA):PW X (.BoolOp .Or [a] pos) tA:=by
 intro wh pins s σ H Q I h
 refine isTrue_or (dz (ha pins s σ H Q I h) fun c s1 e => ?_)
 cases c with
 |false=>exact isTrue_or_nil e
 |true=>exact e
theorem J7 (ha:PT X a tA)(hb:PW X (.BoolOp .And (b::rest) pos) tB'):PW X (.BoolOp .And (a::b::rest) pos) (M9 tA tB'):=by
 intro wh pins s σ H Q I h
 refine isTrue_and (dz (ha pins s σ H _ I h) fun c s1 ⟨H1,I1,q1⟩ => ?_)
 cases c with
 |true=>exact hb wh pins s1 σ H1 Q I1 q1
 |false=>exact⟨H1,I1,q1⟩
theorem M_ (ha:PT X a tA)(hb:PW X (.BoolOp .Or (b::rest) pos) tB'):PW X (.BoolOp .Or (a::b::rest) pos) (UG tA tB'):=by
 intro wh pins s σ H Q I h
 refine isTrue_or (dz (ha pins s σ H _ I h) fun c s1 ⟨H1,I1,q1⟩ => ?_)
 cases c with
 |true=>exact⟨H1,I1,q1⟩
 |false=>exact hb wh pins s1 σ H1 Q I1 q1
theorem Co (ha:PT X a tA):PT X (.UnaryOp .Not a pos) (Qj tA):=by
 intro pins s σ H Q I h
 exact isTrue_not (ha pins s σ H (fun c H1=>Q (!c) H1) I h)
noncomputable def Na (ta tb:TE):TE:=fun σ H Q=>ta σ H fun x H1=>∃c,x=.bl c∧if c=true then tb σ H1 Q else Q (.bl false) H1
theorem J8 {op}{t:TE}(h:PE X a t):PE X (.BoolOp op [a] pos) t:=fun pins s σ H Q I hw=>BoolOp_one (h pins s σ H Q I hw)
theorem J9 (ha:PE X a ta)(hb:PE X (.BoolOp .And (b::rest) pos) tb):PE X (.BoolOp .And (a::b::rest) pos) (Na ta tb):=by
 intro pins s σ H Q I h
 refine BoolOp_and (dz (ha pins s σ H _ I h) fun v s1 ⟨x,H1,I1,r1,q1⟩ => ?_)
 obtain⟨c,rfl,q1⟩:=q1
 cases r1
 refine abe ?_
 cases c with
 |true=>exact hb pins s1 σ H1 Q I1 q1
 |false=>exact⟨.bl false,H1,I1,rfl,q1⟩
end
end L2
namespace L2
noncomputable def fE (K:Yy)(H:Hp)(a:YM)(xs:List V):Prop :=
 Rd H a (.lst xs) ∨
  ∃(o:Obj) (aq:Array Yv) (n:Nat),K.lookup a=some o∧o.cls=.type "list"∧o.dict=none∧o.data=.seq aq n∧aq.size≤Yx∧aQ xs aq.toList
noncomputable def fR (K:Yy)(H:Hp)(a:YM)(xs:List V):Prop :=
 Rd H a (.tup xs) ∨
  ∃(o:Obj) (aq:Array Yv) (n:Nat),K.lookup a=some o∧o.cls=.type "tuple"∧o.data=.seq aq n∧aq.size≤Yx∧aQ xs aq.toList
noncomputable def Qk:Yv→Option V
 | .none=>some .non
 | .bool b=>some (.bl b)
 | .int i _=>some (.int i)
 | .str x _=>some (.str x)
 | .bytes b _=>some (.byt b)
 | .float b _=>some (.flt b)
 | .ref a=>some (.ref a)
 | .type n=>some (.ty n)
 |_=>none
theorem aO.abs {x:V}{u:Yv}(r:aO x u):Qk u=some x:=by
 cases x with
 |non=>cases r;rfl
 |bl _=>cases r;rfl
 |int _=>obtain⟨t,rfl⟩:=r;rfl
 |str _=>obtain⟨t,rfl⟩:=r;rfl
 |byt _=>obtain⟨t,rfl⟩:=r;rfl
 |flt _=>obtain⟨t,rfl⟩:=r;rfl
 |ref _=>cases r;rfl
 |ty _=>cases r;rfl
theorem aO.inj {x:V}{u:Yv}(r:aO x u)(q:aO y u):x=y:=Zg (r.abs.symm.trans q.abs)
theorem aQ.inj:∀{xs ys:List V} {us:List Yv},aQ xs us→aQ ys us→xs=ys
 |_,_,_,.nil,.nil=>rfl
 |_,_,_,.cons r t,.cons r' t'=>by rw[r.inj r',aQ.inj t t']
section
variable {ys:List V}
theorem fE.of (h:H a=some (.lst xs)):fE K H a xs:=.inl (.inl h)
theorem fR.of (h:H a=some (.tup xs)):fR K H a xs:=.inl (.inl h)
theorem aw.list (I:aw X pins σ H s)(h:fE X.K H a xs):∃aq:List Yv,aQ xs aq∧PlainL s.heap a aq.toArray∧xs.length≤Yx:=by
 rcases h with h|⟨o,aq,n,hk,hc,hd,hs,hz,r⟩
 ·obtain⟨z,aq,n,r,e⟩:=h.ok I.hok
  exact⟨aq,r,⟨_,n,e,rfl,rfl,rfl⟩,z⟩
 ·refine⟨aq.toList,r,⟨o,n,I.kIn a o hk,hc,hd,by simpa using hs⟩,?_⟩
  have e:=r.length
  simp only[Yz] at e
  lia
theorem aw.tuple (I:aw X pins σ H s)(h:fR X.K H a xs):∃aq:List Yv,aQ xs aq∧IsTup s.heap a aq.toArray∧xs.length≤Yx:=by
 rcases h with h|⟨o,aq,n,hk,hc,hs,hz,r⟩
 ·obtain⟨z,aq,r,p,_⟩:=h.ok I.hok
  exact⟨aq,r,p,z⟩
 ·refine⟨aq.toList,r,⟨o,I.kIn a o hk,hc,n,by simpa using hs⟩,?_⟩
  have e:=r.length
  simp only[Yz] at e
  lia
theorem aw.list_inj (I:aw X pins σ H s)(h:fE X.K H a xs)(h':fE X.K H a ys):xs=ys:=by
 obtain⟨aq,r,⟨o,n,e,_,_,d⟩,_⟩:=I.list h
 obtain⟨its',r',⟨o',n',e',_,_,d'⟩,_⟩:=I.list h'
 rw[e] at e';cases e'
 rw[d] at d'
 injection d' with d1 _
 have:aq=its':=by simpa using congrArg Array.toList d1
 subst this
 exact r.inj r'
theorem aw.tuple_inj (I:aw X pins σ H s)(h:fR X.K H a xs)(h':fR X.K H a ys):xs=ys:=by
 obtain⟨aq,r,⟨o,e,_,n,d⟩,_⟩:=I.tuple h
 obtain⟨its',r',⟨o',e',_,n',d'⟩,_⟩:=I.tuple h'
 rw[e] at e';cases e'
 rw[d] at d'
 injection d' with d1 _
 have:aq=its':=by simpa using congrArg Array.toList d1
 subst this
 exact r.inj r'
end
noncomputable abbrev Cx.wish (X:Cx)(E:Yv→YK→Prop):Cx:={X with xe:=E}
noncomputable abbrev Cx.nox (X:Cx):Cx:=X.wish fun _ _=>False
theorem Cx.Ok.wish (ok:X.Ok)(E:Yv→YK→Prop):(X.wish E).Ok :=
 ⟨ok.mod,ok.kind,ok.glob,ok.blt,ok.above,ok.inj,ok.has,ok.cab,ok.hd,ok.frames,ok.stk,ok.exf,ok.bs,ok.bsz,ok.noex,ok.exfs,ok.funs,ok.frf⟩
theorem Cx.Ok.unwish (ok:(X.wish E).Ok):X.Ok :=
 ⟨ok.mod,ok.kind,ok.glob,ok.blt,ok.above,ok.inj,ok.has,ok.cab,ok.hd,ok.frames,ok.stk,ok.exf,ok.bs,ok.bsz,ok.noex,ok.exfs,ok.funs,ok.frf⟩
theorem aw.wish (I:aw X pins σ H s)(E:Yv→YK→Prop):aw (X.wish E) pins σ H s:=⟨I.ok.wish E,I.os,I.bare,I.base,I.loc,I.cell,I.free,I.freeC,I.pin,I.hok,I.len⟩
theorem aw.unwish (I:aw (X.wish E) pins σ H s):aw X pins σ H s:=⟨I.ok.unwish,I.os,I.bare,I.base,I.loc,I.cell,I.free,I.freeC,I.pin,I.hok,I.len⟩
theorem SP.unwish {D:j3}{f:Flow}{s':YK}(h:SP (X.wish E) pins D f s'):SP X pins D f s':=by
 cases f with
 |next=>obtain⟨σ',H',I,q⟩:=h;exact⟨σ',H',I.unwish,q⟩
 |brk=>obtain⟨σ',H',I,q⟩:=h;exact⟨σ',H',I.unwish,q⟩
 |cont=>obtain⟨σ',H',I,q⟩:=h;exact⟨σ',H',I.unwish,q⟩
 |ret u=>obtain⟨v,σ',H',I,r,q⟩:=h;exact⟨v,σ',H',I.unwish,r,q⟩
theorem PT.nox {e:aav}{t:TT}(h:PT X.nox e t):PT X e t:=fun pins s σ H Q I hw =>
 ZI (h pins s σ H Q (I.wish _) hw) (fun _ _ ⟨H',I',q⟩=>⟨H',I'.unwish,q⟩) fun _ _ z=>ZV z
theorem mV.nox {st:List adh}(h:mV X.nox st t):mV X st t:=fun pins s σ H D I hw =>
 ZI (h pins s σ H D (I.wish _) hw) (fun _ _ q=>q.unwish) fun _ _ z=>ZV z
section
variable {rest:List adh}{u:TS}{e:aav}
noncomputable def Nb:TS:=fun D σ H=>D.nx σ H
noncomputable def Ql (t u:TS):TS:=fun D σ H=>t {D with nx:=u D} σ H
theorem oz:mV X [] Nb:=fun _ _ σ H _ I h=>acm ⟨σ,H,I,h⟩
theorem eo (h1:PS X st t)(h2:mV X rest u):mV X (st::rest) (Ql t u):=by
 intro pins s σ H D I h
 refine wpAny_execs_cons (dz (h1 pins s σ H {D with nx:=u D} I h) fun f s1 q => ?_)
 cases f with
 |next =>
  obtain⟨σ',H',I',q⟩:=q
  exact h2 pins s1 σ' H' D I' q
 |ret v=>exact q
 |brk=>exact q
 |cont=>exact q
theorem ir (h1:PS X st t):mV X [st] t:=by
 intro pins s σ H D I h
 refine wpAny_execs_cons (dz (h1 pins s σ H D I h) fun f s1 q => ?_)
 cases f with
 |next=>exact acm q
 |ret v=>exact q
 |brk=>exact q
 |cont=>exact q
theorem aw.quiet (I:aw X pins σ H s):interactive X.env=false:=by simp[interactive,I.ok.kind]
noncomputable def Nc (te:TE):TS:=fun D σ H=>te σ H fun _ H1=>D.nx σ H1
theorem FO (he:PE X e te)(hs:adj e none pos.line X.env=pure false:=by rfl):PS X (.Expr e pos) (Nc te):=by
 intro pins s σ H D I h
 exact wpAny_Expr_any (dz (he pins s σ H _ I h) fun v s1 ⟨x,H1,I1,r1,q1⟩=>⟨σ,H1,I1,q1⟩) I.quiet hs
noncomputable def Qm (te:TE):TS:=fun D σ H=>te σ H D.rt
theorem j4 (he:PE X e te):PS X (.Return (some e) pos) (Qm te):=by
 intro pins s σ H D I h
 exact wpAny_Return_some (dz (he pins s σ H _ I h) fun v s1 ⟨x,H1,I1,r1,q1⟩=>⟨x,σ,H1,I1,r1,q1⟩)
noncomputable def Nf (c:TT)(t u:TS):TS:=fun D σ H=>c σ H fun b H1=>if b=true then t D σ H1 else u D σ H1
theorem y3 {a b:List adh}{tc:TT}(hc:PT X c tc)(ha:mV X a t)(hb:mV X b u):PS X (.If c a b pos) (Nf tc t u):=by
 intro pins s σ H D I h
 refine wpAny_If (dz (hc pins s σ H _ I h) fun d s1 ⟨H1,I1,q1⟩ => ?_)
 cases d with
 |true=>exact ha pins s1 σ H1 D I1 q1
 |false=>exact hb pins s1 σ H1 D I1 q1
noncomputable def J_:TS:=fun _ _ _=>False
theorem AS {Mh:List adh}:mV X Mh J_:=fun _ _ _ _ _ _ h=>h.elim
end
noncomputable abbrev TG:=V→St→Hp→(St→Hp→Prop)→Prop
noncomputable abbrev FP:=List V→St→Hp→(St→Hp→Prop)→Prop
noncomputable def PG (X:Cx)(mO:aav)(t:TG):Prop :=
 ∀(pins:List (YM×Obj)) (s:YK) (σ:St) (H:Hp) (v:V) (u:Yv) (Q:St→Hp→Prop),aw X pins σ H s→aO v u→t v σ H Q →
  YR (Y7 X.prog X.w) X.A (assign mO X.env u) (fun _ s'=>∃σ' H',aw X pins σ' H' s'∧Q σ' H') X.xe s
noncomputable def Ie (X:Cx)(ts:List aav)(t:FP):Prop :=
 ∀(pins:List (YM×Obj)) (s:YK) (σ:St) (H:Hp) (vs:List V) (us:List Yv) (Q:St→Hp→Prop),aw X pins σ H s→aQ vs us→t vs σ H Q →
  YR (Y7 X.prog X.w) X.A (assignInOrder ((abz ts X.env).map (·.2)) us) (fun _ s'=>∃σ' H',aw X pins σ' H' s'∧Q σ' H') X.xe s
noncomputable abbrev Ka:=V→V→V→Hp→(Hp→Prop)→Prop
noncomputable def Ng (X:Cx)(t:Ka):Prop :=
 ∀(pins:List (YM×Obj)) (s:YK) (σ:St) (H:Hp) (o i v:V) (ov iv u:Yv) (Q:Hp→Prop),aw X pins σ H s→aO o ov→aO i iv→aO v u→t o i v H Q →
  YR (Y7 X.prog X.w) X.A (setItem ov iv u) (fun _ s'=>∃H',aw X pins σ H' s'∧Q H') X.xe s
noncomputable def y4 (i:Nat):TG:=fun v σ H Q=>Q (σ.set i (some v)) H
theorem FQ (hN:X.N.Nodup)(hi:X.N[i]? = some x)(hx:Ic X.env.scope x)(hf:X.fn x=true∨X.env.scope.names.lookup x=some .local:=by first|exact .inl rfl|exact .inr rfl|assumption):PG X (.Name x pos) (y4 i):=by
 intro pins s σ H v u Q I r h
 exact wpAny_assign_Name (iZ I hN hi hx r (fun s' I'=>⟨_,H,I',h⟩) hf)
noncomputable def Qn:FP:=fun vs σ H Q=>vs=[]∧Q σ H
noncomputable def Nh (t:TG)(u:FP):FP:=fun vs σ H Q=>∃v r,vs=v::r∧t v σ H fun σ' H'=>u r σ' H' Q
theorem FR:Ie X [] Qn:=by
 intro pins s σ H vs us Q I r h
 obtain⟨e,h⟩:=h
 subst e
 cases r
 exact assignInOrder_nil ⟨σ,H,I,h⟩
theorem Cp {e:aav}{es:List aav}{t:TG}{u:FP}(h1:PG X e t)(h2:Ie X es u)
  (hs:(abz (e::es) X.env).map (·.2)=assign e X.env::(abz es X.env).map (·.2):=by rfl):Ie X (e::es) (Nh t u):=by
 intro pins s σ H vs us Q I r h
 obtain⟨v,vr,e1,h⟩:=h
 subst e1
 cases r with
 |cons r rr =>
  rw[hs]
  refine adF (dz (h1 pins s σ H _ _ _ I r h) fun _ s1 ⟨σ1,H1,I1,q1⟩ => ?_)
  exact h2 pins s1 σ1 H1 _ _ Q I1 rr q1
noncomputable def Qo (K:Yy)(n:Nat)(t:FP):TG:=fun v σ H Q=>∃a xs,v=.ref a∧fR K H a xs∧xs.length=n∧t xs σ H Q
theorem Kb {es:List aav}{t:FP}(hc:X.calm=true)(h:Ie X es t)(hn:(abz es X.env).length=n:=by rfl)(fN:(abz es X.env).findIdx? (·.1)=none:=by rfl):PG X (.Tuple es k pos) (Qo X.K n t):=by
 intro pins s σ H v u Q I r hw
 obtain⟨a,xs,e1,hq,hl,hw⟩:=hw
 subst e1
 cases r
 obtain⟨aq,rv,ht,hz⟩:=I.tuple hq
 refine assign_Tuple_tuple (I.ok.hd hc) ht (by simp[hn,←hl,rv.length]) fN fun h' hx => ?_
 have I1:aw X pins σ H {s with heap:=h'}:=I.kept (t':=s.toks) fun b o e=>hx b o (Y0 (YE e)) e
 exact h pins _ σ H xs _ Q I1 (by simpa using rv) hw
noncomputable def Qp (to ti:TE)(t:Ka):TG:=fun v σ H Q=>to σ H fun o H1=>ti σ H1 fun i H2=>t o i v H2 fun H3=>Q σ H3
theorem Kc {o i:aav}{to ti:TE}{t:Ka}(ho:PE X o to)(hi:PE X i ti)(hs:Ng X t)
  (ha:∀v,assign (.Subscript o i pos) X.env v=(do
   let ov ←adi [v] (abE o X.env)
   let iv ←adi [v,ov] (abE i X.env)
   standAt pos
   adi [v,ov,iv] (setItem ov iv v)
   release [v,ov,iv] []):=by intro _;rfl):PG X (.Subscript o i pos) (Qp to ti t):=by
 intro pins s σ H v u Q I r h
 rw[ha]
 refine Yo (ZL (dz (ho pins s σ H _ I h) fun ov s1 ⟨x,H1,I1,r1,q1⟩ => ?_))
 refine Yo (ZL (dz (hi pins s1 σ H1 _ I1 q1) fun iv s2 ⟨y,H2,I2,r2,q2⟩ => ?_))
 refine Yo (wpAny_standAt (Yo (ZL (dz (hs pins s2 σ H2 x y v ov iv u _ I2 r1 r2 r q2) fun _ s3 ⟨H3,I3,q3⟩ => ?_))))
 exact wpAny_release ⟨σ,H3,I3,q3⟩
noncomputable def FT (te:TE)(g:TG):TS:=fun D σ H=>te σ H fun x H1=>g x σ H1 D.nx
theorem Kd {e:aav}{g:TG}(he:PE X e te)(hg:PG X tg g)(hs:swapsWithSole [tg] e pos.line X.env=pure false:=by rfl)(hw:swappedStores [tg] e X.env=pure none:=by rfl)(h1:(abz [tg] X.env).map (·.2)=[assign tg X.env]:=by rfl):PS X (.Assign [tg] e pos) (FT te g):=by
 intro pins s σ H D I h
 refine wpAny_Assign_stores (dz (he pins s σ H _ I h) fun v s1 ⟨x,H1,I1,r1,q1⟩ => ?_) hs hw
 rw[h1]
 exact dz (hg pins s1 σ H1 x v _ I1 r1 q1) fun _ s2 q=>q
theorem oY {e:aav}{uW:Pos}(hN:X.N.Nodup)(hi:X.N[i]? = some x)(hx:Ic X.env.scope x)(he:PE X e te)(hs:adj e (some (.Name x uW)) pos.line X.env=pure false:=by rfl)(hf:X.fn x=true∨X.env.scope.names.lookup x=some .local:=by first|exact .inl rfl|exact .inr rfl|assumption) :
  PS X (.Assign [.Name x uW] e pos) (FT te (y4 i)):=by
 intro pins s σ H D I h
 refine wpAny_Assign_Name (dz (he pins s σ H _ I h) fun v s1 ⟨y,H1,I1,r1,q1⟩ => ?_) hs
 exact iZ I1 hN hi hx r1 (fun s2 I2=>⟨_,H1,I2,q1⟩) hf
noncomputable def Qq (i j:Nat)(ta:TA):TS:=fun D σ H=>ta σ H fun vs H1=>∃v w,vs=[v,w]∧D.nx ((σ.set i (some v)).set j (some w)) H1
theorem Ke {y:Str}{a b:aav}{ta:TA}{px py pt:Pos}{kt k2 pt2}(hc:X.calm=true)(hN:X.N.Nodup)(hi:X.N[i]? = some x)(hj:X.N[j]? = some y)(rE:i≠j)(hx:X.env.scope.names.lookup x=some .local)(hy:X.env.scope.names.lookup y=some .local)(ha:PA X [a,b] ta)(hw:swappedStores [.Tuple [.Name x px,.Name y py] kt pt] (.Tuple [a,b] k2 pt2) X.env=pure (some [x,y]))(hs:swapsWithSole [.Tuple [.Name x px,.Name y py] kt pt] (.Tuple [a,b] k2 pt2) pos.line X.env=pure false:=by rfl) :
  PS X (.Assign [.Tuple [.Name x px,.Name y py] kt pt] (.Tuple [a,b] k2 pt2) pos) (Qq i j ta):=by
 intro pins s σ H D I h
 rw[exec_Assign_arm]
 refine Yo (wpAny_standAt ?_)
 rw[hs]
 refine Yo (Yr ?_)
 rw[if_neg (by decide)]
 refine Yo (Tuple_ (dz (ha _ pins s σ H _ I h) fun us s1 ⟨vs,H1,I1,r1,q1⟩ => ?_))
 obtain⟨v,w,e1,q1⟩:=q1
 subst e1
 obtain⟨u1,u2,rfl,rv,xf⟩:∃u1 u2,us=[u1,u2]∧aO v u1∧aO w u2:=by
  cases r1 with
  |cons p q =>
   cases q with
   |cons p' q' =>
    cases q'
    exact⟨_,_,rfl,p,p'⟩
 refine Y6 ?_ (by show 2≤Yx;decide)
 have I2:aw X pins σ H1 {s1 with heap:=s1.heap.push {cls:=.type "tuple",data:=.seq [u1,u2].toArray}}:=I1.kept (t':=s1.toks) fun b o e=>Yt _ e
 rw[hw]
 refine Yo (Yr ?_)
 show YR (Y7 X.prog X.w) X.A (do rule "assign.swapped-stores";let items ←unpackItems (.ref s1.heap.objs.size) 2 none;assignInOrder [fun v=>bindName X.env y v,fun v=>bindName X.env x v] items.reverse;pure Flow.next) _ _ _
 refine Yo (aaU (Yo (unpackItems_tuple (items:=#[u1,u2]) (I.ok.hd hc) (IsTup.new s1.heap _) fun h' qX => ?_)))
 have I3:=I2.kept (h':=h') (t':=s1.toks) fun b o e=>qX b o (Y0 (YE e)) e
 show YR _ _ (assignInOrder [fun v=>bindName X.env y v,fun v=>bindName X.env x v] [u2,u1] >>= fun _=>pure Flow.next) _ _ _
 refine Yo (adF (wpAny_bindName (iZ I3 hN hj (.inl hy) xf (fun s2 I4 => ?_) (.inr hy))))
 refine adF (wpAny_bindName (iZ I4 hN hi (.inl hx) rv (fun s3 I5=>assignInOrder_nil (Yr ?_)) (.inr hx)))
 rw[List.set_comm _ _ (Ne.symm rE)] at I5
 exact⟨_,H1,I5,q1⟩
noncomputable def Kg (c:TT)(tb:TS):TS:=fun D σ H=>∃W:Nat→St→Hp→Prop,(∃m,W m σ H)∧∀m σ H,W m σ H →
 c σ H fun b H1=>if b=true then ∃N:St→Hp→Prop,(∀σ' H',N σ' H'→∃m',m'<m∧W m' σ' H')∧tb {D with nx:=N,ct:=N,bk:=D.nx} σ H1 else D.nx σ H1
theorem Cq {tc:TT}(hp:aeh (Y7 X.prog X.w) X.A X.env X.xe)(hc:PT X c tc)(hb:mV X body tb):PS X (.While c body [] pos) (Kg tc tb):=by
 intro pins s σ H D I h
 obtain⟨W,⟨m0,w0⟩,turn⟩:=h
 refine wpAny_While (codeAny_whileLoop (fun n s'=>∃σ' H',aw X pins σ' H' s'∧W n σ' H') ?_ m0 ⟨σ,H,I,w0⟩)
 rintro n s1 ⟨σ1,H1,I1,w1⟩
 refine abf hp (dz (hc pins s1 σ1 H1 _ I1 (turn n σ1 H1 w1)) fun b s2 ⟨H2,I2,q2⟩ => ?_)
 cases b with
 |true =>
  obtain⟨N,hN,q2⟩:=q2
  rw[if_pos rfl]
  refine abf hp (dz (hb pins s2 σ1 H2 _ I2 q2) fun f s3 q3 => ?_)
  cases f with
  |next =>
   obtain⟨σ3,H3,I3,n3⟩:=q3
   obtain⟨m',hm,w3⟩:=hN σ3 H3 n3
   exact⟨m',hm,σ3,H3,I3,w3⟩
  |cont =>
   obtain⟨σ3,H3,I3,n3⟩:=q3
   obtain⟨m',hm,w3⟩:=hN σ3 H3 n3
   exact⟨m',hm,σ3,H3,I3,w3⟩
  |brk=>exact q3
  |ret v=>exact q3
 |false =>
  rw[if_neg Yq]
  exact acm ⟨σ1,H2,I2,q2⟩
structure It where
 go:Nat→Hp→Prop
 yld:Nat→Hp→V→Hp→Prop
 stop:Nat→Hp→Prop
noncomputable def nU (X:Cx)(pins:List (YM×Obj))(H:Hp)(b:YM):Prop :=
 H b=none∧b≠X.env.locals∧b∉X.fs∧(b∈X.ex∨X.s₀.heap.objs.size≤b)∧(∀x c,X.env.cells.lookup x=some c→c≠b)∧∀p∈X.pn++pins,p.1≠b
theorem aw.fpOk (I:aw X pins σ H s)(hb:s.heap.objs.size≤b)(hn:H' b=none):nU X pins H' b:=by
 refine⟨hn,abq (Zi I.lt hb),I.nofs hb,.inr (Zd I.sz hb),fun x c e z => ?_,fun p hp z => ?_⟩
 ·obtain⟨v,q⟩:=I.cell x c e
  exact absurd (Zi q.lt (by rw[z];exact hb)) (aaz _)
 ·exact absurd (Zi (YE (I.pin p hp).1) (by rw[z];exact hb)) (aaz _)
structure sV (P:aa1)(w:ack)(K:Yy)(tg:aav)(J:It)(fp:List YM)(it:YM)(tn:Nat→abr→Prop):Prop where
 mem:it∈fp
 obj:∀i h,tn i h→∀b∈fp,∃o,h.get? b=some o∧∀v,o.data≠.cell v
 keep:∀i h h',tn i h→(∀b∈fp,∀o,h.get? b=some o→h'.get? b=some o)→tn i h'
 item:∀(X:Cx),X.prog=P→X.w=w→X.K=K→X.calm=true→∀(i:Nat) (pins:List (YM×Obj)) (s:YK) (σ:St) (H:Hp) (E:Yv→YK→Prop),aw X pins σ H s→(∀b∈fp,nU X pins H b)→tn i s.heap→J.go i H →
  YR (Y7 P w) X.A (acf (.ref it)) (fun r s1=>∃u,r=some u ∧
   YR (Y7 P w) X.A (adk tg (.ref it) u) (fun _ s2=>∃x H',aw X pins σ H' s2∧aO x u∧J.yld i H x H'∧tn (i+1) s2.heap∧∀b∈fp,H' b=none) E s1) E s
 done:∀(X:Cx),X.prog=P→X.w=w→X.K=K→X.calm=true→∀(i:Nat) (pins:List (YM×Obj)) (s:YK) (σ:St) (H:Hp) (E:Yv→YK→Prop),aw X pins σ H s→(∀b∈fp,nU X pins H b)→tn i s.heap→J.stop i H →
  YR (Y7 P w) X.A (acf (.ref it)) (fun r s1=>r=none∧aw X pins σ H s1) E s
 self:∀(A:Zw) (i:Nat) (s:YK) (Q:Yv→YK→Prop) (E:Yv→YK→Prop),tn i s.heap→Q (.ref it) s→YR (Y7 P w) A (pyIter (.ref it)) Q E s
noncomputable abbrev TI:=St→Hp→(It→Hp→Prop)→Prop
noncomputable def UH (X:Cx)(pins:List (YM×Obj))(σ:St)(tg:aav)(R:It→Hp→Prop)(Ro:Yv)(s2:YK):Prop :=
 ∃(it:YM) (fp:List YM) (tn:Nat→abr→Prop) (J:It) (H':Hp),Ro=.ref it∧aw X pins σ H' s2∧sV X.prog X.w X.K tg J fp it tn∧tn 0 s2.heap∧(∀b∈fp,nU X pins H' b)∧R J H'
noncomputable def PI (X:Cx)(tg iter:aav)(wi:TI):Prop :=
 ∀(pins:List (YM×Obj)) (s:YK) (σ:St) (H:Hp) (R:It→Hp→Prop),aw X pins σ H s→wi σ H R →
  YR (Y7 X.prog X.w) X.A (abE iter X.env) (fun v s1=>YR (Y7 X.prog X.w) X.A (pyIter v) (UH X pins σ tg R) X.xe s1) X.xe s
theorem vg {A:Zw}{u:Yv}{o:Obj}{n:String}{vs:Array Yv}{Q:Unit→YK→Prop}(ho:s.heap.get? it=some o)(hc:o.cls=.type n)(hd:o.data=.fields vs)(hn:["enumerate","zip","dict_itemiterator","dict_reverseitemiterator","odict_iterator","itertools.zip_longest","itertools.pairwise"].contains n=false)(hQ:Q () s):YR M A (adk tg (.ref it) u) Q E s:=by
  unfold adk
  cases tg<;>first
    |exact Yr hQ
    | (cases u<;>first
        |exact Yr hQ
        | (refine Yo (wpAny_load ho ?_)
           rw[hc,hd]
           show YR M A (if (["enumerate","zip","dict_itemiterator","dict_reverseitemiterator","odict_iterator","itertools.zip_longest","itertools.pairwise"].contains n&&vs[0]? == some (ab2 _))=true then _ else _) Q E s
           rw[if_neg (by intro h;rw[hn,adS] at h;cases h)]
           exact Yr hQ))
noncomputable def Pt (K:Yy)(a:YM):It :=
 ⟨fun i H=>∃xs x,fE K H a xs∧xs[i]? = some x,fun i H x H'=>H'=H∧∀xs,fE K H a xs→xs[i]? = some x,fun i H=>∃xs,fE K H a xs∧xs.length≤i⟩
noncomputable def Qr (K:Yy)(a:YM):It :=
 ⟨fun i H=>∃xs x,fR K H a xs∧xs[i]? = some x,fun i H x H'=>H'=H∧∀xs,fR K H a xs→xs[i]? = some x,fun i H=>∃xs,fR K H a xs∧xs.length≤i⟩
noncomputable def Pu (lo:Int)(n:Nat):It:=⟨fun i _=>i<n,fun i H x H'=>H'=H∧x=.int (lo+i),fun i _=>n≤i⟩
theorem AU (a it:YM):sV P w K tg (Pt K a) [it] it (fun i h=>h.IsListIter it a i) where
 mem:=by simp
 obj:=fun i h st b hb=>by
  have e:b=it:=by simpa using hb
  subst e
  obtain⟨o,e,c,d⟩:=st
  exact⟨o,e,fun v z=>by rw[d] at z;cases z⟩
 keep:=fun i h h' st k=>st.at fun o e=>k it (by simp) o e
 item:=by
  intro X hP hw hK hc i pins s σ H E I hf st hg
  subst hP hw hK
  obtain⟨xs,x,hq,hx⟩:=hg
  obtain⟨aq,rv,p,hz⟩:=I.list hq
  obtain⟨u,hu,ru⟩:=rv.get hx
  obtain⟨f0,f1,f2,f3,f4,f5⟩:=hf it (by simp)
  refine wpAny_pyNext_list_item st p.isList (x:=u) (by simpa using hu) fun h' aE sb => ?_
  have I1:aw X pins σ H {s with heap:=h'}:=I.turned (t':=s.toks) (fun b o hb e=>(sb.2 b hb).trans e) f0 f1 f3 f4 f5
  obtain⟨o,e,c,d⟩:=id aE
  exact⟨u,rfl,vg (s:={s with heap:=h'}) e c d (by decide) ⟨x,H,I1,ru,⟨rfl,fun ys hy=>by rw[I.list_inj hy hq];exact hx⟩,aE,fun b hb=>(hf b hb).1⟩⟩
 done:=by
  intro X hP hw hK hc i pins s σ H E I hf st hg
  subst hP hw hK
  obtain⟨xs,hq,hx⟩:=hg
  obtain⟨aq,rv,p,hz⟩:=I.list hq
  obtain⟨f0,f1,f2,f3,f4,f5⟩:=hf it (by simp)
  have hl:=rv.length
  exact wpAny_pyNext_list_end (I.ok.hd hc) st p.isList (by simp;lia) fun h' eb=>⟨rfl,I.turned (t':=s.toks) (fun b o hb e=>eb b o hb e) f0 f1 f3 f4 f5⟩
 self:=fun _ _ _ _ _ st h=>wpAny_pyIter_listiter st h
theorem xp (a it:YM):sV P w K tg (Qr K a) [it] it (fun i h=>h.IsTupleIter it a i) where
 mem:=by simp
 obj:=fun i h st b hb=>by
  have e:b=it:=by simpa using hb
  subst e
  obtain⟨o,e,c,d⟩:=st
  exact⟨o,e,fun v z=>by rw[d] at z;cases z⟩
 keep:=fun i h h' st k=>st.at fun o e=>k it (by simp) o e
 item:=by
  intro X hP hw hK hc i pins s σ H E I hf st hg
  subst hP hw hK
  obtain⟨xs,x,hq,hx⟩:=hg
  obtain⟨aq,rv,p,hz⟩:=I.tuple hq
  obtain⟨u,hu,ru⟩:=rv.get hx
  obtain⟨f0,f1,f2,f3,f4,f5⟩:=hf it (by simp)
  refine wpAny_pyNext_tuple_item st (show s.heap.IsTuple a aq.toArray from p) (x:=u) (by simpa using hu) fun h' aE sb => ?_
  have I1:aw X pins σ H {s with heap:=h'}:=I.turned (t':=s.toks) (fun b o hb e=>(sb.2 b hb).trans e) f0 f1 f3 f4 f5
  obtain⟨o,e,c,d⟩:=id aE
  exact⟨u,rfl,vg (s:={s with heap:=h'}) e c d (by decide) ⟨x,H,I1,ru,⟨rfl,fun ys hy=>by rw[I.tuple_inj hy hq];exact hx⟩,aE,fun b hb=>(hf b hb).1⟩⟩
 done:=by
  intro X hP hw hK hc i pins s σ H E I hf st hg
  subst hP hw hK
  obtain⟨xs,hq,hx⟩:=hg
  obtain⟨aq,rv,p,hz⟩:=I.tuple hq
  obtain⟨f0,f1,f2,f3,f4,f5⟩:=hf it (by simp)
  have hl:=rv.length
  exact wpAny_pyNext_tuple_end (I.ok.hd hc) st (show s.heap.IsTuple a aq.toArray from p) (by simp;lia) fun h' eb=>⟨rfl,I.turned (t':=s.toks) (fun b o hb e=>eb b o hb e) f0 f1 f3 f4 f5⟩
 self:=fun _ _ _ _ _ st h=>wpAny_pyIter_tupleiter st h
theorem xq (it:YM)(lo:Int)(n:Nat):sV P w K tg (Pu lo n) [it] it (fun i h=>IsRangeIter h it (lo+(i:Nat)*1) ((n:Int) - (i:Nat)) 1) where
 mem:=by simp
 obj:=fun i h st b hb=>by
  have e:b=it:=by simpa using hb
  subst e
  exact⟨_,st,fun v z=>by
   have z':Data.fields _=Data.cell v:=z
   cases z'⟩
 keep:=fun i h h' st k=>k it (by simp) _ st
 item:=by
  intro X hP hw hK hc i pins s σ H E I hf st hg
  subst hP hw hK
  obtain⟨f0,f1,f2,f3,f4,f5⟩:=hf it (by simp)
  have W:=Walks.range (prog:=X.prog) (w:=X.w) (I.ok.hd hc) it lo 1 n
  refine W.item i s _ _ hg st fun v h' tk hv aE kk => ?_
  obtain⟨t,rfl⟩:=hv
  have I1:aw X pins σ H {s with heap:=h',toks:=tk}:=I.turned (fun b o hb e=>kk b o (by simpa using hb) e) f0 f1 f3 f4 f5
  refine⟨_,rfl,vg (s:={s with heap:=h',toks:=tk}) (n:="range_iterator") aE rfl rfl (by decide) ⟨.int (lo+i),H,I1,⟨t,?_⟩,⟨rfl,rfl⟩,aE,fun b hb=>(hf b hb).1⟩⟩
  rw[Int.mul_one]
 done:=by
  intro X hP hw hK hc i pins s σ H E I hf st hg
  subst hP hw hK
  obtain⟨f0,f1,f2,f3,f4,f5⟩:=hf it (by simp)
  exact wpAny_pyNext_range_end (I.ok.hd hc) st (by have:n≤i:=hg;lia) fun h' eb=>⟨rfl,I.turned (t':=s.toks) (fun b o hb e=>eb b o hb e) f0 f1 f3 f4 f5⟩
 self:=fun _ _ _ _ _ st h=>wpAny_pyIter_rangeiter st h
end L2
namespace L2
noncomputable def Ni (K:Yy)(tl:TE):TI:=fun σ H R=>tl σ H fun x H1=>∃a,x=.ref a∧(∃xs,fE K H1 a xs)∧R (Pt K a) H1
noncomputable def Qs (K:Yy)(tl:TE):TI:=fun σ H R=>tl σ H fun x H1=>∃a,x=.ref a∧(∃xs,fR K H1 a xs)∧R (Qr K a) H1
theorem FU {l:aav}{tl:TE}(hl:PE X l tl):PI X tg l (Ni X.K tl):=by
 intro pins s σ H R I h
 refine dz (hl pins s σ H _ I h) fun v s1 ⟨x,H1,I1,r1,q1⟩ => ?_
 obtain⟨a,e,⟨xs,hq⟩,q⟩:=q1
 subst e
 cases r1
 obtain⟨aq,rv,p,hz⟩:=I1.list hq
 refine acE p.isList ?_
 refine⟨s1.heap.objs.size,[s1.heap.objs.size],_,_,H1,rfl,I1.kept (t':=s1.toks) fun b o e=>Yt _ e,AU a _,⟨_,YA _ rfl,rfl,rfl⟩,fun b hb => ?_,q⟩
 have e:b=s1.heap.objs.size:=by simpa using hb
 subst e
 exact I1.fpOk (YC _) (I1.hok.fresh (YC _))
theorem Kh {l:aav}{tl:TE}(hl:PE X l tl):PI X tg l (Qs X.K tl):=by
 intro pins s σ H R I h
 refine dz (hl pins s σ H _ I h) fun v s1 ⟨x,H1,I1,r1,q1⟩ => ?_
 obtain⟨a,e,⟨xs,hq⟩,q⟩:=q1
 subst e
 cases r1
 obtain⟨aq,rv,p,hz⟩:=I1.tuple hq
 refine wpAny_pyIter_tuple (show s1.heap.IsTuple a aq.toArray from p) ?_
 refine⟨s1.heap.objs.size,[s1.heap.objs.size],_,_,H1,rfl,I1.kept (t':=s1.toks) fun b o e=>Yt _ e,xp a _,⟨_,YA _ rfl,rfl,rfl⟩,fun b hb => ?_,q⟩
 have e:b=s1.heap.objs.size:=by simpa using hb
 subst e
 exact I1.fpOk (YC _) (I1.hok.fresh (YC _))
theorem Cr {R:It→Hp→Prop}{lo hi:Int}{t u v:Tok}{tk:Nat}(I:aw X pins σ H s)(h1 : -(2 ^ 62)≤lo)(h2:lo<2 ^ 62)(h3 : -(2 ^ 62)≤hi)(h4:hi<2 ^ 62)(q:R (Pu lo (hi - lo).toNat) H):YR (Y7 X.prog X.w) X.A (pyIter (.ref s.heap.objs.size)) (UH X pins σ tg R) E {s with heap:=s.heap.push {cls:=.type "range",data:=.fields #[.int lo t,.int hi u,.int 1 v]},toks:=tk}:=by
 refine wpAny_pyIter_range (IsRange.new ..) (small_one h1 h2 h3 h4) ?_
 have I1:aw X pins σ H {s with heap:=s.heap.push {cls:=.type "range",data:=.fields #[.int lo t,.int hi u,.int 1 v]},toks:=tk}:=I.kept fun b o e=>Yt _ e
 refine⟨(s.heap.push {cls:=.type "range",data:=.fields #[.int lo t,.int hi u,.int 1 v]}).objs.size,[(s.heap.push {cls:=.type "range",data:=.fields #[.int lo t,.int hi u,.int 1 v]}).objs.size],_,_,H,rfl,
  I1.kept (t':=tk) fun b o e=>Yt _ e,xq _ lo (hi - lo).toNat,?_,fun b hb => ?_,q⟩
 ·have e1:lo+((0:Nat):Int)*1=lo:=by simp
  have e2:(((hi - lo).toNat:Nat):Int) - ((0:Nat):Int)=acn lo hi 1:=by rw[rangeSize_one];split<;>lia
  show IsRangeIter _ _ (lo+((0:Nat):Int)*1) ((((hi - lo).toNat:Nat):Int) - ((0:Nat):Int)) 1
  rw[e1,e2]
  exact YA _ rfl
 ·have e:b=(s.heap.push {cls:=.type "range",data:=.fields #[.int lo t,.int hi u,.int 1 v]}).objs.size:=by simpa using hb
  subst e
  exact I1.fpOk (YC _) (I1.hok.fresh (YC _))
noncomputable def Nj (ta:TA):TI:=fun σ H R=>ta σ H fun vs H1=>∃j:Int,vs=[.int j] ∧ -(2 ^ 62)≤j∧j<2 ^ 62∧R (Pu 0 j.toNat) H1
theorem AV {a:aav}{ta:TA}{p:Pos}(hg:Gl X "range")(hm:X.mg "range"=none)(ha:PA X [a] ta)(hs:YF [a] X.env=[(false,abE a X.env)]:=by rfl):PI X tg (.Call (.Name "range" p) [a] [] pos) (Nj ta):=by
 intro pins s σ H R I h
 refine Call_ (oX I hg hm boot_range (abM (dz (ha pos pins s σ H _ I h) fun us s1 ⟨vs,H1,I1,r1,q1⟩ => ?_) hs rfl))
 obtain⟨j,e,q1,q2,q⟩:=q1
 subst e
 cases r1 with
 |cons r rr =>
  cases rr
  obtain⟨t,rfl⟩:=r
  exact call_range_1 (Cr I1 (by lia) (by lia) q1 q2 (by simpa using q))
noncomputable def Qt (wi:TI)(g:TG)(tb:TS):TS:=fun D σ H=>wi σ H fun J H1=>∃W:Nat→Nat→St→Hp→Prop,(∃m,W 0 m σ H1)∧∀i m σ H,W i m σ H →
 (J.stop i H∧D.nx σ H)∨(J.go i H∧∃N:St→Hp→Prop,(∀σ' H',N σ' H'→∃m',m'<m∧W (i+1) m' σ' H')∧∀x H',J.yld i H x H'→g x σ H' fun σ2 H2=>tb {D with nx:=N,ct:=N,bk:=D.nx} σ2 H2)
noncomputable def oZ (fp:List YM)(h:abr):List (YM×Obj):=fp.filterMap fun b=>(h.get? b).map fun o=>(b,o)
theorem iu {o:Obj}(hb:b∈fp)(e:h.get? b=some o):(b,o)∈oZ fp h:=adG.mpr ⟨b,hb,by rw[e];rfl⟩
theorem AW {p:YM×Obj}(hp:p∈oZ fp h):p.1∈fp∧h.get? p.1=some p.2:=by
 obtain⟨b,hb,e⟩:=adG.mp hp
 cases q:h.get? b with
 |none=>rw[q] at e;cases e
 |some o =>
  rw[q] at e
  have e':(b,o)=p:=Zg e
  subst e'
  exact⟨hb,q⟩
theorem aw.pinned (I:aw X pins σ H s)(hf:∀b∈fp,nU X pins H b)(ho:∀b∈fp,∃o,s.heap.get? b=some o∧∀v,o.data≠.cell v):aw X (pins++oZ fp s.heap) σ H s :=
 I.pins_of fun p hp=>(Y4.mp hp).elim (fun z=>I.pin p (Za _ z)) fun z=>by
  obtain⟨hb,e⟩:=AW z
  obtain⟨f0,f1,f2,_⟩:=hf p.1 hb
  obtain⟨o,e',d⟩:=ho p.1 hb
  rw[e] at e';cases e'
  exact⟨e,f0,f1,f2,d⟩
theorem aw.unpinned {pl:List (YM×Obj)}(I:aw X (pins++pl) σ H s):aw X pins σ H s:=I.pins_of fun p hp=>I.pin p (Za _ (aat _ hp))
theorem Ki {wi:TI}{g:TG}(hp:aeh (Y7 X.prog X.w) X.A X.env X.xe)(hc:X.calm=true)(hi:PI X tg iter wi)(hg:PG X tg g)(hb:mV X body tb)(hs:∀x,abg iter X.env x=pure x:=by intro _;rfl):PS X (.For tg iter body [] pos) (Qt wi g tb):=by
 intro pins s σ H D I h
 refine wpAny_For (dz (hi pins s σ H _ I h) fun v s1 h1=>dz h1 fun Ro s2 h2 => ?_) hs
 obtain⟨it,fp,tn,J,H2,e,I2,T,jL,f2,W,⟨m0,w0⟩,turn⟩:=h2
 subst e
 have Mi:∀{H':Hp},(∀b∈fp,H' b=none)→∀b∈fp,nU X pins H' b:=fun hn b hb=>⟨hn b hb,(f2 b hb).2⟩
 refine codeAny_forLoop_any (fun n s'=>∃i σ' H',aw X pins σ' H' s'∧tn i s'.heap∧(∀b∈fp,H' b=none)∧W i n σ' H') ?_ m0 ⟨0,σ,H2,I2,jL,fun b hb=>(f2 b hb).1,w0⟩
 rintro n s3 ⟨i,σ3,H3,I3,FG,fr3,w3⟩
 rcases turn i n σ3 H3 w3 with⟨stop,qn⟩|⟨go,N,hN,step⟩
 ·refine abf hp (dz (T.done X rfl rfl rfl hc i pins s3 σ3 H3 X.xe I3 (Mi fr3) FG stop) fun r s4 ⟨hr,I4⟩ => ?_)
  subst hr
  exact acm ⟨σ3,H3,I4,qn⟩
 ·refine abf hp (dz (T.item X rfl rfl rfl hc i pins s3 σ3 H3 X.xe I3 (Mi fr3) FG go) fun r s4 ⟨u,hr,h4⟩ => ?_)
  subst hr
  refine abf hp (dz h4 fun _ s5 ⟨x,H5,I5,r5,y5,st5,fr5⟩ => ?_)
  have Rq:=I5.pinned (Mi fr5) (T.obj _ _ st5)
  refine abf hp (dz (hg _ s5 σ3 H5 x u _ Rq r5 (step x H5 y5)) fun _ s6 ⟨σ6,H6,I6,q6⟩ => ?_)
  refine abf hp (dz (hb _ s6 σ6 H6 _ I6 q6) fun f s7 q7 => ?_)
  have again:∀{σ7:St} {H7:Hp},aw X (pins++oZ fp s5.heap) σ7 H7 s7→N σ7 H7→∃m,m<n∧∃i σ' H',aw X pins σ' H' s7∧tn i s7.heap∧(∀b∈fp,H' b=none)∧W i m σ' H':=fun {σ7 H7} I7 n7=>by
   obtain⟨m',hm,w7⟩:=hN σ7 H7 n7
   refine⟨m',hm,i+1,σ7,H7,I7.unpinned,T.keep _ _ _ st5 fun b hb o e=>(I7.pin (b,o) (Za _ (Za _ (iu hb e)))).1,fun b hb => ?_,w7⟩
   obtain⟨o,e,d⟩:=T.obj _ _ st5 b hb
   exact (I7.pin (b,o) (Za _ (Za _ (iu hb e)))).2.1
  cases f with
  |next=>obtain⟨σ7,H7,I7,n7⟩:=q7;exact again I7 n7
  |cont=>obtain⟨σ7,H7,I7,n7⟩:=q7;exact again I7 n7
  |brk=>obtain⟨σ7,H7,I7,q7⟩:=q7;exact⟨σ7,H7,I7.unpinned,q7⟩
  |ret v=>obtain⟨x7,σ7,H7,I7,r7,q7⟩:=q7;exact⟨x7,σ7,H7,I7.unpinned,r7,q7⟩
end L2
namespace L2
noncomputable abbrev R2:=V→V→Hp→VK→Prop
noncomputable def j5 (X:Cx)(f:Yv→Yv→Sem Yv)(r:R2):Prop :=
 ∀(pins:List (YM×Obj)) (s:YK) (σ:St) (H:Hp) (x y:V) (v u:Yv) (Q:VK),aw X pins σ H s→aO x v→aO y u→r x y H Q →
  YR (Y7 X.prog X.w) X.A (f v u) (EP X pins σ Q) X.xe s
noncomputable def dR (X:Cx)(f:Yv)(r:List V→Hp→VK→Prop):Prop :=
 ∀(pins:List (YM×Obj)) (s:YK) (σ:St) (H:Hp) (xs:List V) (us:List Yv) (Q:VK),aw X pins σ H s→aQ xs us→r xs H Q →
  YR (Y7 X.prog X.w) X.A (call f us) (EP X pins σ Q) X.xe s
noncomputable def Qu (X:Cx)(r:V→Hp→(Bool→Hp→Prop)→Prop):Prop :=
 ∀(pins:List (YM×Obj)) (s:YK) (σ:St) (H:Hp) (x:V) (v:Yv) (Q:Bool→Hp→Prop),aw X pins σ H s→aO x v→r x H Q →
  YR (Y7 X.prog X.w) X.A (truthy v) (TP X pins σ Q) X.xe s
noncomputable def Nk (r:R2)(ta tb:TE):TE:=fun σ H Q=>ta σ H fun x H1=>tb σ H1 fun y H2=>r x y H2 Q
noncomputable def rI (C:Int→Int→Prop)(g:Int→Int→V):R2:=fun x y H Q=>∃i j,x=.int i∧y=.int j∧C i j∧Q (g i j) H
noncomputable def AX (g:Int→Int→V):R2:=fun x y H Q=>∃i j,x=.int i∧y=.int j∧Q (g i j) H
section
variable {a b:aav}{ta tb tc:TE}
theorem Kj (ha:PE X a ta)(hb:PE X b tb){R:V→V→Hp→Prop}(I:aw X pins σ H s)(h:ta σ H fun x H1=>tb σ H1 fun y H2=>R x y H2){f:Yv→Yv→Sem Yv}(hf:∀v u s2 x y H2,aw X pins σ H2 s2→aO x v→aO y u→R x y H2→YR (Y7 X.prog X.w) X.A (f v u) Q X.xe s2) :
  YR (Y7 X.prog X.w) X.A (abE a X.env) (fun v s₁=>YR (Y7 X.prog X.w) X.A (abE b X.env) (fun u s₂=>YR (Y7 X.prog X.w) X.A (f v u) Q X.xe s₂) X.xe s₁) X.xe s:=by
 refine dz (ha pins s σ H _ I h) fun v s1 ⟨x,H1,I1,r1,q1⟩ => ?_
 refine dz (hb pins s1 σ H1 _ I1 q1) fun u s2 ⟨y,H2,I2,r2,q2⟩ => ?_
 exact hf v u s2 x y H2 I2 r1 r2 q2
theorem Ig {op:Operator}{r:R2}(ho:j5 X (abI op) r)(ha:PE X a ta)(hb:PE X b tb):PE X (.BinOp a op b pos) (Nk r ta tb):=by
 intro pins s σ H Q I h
 exact wpAny_BinOp (Kj ha hb I h fun v u s2 x y H2 I2 rx ry q=>ho pins s2 σ H2 x y v u Q I2 rx ry q)
theorem Pw {f:Yv→Yv→Sem Yv}{C:Int→Int→Prop}{g:Int→Int→Int}
  (rule:∀(i j:Int) (t u:Tok) (s:YK) (Q:Yv→YK→Prop) (E:Yv→YK→Prop),C i j→Q (.int (g i j) s.toks) {s with toks:=s.toks+1}→YR (Y7 X.prog X.w) X.A (f (.int i t) (.int j u)) Q E s) :
  j5 X f (rI C fun i j=>.int (g i j)):=by
 intro pins s σ H x y v u Q I rx ry h
 obtain⟨i,j,rfl,rfl,hc,q⟩:=h
 obtain⟨t,rfl⟩:=rx
 obtain⟨t',rfl⟩:=ry
 exact rule i j t t' s _ _ hc ⟨.int (g i j),H,I.tok _,⟨_,rfl⟩,q⟩
theorem Nl {f:Yv→Yv→Sem Yv}{g:Int→Int→Int}
  (rule:∀(i j:Int) (t u:Tok) (s:YK) (Q:Yv→YK→Prop) (E:Yv→YK→Prop),Q (.int (g i j) s.toks) {s with toks:=s.toks+1}→YR (Y7 X.prog X.w) X.A (f (.int i t) (.int j u)) Q E s) :
  j5 X f (AX fun i j=>.int (g i j)):=by
 intro pins s σ H x y v u Q I rx ry h
 obtain⟨i,j,rfl,rfl,q⟩:=h
 obtain⟨t,rfl⟩:=rx
 obtain⟨t',rfl⟩:=ry
 exact rule i j t t' s _ _ ⟨.int (g i j),H,I.tok _,⟨_,rfl⟩,q⟩
theorem Kk {f:Yv→Yv→Sem Yv}{g:Int→Int→Bool}
  (rule:∀(i j:Int) (t u:Tok) (s:YK) (Q:Yv→YK→Prop) (E:Yv→YK→Prop),Q (.bool (g i j)) s→YR (Y7 X.prog X.w) X.A (f (.int i t) (.int j u)) Q E s) :
  j5 X f (AX fun i j=>.bl (g i j)):=by
 intro pins s σ H x y v u Q I rx ry h
 obtain⟨i,j,rfl,rfl,q⟩:=h
 obtain⟨t,rfl⟩:=rx
 obtain⟨t',rfl⟩:=ry
 exact rule i j t t' s _ _ ⟨.bl (g i j),H,I,rfl,q⟩
noncomputable def Nm (i j:Int):Prop:=0≤j∧j≤1000000∧i.natAbs<2 ^ 64
noncomputable def FV (i j:Int):Prop:=(-(2 ^ 64)<i∧i<2 ^ 64)∨(-(2 ^ 64)<j∧j<2 ^ 64)
theorem FV.ok {i j:Int}(h:FV i j):IntMulOk i j:=by
 rcases h with⟨h1,h2⟩|⟨h1,h2⟩
 ·exact .of_left (intBits_le_64 h1 h2)
 ·exact .of_right (intBits_le_64 h1 h2)
theorem Kl:j5 X (abI .Add) (AX fun i j=>.int (i+j)):=Nl fun _ _ _ _ _ _ _ q=>add_int q
theorem Km:j5 X (abI .Sub) (AX fun i j=>.int (i - j)):=Nl fun _ _ _ _ _ _ _ q=>sub_int q
theorem iw:j5 X (abI .Mult) (rI FV fun i j=>.int (i*j)):=Pw fun _ _ _ _ _ _ _ hc q=>mul_int q hc.ok
theorem i0:j5 X (abI .Mod) (rI (fun _ j=>0<j) fun i j=>.int (i % j)):=Pw fun i j _ _ _ _ _ hc q=>by
 have h1:(0:Int)<j:=hc
 exact mod_int' (by lia) (by rw[Int.fmod_eq_emod_of_nonneg i (by lia)];exact q)
theorem Cs:j5 X (abI .Pow) (rI Nm fun i j=>.int (i ^ j.toNat)):=Pw fun _ _ _ _ _ _ _ hc q=>pow_int_small hc.1 hc.2.1 hc.2.2 q
end
noncomputable def Nn:V→V→Bool
 | .non,.non=>true|.non,.int _=>true|.int _,.non=>true|.non,.bl _=>true|.bl _,.non=>true|.non,.str _=>true|.str _,.non=>true
 | .int _,.int _=>true|.bl _,.bl _=>true|.str _,.str _=>true|.byt _,.byt _=>true
 | .int _,.str _=>true|.str _,.int _=>true|.bl _,.str _=>true|.str _,.bl _=>true
 |_,_=>false
noncomputable def UI:R2:=fun x y H Q=>Nn x y=true∧Q (.bl (decide (x=y))) H
noncomputable def UJ:R2:=fun x y H Q=>Nn x y=true∧Q (.bl (!decide (x=y))) H
theorem oA {i j:Int}:decide (V.int i=V.int j)=(i==j):=by
 rw[aap]
 simp
theorem sW {i j:Bool}:decide (V.bl i=V.bl j)=(i==j):=by
 rw[aap]
 simp
theorem oB {i j:Str}:decide (V.str i=V.str j)=(i==j):=by
 rw[aap]
 simp
theorem y9 {i j:Array UInt8}:decide (V.byt i=V.byt j)=(i.toList==j.toList):=by
 rw[aap]
 cases i
 cases j
 simp
section
variable {a b:aav}{ta tb tc:TE}
theorem bx {Q:VK}{k k':Bool}(I:aw X pins σ H s)(q:Q (.bl k) H)(e:k=k'):EP X pins σ Q (.bool k') s:=by
 subst e
 exact⟨.bl k,H,I,rfl,q⟩
theorem kD:j5 X (abL .Eq) UI:=by
 intro pins s σ H x y v u Q I rx ry h
 obtain⟨hs,q⟩:=h
 cases x with
 |non =>
  cases rx
  cases y with
  |non=>cases ry;exact PySem.EqNone.eq_none_none (bx I q (by simp))
  |bl j=>cases ry;exact PySem.EqNone.eq_none_bool (bx I q (by simp))
  |int j=>obtain⟨t',rfl⟩:=ry;exact PySem.EqNone.eq_none_int (bx I q (by simp))
  |str j=>obtain⟨t',rfl⟩:=ry;exact PySem.EqNone.eq_none_str (bx I q (by simp))
  |_=>exact absurd (show false=true from hs) Yq
 |bl i =>
  cases rx
  cases y with
  |non=>cases ry;exact PySem.EqNone.eq_bool_none (bx I q (by simp))
  |bl j=>cases ry;exact eq_bool (bx I q sW)
  |str j=>obtain⟨t',rfl⟩:=ry;exact PySem.EqMixed.eq_bool_str (bx I q (by simp))
  |_=>exact absurd (show false=true from hs) Yq
 |int i =>
  obtain⟨t,rfl⟩:=rx
  cases y with
  |non=>cases ry;exact PySem.EqNone.eq_int_none (bx I q (by simp))
  |int j=>obtain⟨t',rfl⟩:=ry;exact eq_int (bx I q oA)
  |str j=>obtain⟨t',rfl⟩:=ry;exact PySem.EqMixed.eq_int_str (bx I q (by simp))
  |_=>exact absurd (show false=true from hs) Yq
 |str i =>
  obtain⟨t,rfl⟩:=rx
  cases y with
  |non=>cases ry;exact PySem.EqNone.eq_str_none (bx I q (by simp))
  |bl j=>cases ry;exact PySem.EqMixed.eq_str_bool (bx I q (by simp))
  |int j=>obtain⟨t',rfl⟩:=ry;exact PySem.EqMixed.eq_str_int (bx I q (by simp))
  |str j=>obtain⟨t',rfl⟩:=ry;exact eq_str (bx I q oB)
  |_=>exact absurd (show false=true from hs) Yq
 |byt i =>
  obtain⟨t,rfl⟩:=rx
  cases y with
  |byt j=>obtain⟨t',rfl⟩:=ry;exact PySem.W.eq_bytes (bx I q y9)
  |_=>exact absurd (show false=true from hs) Yq
 |_=>cases y<;>exact absurd (show false=true from hs) Yq
theorem rH:j5 X (abL .NotEq) UJ:=by
 intro pins s σ H x y v u Q I rx ry h
 obtain⟨hs,q⟩:=h
 cases x with
 |non =>
  cases rx
  cases y with
  |non=>cases ry;exact PySem.EqNone.ne_none_none (bx I q (by simp))
  |bl j=>cases ry;exact PySem.EqNone.ne_none_bool (bx I q (by simp))
  |int j=>obtain⟨t',rfl⟩:=ry;exact PySem.EqNone.ne_none_int (bx I q (by simp))
  |str j=>obtain⟨t',rfl⟩:=ry;exact PySem.EqNone.ne_none_str (bx I q (by simp))
  |_=>exact absurd (show false=true from hs) Yq
 |bl i =>
  cases rx
  cases y with
  |non=>cases ry;exact PySem.EqNone.ne_bool_none (bx I q (by simp))
  |bl j=>cases ry;exact ne_bool (bx I q (congrArg not sW))
  |str j=>obtain⟨t',rfl⟩:=ry;exact PySem.EqMixed.ne_bool_str (bx I q (by simp))
  |_=>exact absurd (show false=true from hs) Yq
 |int i =>
  obtain⟨t,rfl⟩:=rx
  cases y with
  |non=>cases ry;exact PySem.EqNone.ne_int_none (bx I q (by simp))
  |int j=>obtain⟨t',rfl⟩:=ry;exact ne_int (bx I q (congrArg not oA))
  |str j=>obtain⟨t',rfl⟩:=ry;exact PySem.EqMixed.ne_int_str (bx I q (by simp))
  |_=>exact absurd (show false=true from hs) Yq
 |str i =>
  obtain⟨t,rfl⟩:=rx
  cases y with
  |non=>cases ry;exact PySem.EqNone.ne_str_none (bx I q (by simp))
  |bl j=>cases ry;exact PySem.EqMixed.ne_str_bool (bx I q (by simp))
  |int j=>obtain⟨t',rfl⟩:=ry;exact PySem.EqMixed.ne_str_int (bx I q (by simp))
  |str j=>obtain⟨t',rfl⟩:=ry;exact ne_str (bx I q (congrArg not oB))
  |_=>exact absurd (show false=true from hs) Yq
 |byt i =>
  obtain⟨t,rfl⟩:=rx
  cases y with
  |byt j=>obtain⟨t',rfl⟩:=ry;exact PySem.W.ne_bytes (bx I q (congrArg not y9))
  |_=>exact absurd (show false=true from hs) Yq
 |_=>cases y<;>exact absurd (show false=true from hs) Yq
theorem Ct:j5 X (abL .Lt) (AX fun i j=>.bl (decide (i<j))):=Kk fun _ _ _ _ _ _ _ q=>lt_int q
theorem vh:j5 X (abL .Gt) (AX fun i j=>.bl (decide (j<i))):=Kk fun _ _ _ _ _ _ _ q=>gt_int q
theorem Np:j5 X (abL .GtE) (AX fun i j=>.bl (decide (j≤i))):=Kk fun _ _ _ _ _ _ _ q=>ge_int q
theorem j5.or {f:Yv→Yv→Sem Yv}{r r':R2}(h:j5 X f r)(h':j5 X f r'):j5 X f (fun x y H Q=>r x y H Q∨r' x y H Q):=by
 intro pins s σ H x y v u Q I rx ry q
 rcases q with q|q
 ·exact h pins s σ H x y v u Q I rx ry q
 ·exact h' pins s σ H x y v u Q I rx ry q
theorem bK (b:aav)(h:op≠.In:=by decide)(h2:op≠.NotIn:=by decide):abR op b=false:=by
 have e1:(op==CmpOp.In)=false:=by cases op<;>first|rfl|exact absurd rfl h
 have e2:(op==CmpOp.NotIn)=false:=by cases op<;>first|rfl|exact absurd rfl h2
 cases b<;>simp[abR,e1,e2]
theorem FW {r:R2}(ho:j5 X (abL op) r)(ha:PE X a ta)(hb:PE X b tb)(hm:abR op b=false):PE X (.Compare a [op] [b] pos) (Nk r ta tb):=by
 intro pins s σ H Q I h
 exact wpAny_Compare1 (Kj ha hb I h fun v u s2 x y H2 I2 rx ry q=>ho pins s2 σ H2 x y v u Q I2 rx ry q) hm
noncomputable def Nq (t:TE):TT:=fun σ H Q=>t σ H fun x H'=>∃k,x=.bl k∧Q k H'
theorem y_ {r:R2}(ho:j5 X (abL op) r)(ha:PE X a ta)(hb:PE X b tb)(hm:abR op b=false):PT X (.Compare a [op] [b] pos) (Nq (Nk r ta tb)):=by
 intro pins s σ H Q I h
 refine wpAny_isTrue_Compare1 (dz (ha pins s σ H _ I h) fun v s1 ⟨x,H1,I1,r1,q1⟩=>dz (hb pins s1 σ H1 _ I1 q1) fun u s2 ⟨y,H2,I2,r2,q2⟩ =>
  dz (ho pins s2 σ H2 x y v u _ I2 r1 r2 q2) fun c s3 ⟨z,H3,I3,r3,k,e,q3⟩ => ?_) hm
 subst e
 cases r3
 exact abe ⟨H3,I3,q3⟩
noncomputable def Qv (K:Yy)(x:V)(H:Hp)(k:Bool):Prop :=
 match x with
 | .non=>k=false
 | .bl b=>k=b
 | .int i=>k=(i != 0)
 | .str y=>y.length≤Yx∧k=((y.length:Int) != 0)
 | .byt y=>y.size≤Yx∧k=((y.size:Int) != 0)
 | .ref p=>(∃xs,fE K H p xs∧k = !xs.isEmpty)∨(∃xs,fR K H p xs∧k = !xs.isEmpty)∨∃aJ,H p=some (.dK aJ)∧k = !aJ.isEmpty
 |_=>False
theorem xt {κ:Type}{aJ:List (κ×V)}{vs:List (κ×Yv)}(r:KV aJ vs):(!vs.isEmpty) = !aJ.isEmpty:=by
 cases r<;>rfl
theorem o8 (r:aQ xs aq):(!aq.toArray.isEmpty) = !xs.isEmpty:=by
 cases r<;>simp
theorem lZ:(Yx:Nat)<2 ^ 63:=by rw[aaq];decide
theorem Qw:Qu X (fun x H Q=>∃k,Qv X.K x H k∧Q k H):=by
 intro pins s σ H x v Q I rx h
 obtain⟨k,e,q⟩:=h
 have hl:=lZ
 have hs:Yx=16777216:=aaq
 cases x with
 |non =>
  cases rx
  have e':k=false:=e
  subst e'
  exact truthy_none ⟨H,I,q⟩
 |bl b =>
  cases rx
  have e':k=b:=e
  subst e'
  exact abe ⟨H,I,q⟩
 |int i =>
  obtain⟨t,rfl⟩:=rx
  have e':k=(i != 0):=e
  subst e'
  exact PySem.P.truthy_int ⟨H,I,q⟩
 |str y =>
  obtain⟨t,rfl⟩:=rx
  obtain⟨hy,e'⟩:y.length≤Yx∧k=((y.length:Int) != 0):=e
  subst e'
  exact PySem.P.truthy_str (by lia) ⟨H,I.tok _,q⟩
 |byt y =>
  obtain⟨t,rfl⟩:=rx
  obtain⟨hy,e'⟩:y.size≤Yx∧k=((y.size:Int) != 0):=e
  subst e'
  exact PySem.W.truthy_bytes (by lia) ⟨H,I.tok _,q⟩
 |ref p =>
  cases rx
  have e':(∃xs,fE X.K H p xs∧k = !xs.isEmpty)∨(∃xs,fR X.K H p xs∧k = !xs.isEmpty)∨∃aJ,H p=some (.dK aJ)∧k = !aJ.isEmpty:=e
  rcases e' with⟨xs,hx,e'⟩|⟨xs,hx,e'⟩|⟨aJ,hx,e'⟩
  ·subst e'
   obtain⟨aq,r,pl,hz⟩:=I.list hx
   have cU:=r.length
   exact wpAny_truthy_list pl.isList (by simp only[YB];lia) ⟨H,I.tok _,by rw[o8 r];exact q⟩
  ·subst e'
   obtain⟨aq,r,pl,hz⟩:=I.tuple hx
   have cU:=r.length
   exact truthy_tuple pl (by simp only[YB];lia) ⟨H,I.tok _,by rw[o8 r];exact q⟩
  ·subst e'
   obtain⟨hz,hS,vs,r,m⟩:aJ.length≤Yx∧(p==ZQ)=false∧∃vs,KV aJ vs∧s.heap.DictOf (cJ X.prog X.w) p vs:=I.hok p _ hx
   have cU:aJ.length=vs.length:=abt r
   exact wpAny_truthy_dict hS m (by lia) ⟨H,I.tok _,by rw[xt r];exact q⟩
 |_=>exact (show False from e).elim
theorem i4 {x:V}{us:List Yv}(r:aQ [x] us):∃u,us=[u]∧aO x u:=by
 cases r with
 |cons r1 r2=>cases r2;exact⟨_,rfl,r1⟩
theorem rJ {x:V}{us:List Yv}(r:aQ [x,y] us):∃u w',us=[u,w']∧aO x u∧aO y w':=by
 cases r with
 |cons r1 r2 =>
  cases r2 with
  |cons r3 r4=>cases r4;exact⟨_,_,rfl,r1,r3⟩
theorem kE:dR X (.builtin "abs") (fun xs H Q=>∃i,xs=[.int i]∧Q (.int (if i<0 then -i else i)) H):=by
 intro pins s σ H xs us Q I r h
 obtain⟨i,rfl,q⟩:=h
 obtain⟨u,rfl,t,rfl⟩:=i4 r
 exact call_abs_int fun u tk=>⟨.int (if i<0 then -i else i),H,I.tok _,⟨_,rfl⟩,q⟩
theorem AY (hc:X.calm=true):dR X (.builtin "max") (fun xs H Q=>∃i j,xs=[.int i,.int j]∧Q (.int (if j>i then j else i)) H):=by
 intro pins s σ H xs us Q I r h
 obtain⟨i,j,rfl,q⟩:=h
 obtain⟨u,w',rfl,⟨t,rfl⟩,⟨t',rfl⟩⟩:=rJ r
 refine max_two_ints (I.ok.hd hc) fun h' tk k=>⟨_,H,I.kept k,?_,q⟩
 by_cases hj:j>i
 ·rw[if_pos hj,if_pos hj];exact⟨_,rfl⟩
 ·rw[if_neg hj,if_neg hj];exact⟨_,rfl⟩
theorem rK (hc:X.calm=true):dR X (.builtin "min") (fun xs H Q=>∃i j,xs=[.int i,.int j]∧Q (.int (if j<i then j else i)) H):=by
 intro pins s σ H xs us Q I r h
 obtain⟨i,j,rfl,q⟩:=h
 obtain⟨u,w',rfl,⟨t,rfl⟩,⟨t',rfl⟩⟩:=rJ r
 refine min_two_ints (I.ok.hd hc) fun h' tk k=>⟨_,H,I.kept k,?_,q⟩
 by_cases hj:j<i
 ·rw[if_pos hj,if_pos hj];exact⟨_,rfl⟩
 ·rw[if_neg hj,if_neg hj];exact⟨_,rfl⟩
noncomputable def Nr (K:Yy)(x:V)(H:Hp)(n:Nat):Prop :=
 match x with
 | .str y=>y.length≤Yx∧n=y.length
 | .byt y=>y.size≤Yx∧n=y.size
 | .ref p=>(∃xs,fE K H p xs∧n=xs.length)∨∃xs,fR K H p xs∧n=xs.length
 |_=>False
theorem dS:dR X (.builtin "len") (fun xs H Q=>∃x n,xs=[x]∧Nr X.K x H n∧Q (.int n) H):=by
 intro pins s σ H xs us Q I r h
 obtain⟨x,n,rfl,e,q⟩:=h
 obtain⟨u,rfl,rx⟩:=i4 r
 have hl:=lZ
 have hs:Yx=16777216:=aaq
 cases x with
 |str y =>
  obtain⟨t,rfl⟩:=rx
  obtain⟨hy,e'⟩:y.length≤Yx∧n=y.length:=e
  subst e'
  exact len_str (by lia) ⟨.int _,H,I.tok _,⟨_,rfl⟩,q⟩
 |byt y =>
  obtain⟨t,rfl⟩:=rx
  obtain⟨hy,e'⟩:y.size≤Yx∧n=y.size:=e
  subst e'
  exact PySem.W.len_bytes (by lia) ⟨.int _,H,I.tok _,⟨_,rfl⟩,q⟩
 |ref p =>
  cases rx
  have e':(∃xs,fE X.K H p xs∧n=xs.length)∨∃xs,fR X.K H p xs∧n=xs.length:=e
  rcases e' with⟨xs,hx,e'⟩|⟨xs,hx,e'⟩
  ·subst e'
   obtain⟨aq,r',pl,hz⟩:=I.list hx
   have cU:=r'.length
   exact Calls.call_len_list pl.isList (by simp only[YB];lia) ⟨.int xs.length,H,I.tok _,⟨_,by simp only[YB];rw[cU]⟩,q⟩
  ·subst e'
   obtain⟨aq,r',pl,hz⟩:=I.tuple hx
   have cU:=r'.length
   exact len_tuple pl (by simp only[YB];lia) ⟨.int xs.length,H,I.tok _,⟨_,by simp only[YB];rw[cU]⟩,q⟩
 |_=>exact (show False from e).elim
end
end L2
variable {r:L2.R2}
namespace L2
structure Kn (h:abr)(x dx C:YM)(mA:Str→Option Yv):Prop where
 obj:h.get? x=some (PySem.W.instObj C dx)
 ns:h.Ns1 dx mA
 ne:dx≠x
theorem AZ {dx:YM}{mA:Str→Option Yv}(n:h.Ns1 dx mA):∃od,h.get? dx=some od∧∀name,PySem.W.lookIn name od=some (mA name):=by
 obtain⟨o,es,ep,ho,hd,hk,_,hm⟩:=n
 refine⟨o,ho,fun name => ?_⟩
 have e:=hm name
 unfold nsFind findBy at e
 rw[←Array.find?_toList] at e
 unfold PySem.W.lookIn
 rw[hd]
 dsimp only
 split
 ·rename_i y q
  rw[q] at e
  exact congrArg some e
 ·rename_i q
  rw[q] at e
  have a:es.toList.any (·.refKey)=false:=by
   rw[List.any_eq_false]
   intro y hy
   obtain⟨z,t,hkey⟩:=hk y (Array.mem_toList_iff.mp hy)
   simp[DictEntry.refKey,hkey]
  have a':¬es.toList.any (·.refKey)=true:=by rw[a];exact Yq
  rw[if_neg a']
  exact congrArg some e
theorem Kn.look {x dx:YM}{mA:Str→Option Yv}(I:Kn h x dx C mA):∃od,PySem.W.InstAt h x (PySem.W.instObj C dx) C (some od)∧∀name,PySem.W.lookIn name od=some (mA name) :=
 let ⟨od,ho,hl⟩:=AZ I.ns
 ⟨od,⟨I.obj,rfl,rfl,ho⟩,hl⟩
theorem j0.some_of {o:Option Yv}(r:j0 (some v) o):∃u,o=some u∧aO v u:=by
 cases o with
 |none=>exact (show False from r).elim
 |some u=>exact⟨u,rfl,r⟩
section
variable {dx:YM}{fs fs':List (Str×V)}
theorem FY (hok:gT P w H h)(e:H a=some (.ins C dx fs)):∃mA,Kn h a dx C mA∧(∀f,j0 (fs.lookup f) (mA f))∧PySem.Within mA (fs.map (·.1))∧fs.length≤1000∧H dx=some (.own a):=by
 obtain⟨d,z,ne,ob,mA,n,r,q⟩:=(show bo P w H h a (.ins C dx fs) from hok a _ e)
 exact⟨mA,⟨ob,n,ne⟩,r,q,z,d⟩
end
structure Qx (K:Yy)(C:YM):Prop where
 pg:PySem.W.plainGet K C Str.empty=true
 hd:PySem.W.hasDictIn K C=true
 po:PySem.W.plainOver K C=true
 sa:aa8 K (.ref C) "__setattr__"=some (some (.builtin "object.__setattr__"))
theorem Qx.get (c:Qx K C)(f:Str):PySem.W.plainGet K C f=true:=c.pg
structure Yd (K:Yy)(C:YM)(f:Str)(v:V)(u:Yv):Prop where
 at_:aa8 K (.ref C) f=some (some u)
 rel:aO v u
 get:ad6 K u "__get__"=some none
 cp:PySem.W.copiedNames.contains f=false
structure VI (K:Yy)(C:YM)(m:Str)(f:YM):Prop where
 at_:aa8 K (.ref C) m=some (some (.ref f))
 fn:PySem.W.isFn K (.ref f)=true
 kp:Y3 K (.ref f)=true
section
variable {A:Zw}{c:Yv}{b:Bool}
inductive l_ (K:Yy)(H:Hp):V→Yv→Prop where
 |non:l_ K H .non (.type "NoneType")
 |bl (x:Bool):l_ K H (.bl x) (.type "bool")
 |int (i:Int):l_ K H (.int i) (.type "int")
 |str (x:Str):l_ K H (.str x) (.type "str")
 |flt (x:UInt64):l_ K H (.flt x) (.type "float")
 |lst {a:YM} {xs:List V} (e:H a=some (.lst xs)):l_ K H (.ref a) (.type "list")
 |frz {a:YM} {o:Obj} {xs:List V} (e:H a=some (.frz o (.lst xs))):l_ K H (.ref a) (.type "list")
 |tup {a:YM} {xs:List V} (e:H a=some (.tup xs)):l_ K H (.ref a) (.type "tuple")
 |dK {a:YM} {aJ:List (Key×V)} (e:H a=some (.dK aJ)):l_ K H (.ref a) (.type "dict")
 |dT {a:YM} {aJ:List (List Key×V)} (e:H a=some (.dT aJ)):l_ K H (.ref a) (.type "dict")
 |ins {a C dx:YM} {fs:List (Str×V)} (e:H a=some (.ins C dx fs)) (cl:Qx K C) (ha:aa8 K (.ref C) "__class__"=some (some (.builtin "object.__class__")))
   (hn:ad6 K (.builtin "object.__class__") "__get__"=some (some (.builtin "getset_descriptor.__get__"))) (htk:PySem.W.takesIn K (.builtin "object.__class__")=some true)
   (hm:PySem.W.mroIn K C (.type "object")=some true):l_ K H (.ref a) (.ref C)
theorem A5 {x:V}{u t:Yv}(I:aw X pins σ H s)(rx:aO x u)(ty:l_ X.K H x t)(e:aan X.K t c=some b)(h:∀tk,Q (.bool b) {s with toks:=tk}) :
  YR (Y7 X.prog X.w) A (call (.builtin "isinstance") [u,c]) Q E s:=by
 cases ty with
 |non=>cases (show u=Value.none from rx);exact ZZ PySem.W.kitx_none I.kIn True.intro e (fun z=>nomatch z) h
 |bl y=>cases (show u=Value.bool y from rx);exact ZZ PySem.W.kitx_bool I.kIn True.intro e (fun z=>nomatch z) h
 |int i=>obtain⟨t,q⟩:=(show ∃t,u=Value.int i t from rx);cases q;exact ZZ PySem.W.kitx_int I.kIn True.intro e (fun z=>nomatch z) h
 |str y=>obtain⟨t,q⟩:=(show ∃t,u=Value.str y t from rx);cases q;exact ZZ PySem.W.kitx_str I.kIn True.intro e (fun z=>nomatch z) h
 |flt y=>obtain⟨t,q⟩:=(show ∃t,u=Value.float y t from rx);cases q;exact ZZ PySem.W.kitx_float I.kIn True.intro e (fun z=>nomatch z) h
 | @lst a xs ea =>
  cases (show u=Value.ref a from rx)
  obtain⟨_,_,n,_,h1⟩:=(show bo X.prog X.w H s.heap a (.lst xs) from I.hok a _ ea)
  exact ZZ acF I.kIn ⟨_,h1,rfl⟩ e (fun z=>nomatch z) h
 | @frz a ob xs ea =>
  cases (show u=Value.ref a from rx)
  obtain⟨_,_,_,n,_,h1⟩:=(show bo X.prog X.w H s.heap a (.frz ob (.lst xs)) from I.hok a _ ea)
  exact ZZ acF I.kIn ⟨_,h1,rfl⟩ e (fun z=>nomatch z) h
 | @tup a xs ea =>
  cases (show u=Value.ref a from rx)
  obtain⟨_,_,_,p,_⟩:=(show bo X.prog X.w H s.heap a (.tup xs) from I.hok a _ ea)
  obtain⟨o,h1,h2,_⟩:=p
  exact ZZ PySem.W.kitx_tuple I.kIn ⟨o,h1,h2⟩ e (fun z=>nomatch z) h
 | @dK a aJ ea =>
  cases (show u=Value.ref a from rx)
  obtain⟨_,_,vs,_,p⟩:=(show bo X.prog X.w H s.heap a (.dK aJ) from I.hok a _ ea)
  obtain⟨o,es,ep,h1,h2,_⟩:=p
  exact ZZ acG I.kIn ⟨o,h1,h2.1⟩ e (fun z=>nomatch z) h
 | @dT a aJ ea =>
  cases (show u=Value.ref a from rx)
  obtain⟨_,_,xs,_,o,es,ep,h1,h2,_⟩:=(show bo X.prog X.w H s.heap a (.dT aJ) from I.hok a _ ea)
  exact ZZ acG I.kIn ⟨o,h1,h2.1⟩ e (fun z=>nomatch z) h
 | @ins a C dx fs ea cl ha hn htk hm =>
  cases (show u=Value.ref a from rx)
  obtain⟨mA,O,_⟩:=FY I.hok ea
  obtain⟨od,J,_⟩:=O.look
  exact ZZ (PySem.W.kitx_own (cl.get _) cl.hd ha hn htk hm) I.kIn J e (fun z=>nomatch z) h
end
end L2
namespace L2
structure ez (k:Nat)(A:Zw):Prop where
 hd:A.handled=none
 dp:A.depth+3*k+5<adT
 un:A.units+16*k+200<abp
theorem ez.mono {A:Zw}(r:ez k A)(h:j≤k):ez j A:=⟨r.hd,by have:=r.dp;lia,by have:=r.un;lia⟩
theorem ez.deeper {A:Zw}(r:ez (k+1) A)(env:Env):ez k (A.deeper env) :=
 ⟨r.hd,by have:=r.dp;show A.depth+1+3*k+5<_;lia,by have:=r.un;show A.units+3+16*k+200<_;lia⟩
theorem ez.depth {A:Zw}(r:ez k A):A.depth<adT:=by have:=r.dp;lia
theorem ez.units {A:Zw}(r:ez k A):A.units+64<abp:=by have:=r.un;lia
noncomputable def Qy:TA:=fun _ H Q=>Q [] H
noncomputable def Nt (ta:TE)(tr:TA):TA:=fun σ H Q=>ta σ H fun x H1=>tr σ H1 fun xs H2=>Q (x::xs) H2
section
variable {e:aav}{es:List aav}{t:TA}
theorem dA:PA X [] Qy:=fun _ _ _ _ H Q I h=>Calls.spliced_nil ⟨[],H,I,.nil,h⟩
theorem aL (ha:PE X e te)(hr:PA X es t)(hs:YF (e::es) X.env=(false,abE e X.env)::YF es X.env:=by rfl):PA X (e::es) (Nt te t):=by
 intro pos pins s σ H Q I h
 rw[hs]
 show YR _ _ (spliced ((false,abE e X.env)::aaQ pos (YF es X.env))) _ _ s
 refine adH (dz (ha pins s σ H _ I h) fun u s1 ⟨x,H1,I1,r1,q1⟩ => ?_)
 exact dz (hr pos pins s1 σ H1 _ I1 q1) fun us s2 ⟨xs,H2,I2,r2,q2⟩=>⟨x::xs,H2,I2,.cons r1 r2,q2⟩
noncomputable def Qz (t:TA):TE:=fun σ H Q=>t σ H fun xs H1=>xs.length≤Yx∧∀p,H1 p=none→Q (.ref p) (cm H1 p (.tup xs))
noncomputable def QA (t:TA):TE:=fun σ H Q=>t σ H fun xs H1=>xs.length≤Yx∧∀p,H1 p=none→Q (.ref p) (cm H1 p (.lst xs))
theorem Cu {x1}(h:PA X es t):PE X (.Tuple es x1 pos) (Qz t):=by
 intro pins s σ H Q I hq
 refine wpAny_Tuple_spliced (dz (h pos pins s σ H _ I hq) fun us s1 ⟨xs,H1,I1,r,z,q⟩=>⟨by rw[←r.length];exact z,?_⟩)
 have hf:H1 s1.heap.objs.size=none:=I1.hok.fresh (YC _)
 refine⟨.ref s1.heap.objs.size,cm H1 s1.heap.objs.size (.tup xs),I1.laid (t':=s1.toks) (fun b u e=>Yt _ e) (YC _) ?_,rfl,q _ hf⟩
 exact⟨z,us,r,⟨_,YA _ rfl,rfl,_,rfl⟩,_,YA _ rfl⟩
theorem sX (h:PA X es t):PE X (.List es pos) (QA t):=by
 intro pins s σ H Q I hq
 refine wpAny_List_spliced (dz (h pos pins s σ H _ I hq) fun us s1 ⟨xs,H1,I1,r,z,q⟩=>⟨by rw[←r.length];exact z,?_⟩)
 have hf:H1 s1.heap.objs.size=none:=I1.hok.fresh (YC _)
 refine⟨.ref s1.heap.objs.size,cm H1 s1.heap.objs.size (.lst xs),I1.laid (t':=s1.toks) (fun b u e=>Yt _ e) (YC _) ?_,rfl,q _ hf⟩
 exact⟨z,us,0,r,YA _ rfl⟩
end
noncomputable abbrev Sp:=List V→Hp→VK→XK→Prop
noncomputable abbrev CXT:=List Env→Hp→YK→XK→Yv→YK→Prop
structure A6 (P:aa1)(w:ack)(K:Yy)(mg:Str→Option Yv)(base:abr)(A:Zw)(outer:List Env)(s:YK)(H:Hp):Prop where
 frames:A.frames=some outer
 mod:Mod K mg base
 bs:∀b o,base.get? b=some o→s.heap.get? b=some o∧H b=none
 bsz:base.objs.size≤s.heap.objs.size
 funs:s.heap.FunFrames base outer
 frf:∀b∈oV outer,H b=none
 hok:gT P w H s.heap
 bare:adR s.gens
noncomputable def CE (outer:List Env)(P:aa1)(w:ack)(H:Hp)(s:YK)(Q:VK)(u:Yv)(s':YK):Prop :=
 ∃v H',s'.os=s.os∧adR s'.gens∧Un (oV outer) [] H H' s.heap s'.heap∧gT P w H' s'.heap∧aO v u∧Q v H'
noncomputable def CR (CX:CXT)(outer:List Env)(P:aa1)(w:ack)(H:Hp)(s:YK)(Q:VK)(E:XK)(r:Result)(s':YK):Prop :=
 match r with
 | .ok (.ret u)=>CE outer P w H s Q u s'
 | .ok _=>False
 | .error e=>CX outer H s E e s'
structure iU (P:aa1)(w:ack)(K:Yy)(mg:Str→Option Yv)(base:abr)(CX:CXT)(k:Nat)(f:YM)(fd:ab7)(ps:List Str)(sp:Sp):Prop where
 len:∀vs H Q E,sp vs H Q E→vs.length=ps.length
 run:∀(A:Zw) (outer:List Env) (s:YK) (H:Hp) (args:Args) (us:List Yv) (vs:List V) (Q:VK) (E:XK),ez k A→A6 P w K mg base A outer s H→BindsTo s fd args (ps.zip us)→aQ vs us→sp vs H Q E →
  adU (Y7 P w) A (.call (.ref f) args) (CR CX outer P w H s Q E) s
theorem iU.imp {CX:CXT}{sp U8:Sp}(F:iU P w K mg base CX k f fd ps sp)(h:∀vs H Q E,U8 vs H Q E→sp vs H Q E):iU P w K mg base CX k f fd ps U8 :=
 ⟨fun vs H Q E q=>F.len vs H Q E (h _ _ _ _ q),fun A outer s H args us vs Q E hr he hb hv hs=>F.run A outer s H args us vs Q E hr he hb hv (h _ _ _ _ hs)⟩
section
variable {s':YK}
theorem aw.env0 (I:aw X pins σ H s):A6 X.prog X.w X.K X.mg X.base X.A X.stack s H :=
 ⟨I.ok.frames,I.ok.mod,I.bs,Zd I.ok.bsz I.sz,I.stack,I.stkFree,I.hok,I.bare⟩
theorem aw.after {Q:VK}{u:Yv}(I:aw X pins σ H s)(h:CE X.stack X.prog X.w H s Q u s'):EP X pins σ Q u s':=by
 obtain⟨v,H',os,bare,un,hok,r,q⟩:=h
 obtain⟨hh,g,d,t,os'⟩:=s'
 obtain rfl:os'=s.os:=os
 exact⟨v,H',I.call (h':=hh) (g':=g) (d':=d) (t':=t) (ch:=[]) un hok bare (fun b z=>absurd z (by simp)),r,q⟩
end
noncomputable def Cv (sp:Sp)(JN:List V)(E:XK)(t:TA):TE:=fun σ H Q=>t σ H fun vs H1=>sp (vs++JN) H1 Q E
noncomputable def jS (K:Yy)(fd:ab7)(ps:List Str)(ds:List Yv):Prop :=
 ∀(s:YK) (us:List Yv),K.In s.heap→(us++ds).length=ps.length→BindsTo s fd ⟨us,[]⟩ (ps.zip (us++ds))
theorem jS.all (h:∀us:List Yv,us.length=ps.length→aag fd ⟨us,[]⟩=pure (ps.zip us)):jS K fd ps []:=fun s us _ hl=>by
 rw[Zb] at hl ⊢
 exact .of_eq (h us hl)
noncomputable def xu (CX:CXT)(X:Cx)(E:XK):Prop:=∀(pins:List (YM×Obj)) (σ:St) (H:Hp) (s:YK) (e:Yv) (s':YK),aw X pins σ H s→CX X.stack H s E e s'→X.xe e s'
section
variable {CX:CXT}{sp:Sp}{JN:List V}{ds:List Yv}{E:XK}{m:Str}{p dw:Pos}{e o:aav}{es:List aav}{ta:TE}{t:TA}
theorem Ko {Q:VK}{us:List Yv}(F:iU X.prog X.w X.K X.mg X.base CX k f fd ps sp)(hr:ez k X.A)(hb:jS X.K fd ps ds)(hd:aQ JN ds)(hx:xu CX X E)(I:aw X pins σ H s)(r:aQ vs us)(h:sp (vs++JN) H Q E):YR (Y7 X.prog X.w) X.A (call (.ref f) us) (EP X pins σ Q) X.xe s:=by
 have r2:aQ (vs++JN) (us++ds):=r.append hd
 have hl:(us++ds).length=ps.length:=by rw[←r2.length];exact F.len _ _ _ _ h
 refine wpAny_call (acg (F.run X.A X.stack s H ⟨us,[]⟩ (us++ds) (vs++JN) Q E hr I.env0 (hb s us I.kIn hl) r2 h) fun r s' hq => ?_)
 cases r with
 |error e=>exact hx pins σ H s e s' I hq
 |ok fl =>
  cases fl with
  |ret u=>exact I.after hq
  |next=>exact ZV hq
  |brk=>exact ZV hq
  |cont=>exact ZV hq
theorem FZ (F:iU X.prog X.w X.K X.mg X.base CX k f fd ps sp)(hr:ez k X.A)(hg:Gl X x)(hm:X.mg x=some (.ref f))(hk:Y3 X.K (.ref f)=true)(hb:jS X.K fd ps ds)(hd:aQ JN ds)(hx:xu CX X E)
  (ha:PA X (e::es) t) (uX:(x==("__debug__":Str))=false:=by decide) (he:YF (e::es) X.env=(false,abE e X.env)::YF es X.env:=by rfl) (jR:(aaQ pos (YF es X.env)).any (·.1)=false:=by rfl) :
  PE X (.Call (.Name x p) (e::es) [] pos) (Cv sp JN E t):=by
 intro pins s σ H Q I h
 refine abJ (jE I hg hm ?_ uX)
 refine adI (h₀:=X.base) I.ok.mod.kin hk (dz (ha pos pins s σ H _ I h) fun us s1 ⟨vs,H1,I1,r,q⟩=>⟨I1.kIn,?_⟩) he jR
 exact Ko F hr hb hd hx I1 r q
structure Mk (K:Yy)(C f:YM):Prop where
 makes:PySem.W.makesIn K C=true
 init:aa8 K (.ref C) "__init__"=some (some (.ref f))
 fn:PySem.W.isFn K (.ref f)=true
 kp:Y3 K (.ref C)=true
end
section
variable {CX:CXT}{ks:List Str}{sp:Sp}{E:XK}{m:Str}{p dw kpos:Pos}{e o:aav}{es:List aav}{kws:List adV}{ta:TE}{t tk:TA}{nm:Option Str}
structure QB (K:Yy)(fd:ab7)(ps ks:List Str)(g:List Yv→List Yv→List Yv)(gV:List V→List V→List V):Prop where
 to:∀(s:YK) (us ws:List Yv),K.In s.heap→(g us ws).length=ps.length→BindsTo s fd ⟨us,ks.zip ws⟩ (ps.zip (g us ws))
 rel:∀{vs:List V} {us:List Yv} {zs:List V} {ws:List Yv},aQ vs us→aQ zs ws→aQ (gV vs zs) (g us ws)
variable {g:List Yv→List Yv→List Yv}{gV:List V→List V→List V}
end
structure aV (N P:List Str)(sc:Scope):Prop where
 kind:sc.kind=.function
 co:sc.isCoroutine=false
 gen:sc.isGenerator=false
 nd:N.Nodup
 pre:N.take P.length=P
 par:∀x∈P,sc.names.lookup x=some .local∨sc.names.lookup x=some .cell
 nofree:∀y∈sc.names,y.2≠.free
theorem rL {ZY:Str→Option aef}{x:Str}:∀{binds:List (Str×Yv)} {m:Str→Option Yv},(∀v,(x,v)∉binds)→bindL ZY binds m x=m x
 | [],_,_=>rfl
 | (n,v)::r,m,h=>by
  unfold bindL
  rw[rL fun w hw=>h w (YS _ hw)]
  split
  ·have:x≠n:=by rintro rfl;exact h v YO
   simp[this]
  ·rfl
theorem rM {ZY:Str→Option aef}{x:Str}:∀{binds:List (Str×Yv)} {m:Str→Option Yv},(∀v,(x,v)∉binds)→bindC ZY binds m x=m x
 | [],_,_=>rfl
 | (n,v)::r,m,h=>by
  unfold bindC
  rw[rM fun w hw=>h w (YS _ hw)]
  split
  ·rfl
  ·have:x≠n:=by rintro rfl;exact h v YO
   simp[this]
theorem md {ZY:Str→Option aef}{x:Str}{v:Yv}:∀{P:List Str} {vs:List Yv} {i:Nat} {m:Str→Option Yv},P.Nodup→P[i]? = some x→vs[i]? = some v→ZY x=some .local →
  bindL ZY (P.zip vs) m x=some v
 | [],_,_,_,_,h,_,_=>by simp at h
 |_::_,[],_,_,_,_,h,_=>by simp at h
 |p::P,w::vs,0,m,nd,h1,h2,hk=>by
  simp at h1 h2;subst h1;subst h2
  show bindL ZY ((p,w)::P.zip vs) m p=_
  unfold bindL
  rw[rL fun v hv=>(aaD.mp nd).1 (adl hv).1,if_pos hk]
  simp
 |p::P,w::vs,i+1,m,nd,h1,h2,hk=>by
  show bindL ZY ((p,w)::P.zip vs) m x=_
  unfold bindL
  exact md (i:=i) (aaD.mp nd).2 (by simpa using h1) (by simpa using h2) hk
theorem mf {ZY:Str→Option aef}{x:Str}{v:Yv}:∀{P:List Str} {vs:List Yv} {i:Nat} {m:Str→Option Yv},P.Nodup→P[i]? = some x→vs[i]? = some v→ZY x≠some .local →
  bindC ZY (P.zip vs) m x=some v
 | [],_,_,_,_,h,_,_=>by simp at h
 |_::_,[],_,_,_,_,h,_=>by simp at h
 |p::P,w::vs,0,m,nd,h1,h2,hk=>by
  simp at h1 h2;subst h1;subst h2
  show bindC ZY ((p,w)::P.zip vs) m p=_
  unfold bindC
  rw[rM fun v hv=>(aaD.mp nd).1 (adl hv).1,if_neg hk]
  simp
 |p::P,w::vs,i+1,m,nd,h1,h2,hk=>by
  show bindC ZY ((p,w)::P.zip vs) m x=_
  unfold bindC
  exact mf (i:=i) (aaD.mp nd).2 (by simpa using h1) (by simpa using h2) hk
noncomputable def dB (N:List Str)(vs:List V):St:=vs.map some++Zh (N.length - vs.length) none
noncomputable def iV (CX:CXT)(P:aa1)(w:ack)(K:Yy)(mg:Str→Option Yv)(base:abr)(N:List Str)(qual:Str)(scope:Scope)(f:YM)(cd:Yv)(A:Zw)(outer:List Env)(s:YK)(H:Hp)(E:XK):Cx where
 prog:=P
 w:=w
 K:=K
 mg:=mg
 base:=base
 A:=A.deeper (aa0 qual scope s.heap.objs.size f cd)
 N:=N
 s₀:=s
 H₀:=H
 env:=aa0 qual scope s.heap.objs.size f cd
 outer:=outer
 stack:=aa0 qual scope s.heap.objs.size f cd::outer
 ex:=[]
 calm:=true
 fn:=fun _=>true
 pn:=[]
 xe:=fun e s'=>YR (Y7 P w) (A.deeper (aa0 qual scope s.heap.objs.size f cd)) (leaving (aa0 qual scope s.heap.objs.size f cd) e) (fun _ FD=>CX outer H s E e FD) (fun e' FD=>CX outer H s E e' FD) s'
theorem kF {sc:Scope}(h:sc.names.lookup x=some .cell):∃c,(cellsFrom n sc.names []).lookup x=some c:=by
 have q:=acz sc.names n [] (.inl h)
 exact aaI.mp q
theorem A7 {CX:CXT}{cd:Yv}{A:Zw}{outer:List Env}{s1:YK}{E:XK}{us:List Yv}(S:aV N ps scope)(hd:A.handled=none)(e0:A6 P w K mg base A outer s H)(hl:vs.length=ps.length)(r:aQ vs us)(x:InCallC s s.heap.objs.size (bindL (aa0 qual scope s.heap.objs.size f cd).kindOf (ps.zip us) fun _=>none) (cellsFrom (s.heap.objs.size+1) scope.names []) (bindC (aa0 qual scope s.heap.objs.size f cd).kindOf (ps.zip us) fun _=>none) s1) :
  aw (iV CX P w K mg base N qual scope f cd A outer s H E) [] (dB N vs) H s1:=by
 have jR:ps.length≤N.length:=by have:=congrArg List.length S.pre;rw[YJ] at this;lia
 obtain⟨h1,tk,rfl,hk⟩:=x.done
 have HY:∀b:YM,b∉(iV CX P w K mg base N qual scope f cd A outer s H E).ex:=fun b z=>absurd (show b∈([]:List YM) from z) (by simp)
 refine⟨⟨e0.mod,S.kind,rfl,rfl,YC _,fun y z c h1 h2 => ?_,fun y hy => ?_,fun y c _ h => ?_,fun _=>hd,Around.frames_deeper e0.frames,.inr ⟨rfl,rfl⟩,fun b z=>absurd z (HY b),e0.bs,e0.bsz,fun b _ _=>HY b,fun b z=>absurd z (HY b),e0.funs,e0.frf⟩,
  rfl,e0.bare,Un.kept hk,⟨_,x.toInCall.ns,fun i y v h1 h2 h3 => ?_⟩,fun y c h=>⟨_,x.cell y c h⟩,e0.hok.fresh (YC _),fun y c h => ?_,fun p hp=>absurd (show p∈([]:List (YM×Obj)) from hp) (by simp),e0.hok.kept hk,?_⟩
 ·exact name_of_addr x.apart (Zn h1) (Zn h2)
 ·have hy:scope.names.lookup y=some .cell∨scope.names.lookup y=some .free:=hy
  rcases hy with hy|hy
  ·exact kF hy
  ·exact absurd rfl (S.nofree _ (Zn hy))
 ·exact ace (x.above y c (Zn h))
 ·have hi:i<vs.length:=by
   unfold dB at h2
   by_cases hi:i<vs.length
   ·exact hi
   ·rw[ZR (by simpa using hi)] at h2
    rw[aco] at h2
    split at h2<;>cases h2
  have ha:vs[i]? = some v:=by
   unfold dB at h2
   rw[Z7 (by simpa using hi),YH] at h2
   cases e:vs[i]? with
   |none=>rw[e] at h2;cases h2
   |some a=>rw[e] at h2;cases h2;rfl
  obtain⟨u,hu,rv⟩:=r.get ha
  have hp:ps[i]? = some y:=by
   rw[←S.pre,ad7 (by lia)];exact h1
  have OP:ps.Nodup:=by rw[←S.pre];exact S.nd.sublist (List.take_sublist _ _)
  refine⟨u,rv,?_⟩
  rcases S.par y (Z4 hp) with k|k
  ·exact .inl ⟨k,md OP hp hu k⟩
  ·obtain⟨c,e⟩:=kF (n:=s.heap.objs.size+1) k
   refine .inr ⟨.inl k,c,e,?_⟩
   have q:=x.cell y c e
   rw[mf OP hp hu (by show scope.names.lookup y≠_;rw[k];decide)] at q
   exact q
 ·exact e0.hok.fresh (ace (x.above y c (Zn h)))
 ·unfold dB
  show _=N.length
  rw[Yu,Yp,aaj]
  lia
theorem Ih {CX:CXT}{name:Str}{params:Arguments}{dV kV dv pm aY ct oc:Yv}{sp:Sp}(lk:K.lookup f=some ⟨oc,od,.func (YI name qual params body scope dV kV dv pm an aY ct),osl⟩)(iP:Ze K aY qual=true)(S:aV N ps scope)(len:∀vs H Q E,sp vs H Q E→vs.length=ps.length)(fi:∀(A:Zw) (outer:List Env) (s:YK) (H:Hp) (vs:List V) (Q:VK) (E:XK),ez k (A.deeper (aa0 qual scope s.heap.objs.size f aY))→sp vs H Q E →
   ∃t,mV (iV CX P w K mg base N qual scope f aY A outer s H E) body t∧t {nx:=fun _ H'=>Q .non H',rt:=Q} (dB N vs) H) :
  iU P w K mg base CX (k+1) f (YI name qual params body scope dV kV dv pm an aY ct) ps sp:=by
 refine⟨len,fun A outer s H args us vs Q E hr e0 hb r Fg => ?_⟩
 have hl:=len _ _ _ _ Fg
 have KX:K.In s.heap:=e0.mod.kin.keeps fun b o e=>(e0.bs b o e).1
 have Rr:s.heap.NoLimit:=e0.mod.nolimit.keeps fun b o e=>(e0.bs b o e).1
 have Fh:∀y∈ps.zip us,scope.names.lookup y.1=some .local∨(scope.names.lookup y.1=some .cell∧((cellsFrom (s.heap.objs.size+1) scope.names []).lookup y.1).isSome=true):=fun⟨n,v⟩ hy=>by
  rcases S.par n (adl hy).1 with q|q
  ·exact .inl q
  ·exact .inr ⟨q,acz _ _ _ (.inl q)⟩
 refine codeAny_call_function hr.depth (KX _ _ lk) rfl S.co S.gen rfl (PySem.W.codeRec_of KX iP) (hb _ _ _ _ ?_)
 refine wpAny_newFunctionEnv_cells S.kind Fh fun env he s1 x => ?_
 subst he
 refine⟨Rr.keeps x.toInCall.keep,codeAny_func ?_⟩
 obtain⟨t,ht,hq⟩:=fi A outer s H vs Q E (hr.deeper _) Fg
 have I:aw (iV CX P w K mg base N qual scope f aY A outer s H E) [] (dB N vs) H s1:=A7 S hr.hd e0 hl r x
 refine ZI (ht [] s1 (dB N vs) H _ I hq) (fun fl s' hs => ?_) fun e s' hs=>hs
 have fin:∀{σ':St} {H':Hp} {v:V} {u:Yv},aw (iV CX P w K mg base N qual scope f aY A outer s H E) [] σ' H' s'→aO v u→Q v H'→CE outer P w H s Q u s' :=
  fun {σ' H' v u} J rv q=>⟨v,H',J.os,J.bare,J.base,J.hok,rv,q⟩
 cases fl with
 |ret u =>
  obtain⟨v,σ',H',J,rv,q⟩:=hs
  exact fin J rv q
 |next =>
  obtain⟨σ',H',J,q⟩:=hs
  exact fin (v:=V.non) (u:=Value.none) J rfl q
 |brk =>
  obtain⟨_,_,_,q⟩:=hs
  exact ZV q
 |cont =>
  obtain⟨_,_,_,q⟩:=hs
  exact ZV q
end L2
variable {CX:L2.CXT}{sp:L2.Sp}
namespace L2
section
variable {p:Pos}{e:aav}{es:List aav}{t:TA}{id T:String}{r:List V→Hp→VK→Prop}
noncomputable def QC (r:List V→Hp→VK→Prop)(t:TA):TE:=fun σ H Q=>t σ H fun vs H1=>r vs H1 Q
theorem gU (hc:dR X (.builtin id) r)(hg:Gl X x)(hm:X.mg x=none)(hv:Zr x=some (.builtin id))(ha:PA X (e::es) t)(hn:x≠"__name__":=by decide)(uX:(x==("__debug__":Str))=false:=by decide)
  (he:YF (e::es) X.env=(false,abE e X.env)::YF es X.env:=by rfl) (jR:(aaQ pos (YF es X.env)).any (·.1)=false:=by rfl):PE X (.Call (.Name x p) (e::es) [] pos) (QC r t):=by
 intro pins s σ H Q I h
 refine abJ (oX I hg hm hv ?_ hn uX)
 exact PyProof.Rows.callWith_builtin1 (dz (ha pos pins s σ H _ I h) fun us s1 ⟨vs,H1,I1,r1,q1⟩=>hc pins s1 σ H1 vs us Q I1 r1 q1) he jR
theorem gW (hc:dR X (.type T) r)(hg:Gl X x)(hm:X.mg x=none)(hv:Zr x=some (.type T))(ha:PA X (e::es) t)(hn:x≠"__name__":=by decide)(uX:(x==("__debug__":Str))=false:=by decide)
  (he:YF (e::es) X.env=(false,abE e X.env)::YF es X.env:=by rfl) (jR:(aaQ pos (YF es X.env)).any (·.1)=false:=by rfl):PE X (.Call (.Name x p) (e::es) [] pos) (QC r t):=by
 intro pins s σ H Q I h
 refine abJ (oX I hg hm hv ?_ hn uX)
 exact abM (dz (ha pos pins s σ H _ I h) fun us s1 ⟨vs,H1,I1,r1,q1⟩=>hc pins s1 σ H1 vs us Q I1 r1 q1) he jR
end
end L2
namespace HT
section
variable {A:Zw}
theorem cat_tup {t:YM}{vs ws:List Yv}(ht:IsTup s.heap t vs.toArray)(hb:IsTup s.heap b ws.toArray)(hv:vs≠[])(h1:ws=[]→Q (.ref t) s)(h2:ws≠[]→Q (.ref s.heap.objs.size) {s with heap:=s.heap.push {cls:=.type "tuple",data:=.seq (vs++ws).toArray}})(hsz:vs.length+ws.length≤Yx):YR (Y7 prog w) A (abI .Add (.ref t) (.ref b)) Q E s:=by
 obtain⟨⟨cls,dd,data,sl⟩,ho,hc,n,hd⟩:=id ht
 obtain⟨⟨cls2,M6,data2,M7⟩,ho2,hc2,n2,Ia⟩:=id hb
 simp only at hc hd hc2 Ia
 subst hc hd hc2 Ia
 have e:vs.toArray++ws.toArray=(vs++ws).toArray:=by simp
 by_cases hw:ws=[]
 ·exact concat_meets ⟨_,ho,rfl⟩ ⟨_,ho2,rfl⟩ noFill_tuple_add seq_tuple_add acA acp (ach _ _)
   (tuple_addW1 t b vs.toArray ws.toArray n n2 dd M6 sl M7 (by simpa using hv) (by simp[hw])) ⟨ho,ho2,h1 hw⟩
 ·refine concat_meets ⟨_,ho,rfl⟩ ⟨_,ho2,rfl⟩ noFill_tuple_add seq_tuple_add acA acp (ach _ _)
   (tuple_addW2 t b vs.toArray ws.toArray n n2 dd M6 sl M7 (by simpa using hv) (by simpa using hw) (by rw[YB,YB];exact hsz)) ⟨ho,ho2,?_⟩
  rw[e]
  exact h2 hw
noncomputable def sIx (n d:Nat):Option Int→Nat
 |none=>d
 |some v=>if v<0 then (v+(n:Int)).toNat else min v.toNat n
theorem sIx_none (n d:Nat):sIx n d none=d:=rfl
theorem sIx_nat (n d k:Nat):sIx n d (some (k:Int))=min k n:=by
 show (if (k:Int)<0 then ((k:Int)+(n:Int)).toNat else min (k:Int).toNat n)=min k n
 rw[if_neg (by lia),ZC]
theorem Kp (n d:Nat)(hd:d≤n)(o:Option Int):sIx n d o≤n:=by
 cases o with
 |none=>exact hd
 |some v =>
  show (if v<0 then (v+(n:Int)).toNat else min v.toNat n)≤n
  by_cases hv:v<0
  ·rw[if_pos hv];lia
  ·rw[if_neg hv];exact Nat.min_le_right _ _
theorem za (v:Int)(n d:Nat):(if v<0 then max (v+(n:Int)) 0 else min v (n:Int))=((sIx n d (some v):Nat):Int):=by
 show (if v<0 then max (v+(n:Int)) 0 else min v (n:Int))=(((if v<0 then (v+(n:Int)).toNat else min v.toNat n):Nat):Int)
 by_cases hv:v<0
 ·simp only[if_pos hv];lia
 ·simp only[if_neg hv];lia
theorem xv (lo hi:Option Int)(n:Nat):ab3 lo hi 1 (n:Int)=(((sIx n 0 lo:Nat):Int),((sIx n n hi:Nat):Int)):=by
 have h1:¬((1:Int)<0):=by lia
 unfold ab3
 simp only[h1,if_false]
 refine Prod.ext ?_ ?_
 ·cases lo with
  |none=>rfl
  |some v=>exact za v n 0
 ·cases hi with
  |none=>rfl
  |some v=>exact za v n n
theorem xw (i j:Nat):aa9 (i:Int) (j:Int) 1=j - i:=by
 unfold aa9
 have h1:(1:Int)>0:=by lia
 simp only[h1,if_true,Int.ediv_one]
 split<;>lia
theorem o9 {v:Yv}{o:Option Int}{Q:Option Int→YK→Prop}(p:IsPart v o)(h:Q o s):YR (Y7 prog w) A (Builtin.Slice.slicePartIndex v) Q E s:=by
 cases p with
 |none=>exact slicePart_none h
 |int i t=>exact slicePart_int h
theorem gX {sl:YM}{vl vu:Yv}{lo:Option Int}{Q:Int×Int×Nat→YK→Prop}(hs:s.heap.IsSliceOf sl vl vu .none)(pl:IsPart vl lo)(pu:IsPart vu hi)(h:Q (((sIx n 0 lo:Nat):Int),1,sIx n n hi - sIx n 0 lo) s):YR (Y7 prog w) A (adz (.ref sl) (pure (n:Int))) Q E s:=by
 obtain⟨os,FI,hcs,hds⟩:=id hs
 unfold adz Builtin.Slice.sliceFields
 refine Yo (Yo (ZS FI hds (x:=vl) rfl (Yo (ZS FI hds (x:=vu) rfl (Yo (ZS FI hds (x:=.none) rfl (Yr ?_)))))))
 refine Yo (slicePart_none ?_)
 show YR _ _ (if ((1:Int)==0)=true then _ else _) _ _ s
 rw[if_neg (by decide)]
 refine Yo (o9 pl (Yo (o9 pu (Yo (Yr ?_)))))
 show YR _ _ (match ab3 lo hi 1 (n:Int) with|(lo,hi)=>pure (lo,(1:Int),aa9 lo hi 1)) _ _ s
 rw[xv lo hi n]
 show YR _ _ (pure (((sIx n 0 lo:Nat):Int),(1:Int),aa9 ((sIx n 0 lo:Nat):Int) ((sIx n n hi:Nat):Int) 1)) _ _ s
 rw[xw]
 exact Yr h
theorem Cw (xs:Array Yv)(i k:Nat):((ZA k).filterMap fun (m:Nat)=>xs[((i:Int)+(m:Int)*1).toNat]?).toArray=((xs.toList.drop i).take k).toArray:=by
 have e:(fun (m:Nat)=>xs[((i:Int)+(m:Int)*1).toNat]?)=fun m=>xs[i+m]? := by
  funext m
  have:((i:Int)+(m:Int)*1).toNat=i+m:=by lia
  rw[this]
 rw[e]
 have:=pick_run xs i k
 rw[List.filterMap_map] at this
 have e2:((fun x=>xs[x]?)∘fun x=>i+x)=fun m=>xs[i+m]? := rfl
 rw[e2] at this
 rw[this]
theorem getItem_tuple_cut {t sl:YM}{items:Array Yv}{vl vu:Yv}{lo:Option Int}(ht:IsTup s.heap t items)(hs:s.heap.IsSliceOf sl vl vu .none)(pl:IsPart vl lo)(pu:IsPart vu hi)(hw:¬(sIx items.size 0 lo=0∧sIx items.size items.size hi=items.size))(h:Q (.ref s.heap.objs.size) {s with heap:=s.heap.push {cls:=.type "tuple",data:=.seq ((items.toList.drop (sIx items.size 0 lo)).take (sIx items.size items.size hi - sIx items.size 0 lo)).toArray}})(hsz:items.size≤Yx):YR (Y7 prog w) A (adm (.ref t) (.ref sl)) Q E s:=by
 have AI:sizeOk (.seq ((items.toList.drop (sIx items.size 0 lo)).take (sIx items.size items.size hi - sIx items.size 0 lo)).toArray):=by
  show ((items.toList.drop (sIx items.size 0 lo)).take (sIx items.size items.size hi - sIx items.size 0 lo)).toArray.size≤Yx
  rw[YB,YJ,Y1,Yz]
  lia
 have hj:sIx items.size items.size hi≤items.size:=Kp _ _ (YC _) hi
 obtain⟨os,FI,hcs,hds⟩:=id hs
 have Rt:s.TypeIs (.ref sl) "slice":=⟨os,FI,hcs⟩
 unfold adm
 try with_reducible refine ZL ?_
 first|refine Yo (Yr ?_)|skip
 refine Yo (wpAny_sequenceKey ht.typeIs (by decide) ?_)
 refine Yo (Zo (name:=Z5 "__getitem__") ht.typeIs aax
  (Y8 aax ht.typeIs entry_tuple_getitem ?_ (args_tuple_getitem _ _)))
 show YR _ _ (abW (.ref t) >>= _) _ _ s
 refine Yo (tupleItemsOf_ ht ?_)
 refine Yo (acT Rt ?_)
 rw[if_pos (by decide)]
 refine Yo (gX hs pl pu ?_)
 have Ru:¬((((sIx items.size 0 lo:Nat):Int)==0&&(1:Int)==1&&(sIx items.size items.size hi - sIx items.size 0 lo)==items.size)=true):=by
  intro q
  rw[YG,YG] at q
  have q1:((sIx items.size 0 lo:Nat):Int)=0:=eq_of_beq q.1.1
  have q2:sIx items.size items.size hi - sIx items.size 0 lo=items.size:=eq_of_beq q.2
  exact hw ⟨by lia,by lia⟩
 show YR _ _ (if (((sIx items.size 0 lo:Nat):Int)==0&&(1:Int)==1&&(sIx items.size items.size hi - sIx items.size 0 lo)==items.size)=true then _ else _) _ _ s
 rw[if_neg Ru,Cw]
 first
  |exact Yo (m:=aak _) (Y6 (Yr ⟨_,rfl,Yr h⟩) AI)
  |exact Yo (m:=aak _) (Y6 (Yo (Yr (Yr ⟨_,rfl,Yr h⟩))) AI)
  |exact Yo (Yo (m:=aak _) (Y6 (Yr (Yr ⟨_,rfl,Yr h⟩)) AI))
  |exact Yo (Yo (m:=aak _) (Y6 (Yr ⟨_,rfl,Yr h⟩) AI))
end
end HT
namespace L2
noncomputable abbrev TO:=St→Hp→(Option Int→Hp→Prop)→Prop
noncomputable def PO (X:Cx)(e:Option aav)(t:TO):Prop :=
 ∀(pins:List (YM×Obj)) (s:YK) (σ:St) (H:Hp) (Q:Option Int→Hp→Prop),aw X pins σ H s→t σ H Q →
  YR (Y7 X.prog X.w) X.A (evalPart e X.env) (fun u s'=>∃o H',aw X pins σ H' s'∧IsPart u o∧Q o H') X.xe s
noncomputable def F0:TO:=fun _ H Q=>Q none H
noncomputable def Nu (t:TE):TO:=fun σ H Q=>t σ H fun x H1=>∃i,x=.int i∧Q (some i) H1
theorem j6:∀{us:List Yv},aQ (ns.map V.int) us→adn us ns:=by
 induction ns with
 |nil=>intro us r;rw[ZM] at r;cases r;exact .nil
 |cons n ns ih =>
  intro us r
  rw[Yw] at r
  cases r with
  |cons r1 r2 =>
   obtain⟨t,e⟩:=r1
   subst e
   exact .cons n t (ih r2)
section
variable {e:aav}{lo hi:Option aav}{tl th:TO}
theorem F3:PO X none F0:=by
 intro pins s σ H Q I h
 rw[evalPart_none]
 exact Yr ⟨none,H,I,.none,h⟩
theorem F4 (h:PE X e te):PO X (some e) (Nu te):=by
 intro pins s σ H Q I hw
 rw[evalPart_some]
 refine dz (h pins s σ H _ I hw) fun u s1 ⟨x,H1,I1,r1,q1⟩ => ?_
 obtain⟨i,rfl,q⟩:=q1
 obtain⟨t,rfl⟩:=r1
 exact⟨some i,H1,I1,.int i t,q⟩
noncomputable def Cy (X:Cx)(r:V→Option Int→Option Int→Hp→VK→Prop):Prop :=
 ∀(pins:List (YM×Obj)) (s:YK) (σ:St) (H:Hp) (x:V) (v vl vu:Yv) (lo hi:Option Int) (sl:YM) (Q:VK),aw X pins σ H s→aO x v→s.heap.IsSliceOf sl vl vu .none→IsPart vl lo→IsPart vu hi→r x lo hi H Q →
  ∃T id,typeLookup (.type T) "__getitem__"=pure (some (.builtin id))∧s.TypeIs v T∧YR (Y7 X.prog X.w) X.A (adm v (.ref sl)) (EP X pins σ Q) X.xe s
theorem Cy.or {r r':V→Option Int→Option Int→Hp→VK→Prop}(h:Cy X r)(h':Cy X r'):Cy X (fun x lo hi H Q=>r x lo hi H Q∨r' x lo hi H Q):=by
 intro pins s σ H x v vl vu lo hi sl Q I rx hs pl pu q
 rcases q with q|q
 ·exact h pins s σ H x v vl vu lo hi sl Q I rx hs pl pu q
 ·exact h' pins s σ H x v vl vu lo hi sl Q I rx hs pl pu q
noncomputable def VJ (r:V→Option Int→Option Int→Hp→VK→Prop)(te:TE)(tl th:TO):TE:=fun σ H Q=>te σ H fun x H1=>tl σ H1 fun l H2=>th σ H2 fun u H3=>r x l u H3 Q
theorem Cz {r:V→Option Int→Option Int→Hp→VK→Prop}(hr:Cy X r)(he:PE X e te)(hl:PO X lo tl)(hu:PO X hi th):PE X (.Subscript e (.Slice lo hi none p2) pos) (VJ r te tl th):=by
 intro pins s σ H Q I h
 refine Subscript_ (dz (he pins s σ H _ I h) fun v s1 ⟨x,H1,I1,r1,q1⟩ => ?_)
 refine wpAny_Slice (dz (hl pins s1 σ H1 _ I1 q1) fun vl s2 ⟨l,H2,I2,pl,q2⟩=>dz (hu pins s2 σ H2 _ I2 q2) fun vu s3 ⟨u,H3,I3,pu,q3⟩ => ?_)
 rw[evalPart_none]
 refine Yr ?_
 have I4:aw X pins σ H3 {s3 with heap:=s3.heap.push {cls:=.type "slice",data:=.fields #[vl,vu,.none]}}:=I3.kept (t':=s3.toks) fun b ob q=>Yt _ q
 obtain⟨T,id,hT,ht,hg⟩:=hr pins {s3 with heap:=s3.heap.push {cls:=.type "slice",data:=.fields #[vl,vu,.none]}} σ H3 x v vl vu l u s3.heap.objs.size Q I4 r1 (Heap.IsSliceOf.new ..) pl pu q3
 show YR (Y7 X.prog X.w) X.A (subscriptTail e (.Slice lo hi none p2) v (.ref s3.heap.objs.size)) (EP X pins σ Q) X.xe {s3 with heap:=s3.heap.push {cls:=.type "slice",data:=.fields #[vl,vu,.none]}}
 exact tail_any (ops:=[.ref s3.heap.objs.size,v]) ht hT hg (by with_unfolding_all rfl)
noncomputable def o_ (xs:List V)(lo hi:Option Int):List V:=(xs.drop (HT.sIx xs.length 0 lo)).take (HT.sIx xs.length xs.length hi - HT.sIx xs.length 0 lo)
theorem mW (xs:List V)(lo hi:Option Int):(o_ xs lo hi).length≤xs.length:=by
 unfold o_
 rw[YJ,Y1]
 lia
noncomputable def Nv (K:Yy):V→Option Int→Option Int→Hp→VK→Prop:=fun x lo hi H Q=>∃a xs,x=.ref a∧fR K H a xs ∧
 ¬(HT.sIx xs.length 0 lo=0∧HT.sIx xs.length xs.length hi=xs.length)∧∀p,H p=none→Q (.ref p) (cm H p (.tup (o_ xs lo hi)))
theorem Kq:Cy X (Nv X.K):=by
 intro pins s σ H x v vl vu lo hi sl Q I rx hs pl pu h
 obtain⟨a,xs,rfl,hx,hw,q⟩:=h
 cases rx
 obtain⟨aq,r,ht,hz⟩:=I.tuple hx
 have cU:aq.toArray.size=xs.length:=by rw[YB];exact r.length.symm
 refine⟨"tuple",_,PyProof.Rows.slot_tuple_getitem.lookup,ht.typeIs,?_⟩
 refine HT.getItem_tuple_cut ht hs pl pu (by rw[cU];exact hw) ?_ (by rw[cU];exact hz)
 rw[cU]
 refine⟨.ref s.heap.objs.size,_,I.laid (t':=s.toks) (o:=.tup (o_ xs lo hi)) (fun b ob q=>Yt _ q) (YC _) ?_,rfl,q _ (I.hok.fresh (YC _))⟩
 exact⟨Zd (mW xs lo hi) hz,_,(r.drop (HT.sIx xs.length 0 lo)).take (HT.sIx xs.length xs.length hi - HT.sIx xs.length 0 lo),IsTup.new _ _,_,YA _ rfl⟩
noncomputable def Nw (K:Yy):R2:=fun x y H Q=>∃a b xs ys,x=.ref a∧y=.ref b∧fR K H a xs∧fR K H b ys∧xs≠[]∧xs.length+ys.length≤Yx ∧
 (ys=[]→Q (.ref a) H)∧(ys≠[]→∀p,H p=none→Q (.ref p) (cm H p (.tup (xs++ys))))
theorem aQ.nil_iff {us:List Yv}(r:aQ xs us):us=[]↔xs=[]:=by
 cases r with
 |nil=>simp
 |cons _ _=>simp
theorem F5:j5 X (abI .Add) (Nw X.K):=by
 intro pins s σ H x y v u Q I rx ry h
 obtain⟨a,b,xs,ys,rfl,rfl,ha,hb,hx,hz,q1,q2⟩:=h
 cases rx
 cases ry
 obtain⟨aq,r1,p1,_⟩:=I.tuple ha
 obtain⟨its2,r2,p2,_⟩:=I.tuple hb
 refine HT.cat_tup p1 p2 (fun z=>hx (r1.nil_iff.mp z)) (fun z=>⟨.ref a,H,I,rfl,q1 (r2.nil_iff.mp z)⟩) (fun z => ?_) (by rw[←r1.length,←r2.length];exact hz)
 refine⟨.ref s.heap.objs.size,_,I.laid (t':=s.toks) (o:=.tup (xs++ys)) (fun b ob q=>Yt _ q) (YC _) ?_,rfl,q2 (fun w=>z (r2.nil_iff.mpr w)) _ (I.hok.fresh (YC _))⟩
 exact⟨by rw[Yu];exact hz,_,r1.append r2,IsTup.new _ _,_,YA _ rfl⟩
end
end L2
namespace L2
noncomputable def Ca (n:Nat)(i:Int):Option Nat:=if 0≤i then (if i<n then some i.toNat else none) else if -(n:Int)≤i then some (i+n).toNat else none
noncomputable def kG {α:Type}(xs:List α)(i:Int):Option α:=(Ca xs.length i).bind fun j=>xs[j]?
theorem zc {i:Int}(h:Ca n i=some j):ad8 i n=some j∧j<n ∧ -(n:Int)≤i∧i<n:=by
 unfold Ca at h
 by_cases h0:0≤i
 ·rw[if_pos h0] at h
  by_cases h1:i<n
  ·rw[if_pos h1] at h
   have e:i.toNat=j:=Zg h
   exact⟨by rw[seqIndex_of h0 h1,e],by lia,by lia,h1⟩
  ·rw[if_neg h1] at h;cases h
 ·rw[if_neg h0] at h
  by_cases h1 : -(n:Int)≤i
  ·rw[if_pos h1] at h
   have e:(i+n).toNat=j:=Zg h
   exact⟨by rw[seqIndex_neg (by lia) h1,e],by lia,h1,by lia⟩
  ·rw[if_neg h1] at h;cases h
theorem sY {α:Type}{xs:List α}{i:Int}{v:α}(h:kG xs i=some v):∃j,ad8 i xs.length=some j∧xs[j]? = some v∧j<xs.length ∧ -(xs.length:Int)≤i∧i<xs.length:=by
 unfold kG at h
 cases e:Ca xs.length i with
 |none=>rw[e] at h;cases h
 |some j =>
  rw[e] at h
  obtain⟨h1,h2,h3,h4⟩:=zc e
  exact⟨j,h1,h,h2,h3,h4⟩
noncomputable def zd (b:aav):Prop:=∀o i,subscripted b false o i=operate [o,i] (adm o i)
noncomputable def Fy (X:Cx)(r:R2):Prop :=
 ∀(value slice:aav) (pins:List (YM×Obj)) (s:YK) (σ:St) (H:Hp) (x y:V) (v u:Yv) (Q:VK),aw X pins σ H s→aO x v→aO y u→r x y H Q →
  subscripted slice false v u=operate [v,u] (adm v u)→YR (Y7 X.prog X.w) X.A (subscriptTail value slice v u) (EP X pins σ Q) X.xe s
noncomputable def Fz (X:Cx)(id:String)(r:V→List V→Hp→VK→Prop):Prop :=
 ∀(pins:List (YM×Obj)) (s:YK) (σ:St) (H:Hp) (x:V) (xs:List V) (v:Yv) (us:List Yv) (Q:VK),aw X pins σ H s→aO x v→aQ xs us→r x xs H Q →
  YR (Y7 X.prog X.w) X.A (call (.builtin id) (v::us)) (EP X pins σ Q) X.xe s
section
variable {a b:aav}{ta tb:TE}
theorem Fy.or {r':R2}(h:Fy X r)(h':Fy X r'):Fy X (fun x y H Q=>r x y H Q∨r' x y H Q):=by
 intro value slice pins s σ H x y v u Q I rx ry q hs
 rcases q with q|q
 ·exact h value slice pins s σ H x y v u Q I rx ry q hs
 ·exact h' value slice pins s σ H x y v u Q I rx ry q hs
theorem Fz.or {id:String}{r r':V→List V→Hp→VK→Prop}(h:Fz X id r)(h':Fz X id r'):Fz X id (fun x xs H Q=>r x xs H Q∨r' x xs H Q):=by
 intro pins s σ H x xs v us Q I rx rs q
 rcases q with q|q
 ·exact h pins s σ H x xs v us Q I rx rs q
 ·exact h' pins s σ H x xs v us Q I rx rs q
theorem Ii (hr:Fy X r)(ha:PE X a ta)(hb:PE X b tb)(hs:zd b):PE X (.Subscript a b pos) (Nk r ta tb):=by
 intro pins s σ H Q I h
 exact Subscript_ (Kj ha hb I h fun v u s2 x y H2 I2 rx ry q=>hr a b pins s2 σ H2 x y v u Q I2 rx ry q (hs _ _))
noncomputable def Ny (K:Yy):R2:=fun x y H Q=>∃p xs i v,x=.ref p∧y=.int i∧fE K H p xs∧kG xs i=some v∧Q v H
noncomputable def Nz (K:Yy):R2:=fun x y H Q=>∃p xs i v,x=.ref p∧y=.int i∧fR K H p xs∧kG xs i=some v∧Q v H
noncomputable def NA:R2:=fun x y H Q=>∃z i c,x=.str z∧y=.int i∧z.length≤Yx∧kG z.cps.toList i=some c∧Q (.str ⟨#[c]⟩) H
theorem ze:Fy X (Ny X.K):=by
 intro value slice pins s σ H x y v u Q I rx ry h hs
 obtain⟨p,xs,i,z,rfl,rfl,hq,he,q⟩:=h
 cases rx
 obtain⟨t,rfl⟩:=ry
 obtain⟨aq,r,pl,hz⟩:=I.list hq
 obtain⟨j,h1,h2,h3,h4,h5⟩:=sY he
 obtain⟨w,ew,xf⟩:=r.get h2
 have hl:=r.length
 have hn:=lZ
 have fin:EP X pins σ Q w s:=⟨z,H,I,xf,q⟩
 by_cases h0:0≤i
 ·have hj:i.toNat=j:=by
   rw[seqIndex_of h0 h5] at h1
   exact Zg h1
  exact item_listR pl.isList h0 (by lia) (by rw[hj];simpa using ew) fin hs
 ·have hj:(i+(aq.toArray.size:Int)).toNat=j:=by
   rw[seqIndex_neg (by lia) h4] at h1
   rw[YB,←hl]
   exact Zg h1
  exact subscriptTail_builtinR (x:=w) pl.isList.typeIs slot_list_getitem.lookup
   (wpAny_getItem_list_neg (Q:=fun r s'=>r=w∧EP X pins σ Q r s') pl.isList (by lia) (by rw[YB]<;>lia) (by lia) (by rw[hj];simpa using ew) ⟨rfl,fin⟩) hs
theorem Kr:Fy X (Nz X.K):=by
 intro value slice pins s σ H x y v u Q I rx ry h hs
 obtain⟨p,xs,i,z,rfl,rfl,hq,he,q⟩:=h
 cases rx
 obtain⟨t,rfl⟩:=ry
 obtain⟨aq,r,pl,hz⟩:=I.tuple hq
 obtain⟨j,h1,h2,h3,h4,h5⟩:=sY he
 obtain⟨w,ew,xf⟩:=r.get h2
 have hl:=r.length
 have hn:=lZ
 have fin:EP X pins σ Q w s:=⟨z,H,I,xf,q⟩
 exact subscriptTail_builtinR (x:=w) pl.typeIs slot_tuple_getitem.lookup
  (getItem_tuple (j:=j) (Q:=fun r s'=>r=w∧EP X pins σ Q r s') pl (by lia) (by lia) (by rw[YB,←hl];exact h1) (by simpa using ew) ⟨rfl,fin⟩) hs
theorem Ks:Fy X NA:=by
 intro value slice pins s σ H x y v u Q I rx ry h hs
 obtain⟨z,i,c,rfl,rfl,hz,he,q⟩:=h
 obtain⟨t,rfl⟩:=rx
 obtain⟨t',rfl⟩:=ry
 obtain⟨j,h1,h2,h3,h4,h5⟩:=sY he
 have hl:z.cps.toList.length=z.length:=by simp[Str.length]
 rw[hl] at h1 h4 h5
 have hn:=lZ
 exact tail_any (typeIs_str s z t) slot_str_getitem.lookup (getItem_str (c:=c) (by
  have e1:decide (i < -(2 ^ 63:Int))=false:=decide_eq_false (by lia)
  have e2:decide (i≥2 ^ 63)=false:=decide_eq_false (by lia)
  rw[e1,e2,Bool.or_false]) (by rw[h1];simpa using h2) ⟨.str ⟨#[c]⟩,H,I.tok _,⟨_,rfl⟩,q⟩) hs
noncomputable def UK (K:Yy):R2:=fun x y H Q=>Ny K x y H Q∨Nz K x y H Q∨NA x y H Q
theorem fS:Fy X (UK X.K):=ze.or (Kr.or Ks)
theorem xx (aq:List Yv)(n j:Nat)(u:Yv):abS (·.setIfInBounds j u) {cls:=.type "list",data:=.seq aq.toArray n}={cls:=.type "list",data:=.seq (aq.set j u).toArray n}:=by
 simp[abS]
theorem aw.lst (I:aw X pins σ H s)(h:H p=some (.lst xs)) :
  ∃(aq:List Yv) (n:Nat),aQ xs aq∧s.heap.get? p=some {cls:=.type "list",data:=.seq aq.toArray n}∧xs.length≤Yx:=by
 obtain⟨z,aq,n,r,e⟩:=I.hok p _ h
 exact⟨aq,n,r,e,z⟩
theorem aw.lstUpd {ys:List V}{its':List Yv}{n':Nat}{f:Obj→Obj}(I:aw X pins σ H s)(h:H p=some (.lst xs))(ho:s.heap.get? p=some {cls:=.type "list",data:=.seq aq.toArray n})(hf:f {cls:=.type "list",data:=.seq aq.toArray n}={cls:=.type "list",data:=.seq its'.toArray n'})(r:aQ ys its')(hz:ys.length≤Yx)(t:Nat) :
  aw X pins σ (cm H p (.lst ys)) {s with heap:=s.heap.update p f,toks:=t}:=by
 have e:(s.heap.update p f).get? p=some {cls:=.type "list",data:=.seq its'.toArray n'}:=by
  rw[abN f ho (by rw[hf]<;>rfl),hf]
 refine I.write (x:=p) (e:=p) (by rw[h];trivial) (.inl rfl) (fun b u hb q=>(Heap.get?_update_other _ _ (Ne.symm hb)).trans q) ⟨_,e⟩ ?_
 exact⟨hz,its',n',r,e⟩
noncomputable def NB:V→V→V→Hp→(Hp→Prop)→Prop:=fun o i v H Q=>∃p xs k j,o=.ref p∧i=.int k∧H p=some (.lst xs)∧Ca xs.length k=some j∧Q (cm H p (.lst (xs.set j v)))
theorem CA:Ng X NB:=by
 intro pins s σ H o i v ov iv u Q I ro ri rv h
 obtain⟨p,xs,k,j,rfl,rfl,hp,hj,q⟩:=h
 cases ro
 obtain⟨t,rfl⟩:=ri
 obtain⟨aq,n,r,ho,hz⟩:=I.lst hp
 obtain⟨h1,h2,h3,h4⟩:=zc hj
 have hl:=r.length
 have hn:=lZ
 have I':aw X pins σ (cm H p (.lst (xs.set j v))) {s with heap:=s.heap.update p (abS (·.setIfInBounds j u))} :=
  I.lstUpd hp ho (xx aq n j u) (r.set rv j) (by rw[Z8];exact hz) s.toks
 by_cases h0:0≤k
 ·have hk:k.toNat=j:=by
   rw[seqIndex_of h0 h4] at h1
   exact Zg h1
  exact PySem.W.ki_setAt ho h0 (by lia) (by rw[YB,←hl];exact h4) (by rw[hk];exact⟨_,I',q⟩)
 ·have hk:(k+(aq.toArray.size:Int)).toNat=j:=by
   rw[seqIndex_neg (by lia) h3] at h1
   rw[YB,←hl]
   exact Zg h1
  exact PySem.W.ki_setBack ho (by lia) (by rw[YB,←hl];exact h3) (by lia) (by rw[hk];exact⟨_,I',q⟩)
theorem sZ (lo hi:Option Int)(n:Nat):(acH lo hi none n).1=((HT.sIx n 0 lo:Nat):Int)∧(acH lo hi none n).2.1=((HT.sIx n n hi:Nat):Int)∧(acH lo hi none n).2.2=1:=by
 refine⟨?_,?_,rfl⟩
 ·cases lo with
  |none=>simp[acH,HT.sIx]
  |some i =>
   simp only[acH,HT.sIx,ac0,show (1:Int)>0 by decide,if_true]
   by_cases h:i<0
   ·simp only[h,if_true]<;>lia
   ·simp only[h,if_false]<;>lia
 ·cases hi with
  |none=>simp[acH,HT.sIx]
  |some i =>
   simp only[acH,HT.sIx,ac0,show (1:Int)>0 by decide,if_true]
   by_cases h:i<0
   ·simp only[h,if_true]<;>lia
   ·simp only[h,if_false]<;>lia
theorem qZ (aq:List Yv)(lo hi:Option Int):slicePick aq.toArray lo hi none=((aq.drop (HT.sIx aq.length 0 lo)).take (HT.sIx aq.length aq.length hi - HT.sIx aq.length 0 lo)).toArray:=by
 obtain⟨h1,h2,h3⟩:=sZ lo hi aq.toArray.size
 unfold slicePick
 rw[h1,h2,h3]
 simp only[sliceRange_one,pick_run,YB]<;>rfl
noncomputable def F6 (K:Yy):V→Option Int→Option Int→Hp→VK→Prop:=fun x lo hi H Q=>∃a xs,x=.ref a∧fE K H a xs∧∀p,H p=none→Q (.ref p) (cm H p (.lst (o_ xs lo hi)))
theorem F7:Cy X (F6 X.K):=by
 intro pins s σ H x v vl vu lo hi sl Q I rx hs pl pu h
 obtain⟨a,xs,rfl,hx,q⟩:=h
 cases rx
 obtain⟨aq,r,ht,hz⟩:=I.list hx
 have cU:=r.length
 refine⟨"list",_,slot_list_getitem.lookup,ht.isList.typeIs,?_⟩
 refine wpAny_getItem_list_slice ht.isList hs pl pu .none (by simp) ?_ (by rw[YB]<;>lia)
 rw[qZ,←cU]
 refine⟨.ref s.heap.objs.size,_,I.laid (t':=s.toks) (o:=.lst (o_ xs lo hi)) (fun b ob q=>Yt _ q) (YC _) ?_,rfl,q _ (I.hok.fresh (YC _))⟩
 exact⟨Zd (mW xs lo hi) hz,_,0,(r.drop (HT.sIx xs.length 0 lo)).take (HT.sIx xs.length xs.length hi - HT.sIx xs.length 0 lo),YA _ rfl⟩
noncomputable def i5:V→Bool
 | .non=>true
 | .bl _=>true
 | .int _=>true
 | .str _=>true
 |_=>false
noncomputable def Cb:V→V→Bool
 | .non,.non=>true
 | .bl a,.bl b=>a==b
 | .bl a,.int b=>(if a then 1 else 0)==b
 | .int a,.bl b=>a==(if b then 1 else 0)
 | .int a,.int b=>a==b
 | .str a,.str b=>a==b
 |_,_=>false
theorem Kt {A:Zw}{x:V}{u v:Yv}(ry:aO y u)(rx:aO x v)(fy:i5 y=true)(fx:i5 x=true):aej A s u v (Cb y x):=by
 cases y with
 |non =>
  cases ry
  cases x with
  |non=>cases rx;exact SeqAt.EqAt.same _
  |bl b=>cases rx;exact SeqAt.EqAt.none_bool b
  |int b=>obtain⟨t,rfl⟩:=rx;exact SeqAt.EqAt.none_int b t
  |str b=>obtain⟨t,rfl⟩:=rx;exact SeqAt.EqAt.none_str b t
  |_=>exact absurd (show false=true from fx) Yq
 |bl a =>
  cases ry
  cases x with
  |non=>cases rx;exact SeqAt.EqAt.bool_none a
  |bl b=>cases rx;exact SeqAt.EqAt.bool_bool a b
  |int b=>obtain⟨t,rfl⟩:=rx;exact SeqAt.EqAt.bool_int a b t
  |str b=>obtain⟨t,rfl⟩:=rx;exact SeqAt.EqAt.bool_str a b t
  |_=>exact absurd (show false=true from fx) Yq
 |int a =>
  obtain⟨t',rfl⟩:=ry
  cases x with
  |non=>cases rx;exact SeqAt.EqAt.int_none a t'
  |bl b=>cases rx;exact SeqAt.EqAt.int_bool a t' b
  |int b=>obtain⟨t,rfl⟩:=rx;exact SeqAt.EqAt.int_int a t' b t
  |str b=>obtain⟨t,rfl⟩:=rx;exact SeqAt.EqAt.int_str a t' b t
  |_=>exact absurd (show false=true from fx) Yq
 |str a =>
  obtain⟨t',rfl⟩:=ry
  cases x with
  |non=>cases rx;exact SeqAt.EqAt.str_none a t'
  |bl b=>cases rx;exact SeqAt.EqAt.str_bool a t' b
  |int b=>obtain⟨t,rfl⟩:=rx;exact SeqAt.EqAt.str_int a t' b t
  |str b=>obtain⟨t,rfl⟩:=rx;exact SeqAt.EqAt.str_str a t' b t
  |_=>exact absurd (show false=true from fx) Yq
 |_=>exact absurd (show false=true from fy) Yq
noncomputable def Ku (x:V)(u:Yv):Bool:=match u with
 | .none=>Cb .non x
 | .bool b=>Cb (.bl b) x
 | .int i _=>Cb (.int i) x
 | .str z _=>Cb (.str z) x
 |_=>false
theorem xy {x:V}{u:Yv}(r:aO y u)(f:i5 y=true):Ku x u=Cb y x:=by
 cases y with
 |non=>cases r;rfl
 |bl b=>cases r;rfl
 |int i=>obtain⟨t,rfl⟩:=r;rfl
 |str z=>obtain⟨t,rfl⟩:=r;rfl
 |_=>exact absurd (show false=true from f) Yq
theorem pb {A:Zw}{s:YK}{x:V}{v:Yv}(rx:aO x v)(fx:i5 x=true):∀{xs:List V} {us:List Yv},aQ xs us→xs.all i5=true→∀u∈us,aej A s u v (Ku x u)
 |_,_,.nil,_=>fun u hu=>by cases hu
 |y::xs,u::us,.cons r t,f=>fun u' hu=>by
  rw[ZX,YG] at f
  rcases YU.mp hu with rfl|hu
  ·rw[xy r f.1];exact Kt r rx f.1 fx
  ·exact pb rx fx t f.2 u' hu
theorem bS:dR X (.type "tuple") (fun xs H Q=>∃p ys,xs=[.ref p]∧((fE X.K H p ys∧∀l,H l=none→Q (.ref l) (cm H l (.tup ys)))∨(fR X.K H p ys∧Q (.ref p) H))):=by
 intro pins s σ H xs us Q I r h
 obtain⟨p,ys,rfl,h⟩:=h
 obtain⟨u,rfl,rx⟩:=i4 r
 cases rx
 rcases h with⟨hq,q⟩|⟨hq,q⟩
 ·obtain⟨aq,r',pl,hz⟩:=I.list hq
  have cU:=r'.length
  refine call_tuple_list pl.isList (fun h' kp => ?_) (by simp only[YB]<;>lia)
  have I1:aw X pins σ H {s with heap:=h'}:=I.kept (t':=s.toks) kp
  have I2:aw X pins σ (cm H h'.objs.size (.tup ys)) {s with heap:=h'.push {cls:=.type "tuple",data:=.seq aq.toArray}} :=
   I1.laid (t':=s.toks) (fun b o e=>Yt _ e) (YC _) (show bo X.prog X.w _ _ _ (.tup ys) from ⟨hz,aq,r',IsTup.new _ _,_,YA _ rfl⟩)
  exact⟨.ref h'.objs.size,_,I2,rfl,q _ (I1.hok.fresh (YC _))⟩
 ·obtain⟨aq,r',pl,hz⟩:=I.tuple hq
  exact call_tuple_same pl ⟨.ref p,H,I,rfl,q⟩
noncomputable def QD (K:Yy)(T:String)(x:V)(H:Hp):Prop:=match x with
 | .str _=>T="str"
 | .int _=>T="int"
 | .ref p=>(T="list"∧∃xs,fE K H p xs)∨(T="tuple"∧((∃o,K.lookup p=some o∧o.cls=.type "tuple"∧o.dict=none)∨∃xs,H p=some (.tup xs))) ∨
   (T="dict"∧((∃aJ,H p=some (.dK aJ))∨∃aJ,H p=some (.dT aJ)))∨(T="set"∧∃S n,H p=some (.set S n))
 |_=>False
theorem Kv {T:String}{x:V}{v:Yv}(I:aw X pins σ H s)(r:aO x v)(ty:QD X.K T x H) :
  s.TypeIs v T∧∀a,v=.ref a→∃ob,s.heap.get? a=some ob∧ob.dict=none:=by
 cases x with
 |str z =>
  obtain⟨t,rfl⟩:=r
  cases (show T="str" from ty)
  exact⟨typeIs_str s z t,fun _ e=>nomatch e⟩
 |int i =>
  obtain⟨t,rfl⟩:=r
  cases (show T="int" from ty)
  exact⟨typeIs_int s i t,fun _ e=>nomatch e⟩
 |ref p =>
  cases r
  rcases ty with⟨rfl,xs,hq⟩|⟨rfl,⟨o,hk,hc,hd⟩|⟨xs,hq⟩⟩|⟨rfl,hk⟩|⟨rfl,S,n,hk⟩
  ·obtain⟨aq,_,pl,_⟩:=I.list hq
   refine⟨pl.isList.typeIs,fun a e => ?_⟩
   cases e
   obtain⟨o,n,e,c,hd,_⟩:=pl
   exact⟨o,e,hd⟩
  ·refine⟨⟨o,I.kIn p o hk,hc⟩,fun a e => ?_⟩
   cases e
   exact⟨o,I.kIn _ o hk,hd⟩
  ·obtain⟨_,aq,_,⟨o,e,c,_⟩,n2,e2⟩:=I.hok p _ hq
   refine⟨⟨o,e,c⟩,fun a e' => ?_⟩
   cases e'
   exact⟨_,e2,rfl⟩
  ·have z:∃o,s.heap.get? p=some o∧o.ExactDict:=by
    rcases hk with⟨aJ,hk⟩|⟨aJ,hk⟩
    ·obtain⟨_,_,_,_,o,_,_,e,ex,_⟩:=I.hok p _ hk
     exact⟨o,e,ex⟩
    ·obtain⟨_,_,_,_,o,_,_,e,ex,_⟩:=I.hok p _ hk
     exact⟨o,e,ex⟩
   obtain⟨o,e,ex⟩:=z
   refine⟨⟨o,e,ex.1⟩,fun a e2 => ?_⟩
   cases e2
   exact⟨o,e,ex.2.1⟩
  ·obtain⟨o,_,_,_,e,ex,_⟩:=I.hok p _ hk
   refine⟨⟨o,e,ex.1⟩,fun a e2 => ?_⟩
   cases e2
   exact⟨o,e,ex.2.1⟩
 |_=>exact ZV ty
noncomputable def UL (K:Yy)(T:String)(r:V→List V→Hp→VK→Prop)(to:TE)(t:TA):TE:=fun σ H Q=>to σ H fun x H1=>QD K T x H1∧t σ H1 fun xs H2=>r x xs H2 Q
variable {o e:aav}{es:List aav}{to:TE}{t:TA}{name:Str}{dw cpos:Pos}{T id:String}{r:V→List V→Hp→VK→Prop}
theorem CB (pa:PlainAttrs T)(slot:Slot T name id)(Rv:typeOf (.builtin id)=pure (.type "method_descriptor"))(hm:Fz X id r)(ho:PE X o to)(ha:PA X (e::es) t)
  (Fi:ac9 o name X.env (abE o X.env)=abE o X.env:=by rfl)
  (Mj:((aaQ cpos (YF (e::es) X.env)).all (fun x => !x.1)&&(backToKw cpos (keywordEach [] X.env)).all (fun x=>x.1.isSome)
   && decide ((e::es).length+([]:List adV).length+(if ([]:List adV).isEmpty then 0 else 1)<30))=true:=by rfl)
  (Fj:(dw.endLine==cpos.line)=true:=by rfl) (hs:YF (e::es) X.env=(false,abE e X.env)::YF es X.env:=by rfl) (yQ:(aaQ cpos (YF es X.env)).any (·.1)=false:=by rfl) :
  PE X (.Call (.Attribute o name dw) (e::es) [] cpos) (UL X.K T r to t):=by
 intro pins s σ H Q I h
 refine wpAny_Call_method_late Fi Mj Fj rfl (dz (ho pins s σ H _ I h) fun v s1 ⟨x,H1,I1,r1,ty,q1⟩ => ?_)
 obtain⟨h1,h2⟩:=Kv I1 r1 ty
 refine⟨T,id,pa,slot,Rv,h1,h2,?_⟩
 have hA:=ha cpos pins s1 σ H1 _ I1 q1
 rw[hs] at hA ⊢
 refine aaY (by show (false||(aaQ cpos (YF es X.env)).any (·.1))=false;rw[yQ]<;>rfl) (ac5 ?_)
 exact dz hA fun us s2 ⟨vs,H2,I2,r2,q2⟩=>hm pins s2 σ H2 x vs v us Q I2 r1 r2 q2
end
end L2
namespace L2
noncomputable def QE (X:Cx)(id:String)(r:V→List V→Hp→VK→Prop):Prop :=
 ∀(pins:List (YM×Obj)) (s:YK) (σ:St) (H:Hp) (x:V) (xs:List V) (v:Yv) (us:List Yv) (Q:VK),aw X pins σ H s→aO x v→aQ xs us→r x xs H Q →
  YR (Y7 X.prog X.w) X.A (call (.builtin id) (v::us)) (EP X pins σ Q) X.xe s
theorem aQ.one:∀{x:V} {us:List Yv},aQ [x] us→∃u,us=[u]∧aO x u
 |_,_,.cons r .nil=>⟨_,rfl,r⟩
theorem aQ.eraseIdx:∀{xs:List V} {us:List Yv} (i:Nat),aQ xs us→aQ (xs.eraseIdx i) (us.eraseIdx i)
 |_,_,_,.nil=>.nil
 |_,_,0,.cons _ t=>t
 |_,_,i+1,.cons r t=>.cons r (aQ.eraseIdx i t)
theorem rN {α:Type}:∀(l:List α) (i:Nat),(l.eraseIdx i).length≤l.length
 | [],_=>YC _
 |_::_,0=>Nat.le_succ _
 |_::r,i+1=>Nat.succ_le_succ (rN r i)
section
variable {l:YM}{ys zs:List V}
theorem aw.lset {t':Nat}{its':List Yv}{f:Array Yv→Array Yv}(I:aw X pins σ H s)(hH:H l=some (.lst xs))(e:s.heap.get? l=some {cls:=.type "list",data:=.seq aq.toArray n})(hf:f aq.toArray=its'.toArray)(hv:aQ ys its')(hz:ys.length≤Yx) :
  aw X pins σ (cm H l (.lst ys)) {s with heap:=s.heap.update l (abS f),toks:=t'}:=by
 have q:=PySem.IsL.update e f
 rw[hf] at q
 refine I.write (x:=l) (e:=l) (by rw[hH];exact trivial) (.inl rfl) (fun b' u hb hu=>(Heap.get?_update_other s.heap (abS f) (Ne.symm hb)).trans hu) ⟨_,q⟩ ?_
 exact⟨hz,its',_,hv,q⟩
theorem aw.lnew {t':Nat}(I:aw X pins σ H s)(hv:aQ ys aq)(hz:ys.length≤Yx) :
  aw X pins σ (cm H s.heap.objs.size (.lst ys)) {s with heap:=s.heap.push {cls:=.type "list",data:=.seq aq.toArray},toks:=t'} :=
 I.laid (fun _ _ q=>Yt _ q) (YC _) ⟨hz,aq,0,hv,YA _ rfl⟩
theorem aw.fresh (I:aw X pins σ H s):H s.heap.objs.size=none:=I.hok.fresh (YC _)
theorem aw.lstM (I:aw X pins σ H s)(hH:H l=some (.lst xs)):xs.length≤Yx∧∃(aq:List Yv) (n:Nat),aQ xs aq∧xs.length=aq.length∧s.heap.get? l=some {cls:=.type "list",data:=.seq aq.toArray n}:=by
 obtain⟨z,aq,n,r,e⟩:=I.hok l _ hH
 exact⟨z,aq,n,r,r.length,e⟩
theorem kH (h:n≤Yx):aaJ n=false:=by
 unfold aaJ
 exact decide_eq_false (by lia)
end
noncomputable def F8:V→List V→Hp→VK→Prop:=fun x vs H Q=>∃l b xs zs,x=.ref l∧vs=[.ref b]∧H l=some (.lst xs)∧H b=some (.lst zs)∧xs.length+zs.length≤Yx∧Q .non (cm H l (.lst (xs++zs)))
theorem MO:QE X "list.extend" F8:=by
 intro pins s σ H x vs v us Q I rx rv h
 obtain⟨l,b,xs,zs,rfl,rfl,hH,hB,hz,q⟩:=h
 cases rx
 obtain⟨u,rfl,ru⟩:=rv.one
 cases ru
 obtain⟨z,aq,n,r,hl,e⟩:=I.lstM hH
 obtain⟨z2,its2,n2,r2,Fp,e2⟩:=I.lstM hB
 have hsz:aq.toArray.size+its2.toArray.size≤Yx:=by rw[YB,YB];lia
 have xb:¬(!aq.toArray.isEmpty&&aaJ (aq.toArray.size+its2.toArray.size))=true:=by
  rw[kH hsz,Bool.and_false]
  exact Yq
 refine acI adJ ⟨_,e,rfl⟩ ado (ac6 _ _)
  (AutoSeq1.list_extend_list_list_0 l aq.toArray n b its2.toArray n2 xb (by rw[YB];lia) (by lia)) ⟨e,e2,?_⟩
 refine⟨.non,_,I.lset (its':=aq++its2) hH e (by simp) (r.append r2) ?_,rfl,q⟩
 rw[Yu]
 lia
noncomputable def CC:V→List V→Hp→VK→Prop:=fun x vs H Q=>∃l xs i k y,x=.ref l∧vs=[.int i]∧H l=some (.lst xs) ∧ -(2 ^ 63)≤i∧i<2 ^ 63∧ad8 i xs.length=some k∧xs[k]? = some y∧Q y (cm H l (.lst (xs.eraseIdx k)))
theorem CD:QE X "list.pop" CC:=by
 intro pins s σ H x vs v us Q I rx rv h
 obtain⟨l,xs,i,k,y,rfl,rfl,hH,h1,h2,hk,hy,q⟩:=h
 cases rx
 obtain⟨u,rfl,ru⟩:=rv.one
 obtain⟨t,rfl⟩:=ru
 obtain⟨z,aq,n,r,hl,e⟩:=I.lstM hH
 obtain⟨w,hw,xf⟩:=r.get hy
 refine acI F.slot_list_pop ⟨_,e,rfl⟩ F.entry_list_pop (F.args_list_pop_2 _ _)
  (MeetsSeq.list_pop_at l aq.toArray n i t k w (fitsIndex_both h1 h2) (by rw[YB,←hl];exact hk) (by rw[←Zj];exact hw) (by rw[YB];lia)) ⟨e,?_⟩
 refine⟨y,_,I.lset (its':=aq.eraseIdx k) hH e ?_ (r.eraseIdx k) ?_,xf,q⟩
 ·show aq.toArray.eraseIdxIfInBounds k=(aq.eraseIdx k).toArray
  rw[List.eraseIdxIfInBounds_toArray]
 ·have:=rN xs k
  lia
noncomputable def QF:R2:=fun x y H Q=>∃l b xs zs,x=.ref l∧y=.ref b∧H l=some (.lst xs)∧H b=some (.lst zs)∧xs.length+zs.length≤Yx∧∀p,H p=none→Q (.ref p) (cm H p (.lst (xs++zs)))
theorem Kw:j5 X (abI .Add) QF:=by
 intro pins s σ H x y v u Q I rx ry h
 obtain⟨l,b,xs,zs,rfl,rfl,hH,hB,hz,q⟩:=h
 cases rx
 cases ry
 obtain⟨z,aq,n,r,hl,e⟩:=I.lstM hH
 obtain⟨z2,its2,n2,r2,Fp,e2⟩:=I.lstM hB
 refine PySem.P.add_list e e2 ?_ (by rw[YB,YB];lia)
 have ea:aq.toArray++its2.toArray=(aq++its2).toArray:=by simp
 rw[ea]
 exact⟨.ref _,_,I.lnew (t':=s.toks) (r.append r2) (by rw[Yu];lia),rfl,q _ I.fresh⟩
section
variable {A:Zw}
set_option maxRecDepth 100000 in
end
end L2
namespace Att
open PySem.W PySem.Calls
theorem nV {P:Params}:∀(ns:List Int) (vs:List Yv),WellAll P h vs (ns.map WData.int)→adn vs ns:=by
 intro ns
 induction ns with
 |nil =>
  intro vs w
  rw[ZM] at w
  cases w
  exact .nil
 |cons n ns ih =>
  intro vs w
  rw[Yw] at w
  cases w with
  |cons a b =>
   cases a
   exact .cons _ _ (ih _ b)
theorem A8 {l:OpenLaw}(hn:l.most=some n){P:Params}{args:List WData}{Ml:List Yv}(HZ:l.row.toRowW.claim.pre args=true)(Rx:WellAll P h Ml args) :
  ∃a vs ns,Ml=[Value.ref a]∧args=[WData.list (ns.map WData.int)]∧h.get? a=some {cls:=.type "list",data:=.seq vs.toArray}∧adn vs ns∧ns.length≤n:=by
 have VZ:WShape.hasAll [] args [.list .int]=true:=(pre_splitW HZ).1
 have hc:l.pre.holds [] {args:=args}=true:=(pre_splitW HZ).2
 obtain⟨d,r,rfl,h1,h2⟩:=hasAllW_cons VZ
 obtain rfl:=hasAllW_nil h2
 obtain⟨xs,rfl,h3⟩:=hasW_list h1
 obtain⟨ns,rfl⟩:=items_int h3
 have cU:ns.length≤n:=by
  unfold OpenLaw.pre at hc
  have h4:(WTm.not (.lt (.lit (.int (n:Int))) (.len (.arg 0)))).holds [] {args:=[.list (ns.map .int)]}=true:=by
   have h4:=(holds_andW hc).1
   rw[hn] at h4
   exact h4
  have h5:=condW_of h4 (w_not (w_lt w_lit (w_len_list (w_arg rfl))))
  rw[Yp] at h5
  refine Nat.le_of_not_lt fun q => ?_
  have q':(n:Int)<((ns.length:Nat):Int):=by lia
  first
   | (rw[decide_eq_true q'] at h5;exact absurd h5 (by decide))
   | (simp at h5;lia)
 cases Rx with
 |cons w1 w2 =>
  cases w2
  cases w1 with
  |list ho hall=>exact⟨_,_,ns,rfl,rfl,ho,nV ns _ hall,cU⟩
theorem A9 (l:OpenLaw)(args:List WData):l.row.toRowW.claim.post args (.bool true) args=true :=
 postW_of (r:=l.row.toRowW) (X:=(true==true))
  (show WShape.has [] (.bool true) .bool=true by first|rfl|decide|simp[WShape.has,WShape.arms,WShape.armsAll])
  (show (WTm.eq .res (.lit (.bool true))).value [] {args:=args,res:=some (.bool true),after:=args}=some (.bool (true==true)) from w_eq_bool (w_res rfl) w_lit) rfl
theorem attach_call {l:OpenLaw}{q:aa1}{d:DefRec}(hn:l.most=some n)(OQ:d.params.defaults=[])(call:∀(w:ack) (s₀ s₁:YK) (mg mb:Str→Option Yv) (fa:YM) (o:Obj) (pm cd dv:Yv) (a:YM) (vs:List Yv) (ns:List Int),
   Ground q loose [] XP w s₀ mg mb s₁.heap→YP w s₁.heap →
   s₁.heap.get? fa=some o→o.data=.func (docDef d.name d.params d.body d.scope pm cd dv)→s₁.heap.CodeRec cd d.name→mg d.name=some (.ref fa) →
   s₁.heap.get? a=some {cls:=.type "list",data:=.seq vs.toArray}→adn vs ns→ns.length≤n→s₁.gens=#[] →
   adU (Y7 l.prog w) callerA (.call (.ref fa) ⟨[.ref a],[]⟩) (fun r s'=>r=.ok (.ret (.bool true))∧OldK s₁.heap s'.heap∧s'.os=s₁.os∧adR s'.gens) s₁) :
  WalkO q loose XP YP l.row.toRowW d [] (fun f vs=>PySem.call f vs):=by
 intro w s₀ s₁ mg mb G Y fa o pm cd dv dV kV ho hd iP hD OR hg args Ml as HZ V0 Yf Rx Yg
 obtain rfl:dV=.none:=Dflts.none hD OQ
 obtain rfl:kV=.none:=Dflts.noKw hD
 obtain⟨a,vs,ns,rfl,rfl,Mm,Fm,cU⟩:=A8 hn HZ Rx
 refine enter_call (acg (call w s₀ s₁ mg mb fa o pm cd dv a vs ns G Y ho (fd_plain hd) iP OR Mm Fm cU hg) fun r s' hq => ?_)
 obtain⟨rfl,h2,h3,h4⟩:=hq
 exact⟨.inl ⟨.bool true,.bool true,[],rfl,fun _=>rfl,.bool true,A9 l _,fun _=>⟨List.Pairwise.nil,fun _ hm=>(nomatch hm)⟩⟩,h2,h3,h4⟩
end Att
namespace L2
theorem mj:∀{vs:List Yv} {ns:List Int},adn vs ns→aQ (ns.map V.int) vs
 |_,_,.nil=>.nil
 |_,_,.cons n t h=>.cons ⟨t,rfl⟩ (mj h)
noncomputable def F9 (H:Hp):Prop:=∀b,H b=none∨∃o xs,H b=some (.frz o (.lst xs))
theorem CF {mb:Str→Option Yv}{fa:YM}{s₁:YK}{vs:List Yv}(KX:K.In s₁.heap)(U9:s₁.heap.Ns YQ mg)(hb:s₁.heap.Ns builtinsNs mb)(V1:∀x:Str,x≠"__name__"→mb x=Zr x)(Ry:s₁.heap.NoLimit)(hg:s₁.gens=#[])(ha:s₁.heap.get? a=some {cls:=.type "list",data:=.seq vs.toArray})(hi:adn vs ns)(hl:ns.length≤Yx)(hr:ez k callerA)(F:∀base:abr,K.In base→base.Ns YQ mg→iU P w K mg base CX k fa fd [x] sp)(OS:∀(s:YK) (u:Yv),BindsTo s fd ⟨[u],[]⟩ [(x,u)])(Fg:∀H:Hp,F9 H→fE K H a (ns.map V.int)→sp [.ref a] H (fun v _=>v=.bl true) fun _ _ _=>False)(Rz:∀H e s',CX [] H s₁ (fun _ _ _=>False) e s'→False) :
  adU (Y7 P w) callerA (.call (.ref fa) ⟨[.ref a],[]⟩) (fun r s'=>r=.ok (.ret (.bool true))∧OldK s₁.heap s'.heap∧s'.os=s₁.os∧adR s'.gens) s₁:=by
 have rv:=mj hi
 have RA:=hi.length
 have OT:∀H:Hp,F9 H→fE K H a (ns.map V.int)→gT P w H s₁.heap→(∀b,H b≠none→b=a)→(H a≠none→K.lookup a=none) →
   adU (Y7 P w) callerA (.call (.ref fa) ⟨[.ref a],[]⟩) (fun r s'=>r=.ok (.ret (.bool true))∧OldK s₁.heap s'.heap∧s'.os=s₁.os∧adR s'.gens) s₁:=by
  intro H hO hS hok hA hK
  have AJ:∀{b:YM} {o:Obj},s₁.heap.get? b=some o→H b=none→(sT s₁.heap H).get? b=some o:=fun e n=>Ci e n
  have HY:∀{b:YM} {o:Obj} {es:Array aeg} {ep:Nat},s₁.heap.get? b=some o→o.data=.dict es ep→H b=none:=fun {b o es ep} e d=>by
   cases q:H b with
   |none=>rfl
   |some u =>
    have e':b=a:=hA b (by rw[q];simp)
    subst e'
    rw[ha] at e;cases e
    have d':Data.seq vs.toArray _=Data.dict es ep:=d
    cases d'
  have P6:∀{b:YM} {m:Str→Option Yv},s₁.heap.Ns b m→(sT s₁.heap H).Ns b m:=fun {b m} ⟨o,es,ep,e,d,r⟩=>⟨o,es,ep,AJ e (HY e d),d,r⟩
  have U_:K.In (sT s₁.heap H):=fun b o e=>AJ (KX b o e) (by
   cases q:H b with
   |none=>rfl
   |some u =>
    have e':b=a:=hA b (by rw[q];simp)
    subst e'
    rw[hK (by rw[q];simp)] at e;cases e)
  have hM:Mod K mg (sT s₁.heap H):=⟨U_,P6 U9,⟨mb,P6 hb,V1⟩,let ⟨mc,h1,h2⟩:=Ry;⟨mc,P6 h1,h2⟩⟩
  have e0:A6 P w K mg (sT s₁.heap H) callerA [] s₁ H:=⟨rfl,hM,fun b o e=>FJ e,Nat.le_of_eq (AQ _ _),trivial,fun b hb=>absurd (show b∈([]:List YM) from hb) (by simp),hok,.of_eq hg⟩
  refine acg ((F _ U_ (P6 U9)).run callerA [] s₁ H ⟨[.ref a],[]⟩ [.ref a] [.ref a] _ _ hr e0 (OS s₁ (.ref a)) (.cons rfl .nil) (Fg H hO hS)) fun r s' h => ?_
  cases r with
  |error e=>exact (Rz H e s' h).elim
  |ok fl =>
   cases fl with
   |next=>exact ZV h
   |brk=>exact ZV h
   |cont=>exact ZV h
   |ret u =>
    obtain⟨v,H',os,bare,un,hok',r',q⟩:=h
    have q':v=.bl true:=q
    subst q'
    obtain rfl:u=Value.bool true:=r'
    refine⟨rfl,OldK.of_keep fun b o e => ?_,os,bare⟩
    cases q:H b with
    |none=>exact un.keep b o e q (by intro z;exact absurd (show b∈([]:List YM) from z) (by simp)) (by simp)
    |some u =>
     rcases hO b with z|⟨ob,xs,z⟩
     ·rw[q] at z;cases z
     ·have z2:=un.frzs b ob _ z
      obtain⟨e1,_⟩:=hok b _ z
      obtain⟨e2,_⟩:=hok' b _ z2
      rw[e] at e1;cases e1
      exact e2
 cases hk:K.lookup a with
 |some o =>
  have e:=KX a o hk
  rw[ha] at e
  cases e
  refine OT (fun _=>none) (fun _=>.inl rfl) (.inr ⟨_,vs.toArray,_,hk,rfl,rfl,rfl,by rw[YB,RA];exact hl,by simpa using rv⟩) (fun b u z=>by have z':(none:Option HO)=some u:=z;cases z') (fun b z=>absurd rfl z) fun z=>absurd rfl z
 |none =>
  refine OT (fun b=>if b=a then some (.frz {cls:=.type "list",data:=.seq vs.toArray} (.lst (ns.map V.int))) else none) (fun b => ?_) (.inl (.inr ⟨{cls:=.type "list",data:=.seq vs.toArray},if_pos rfl⟩)) (fun b u z => ?_) (fun b z => ?_) fun _=>hk
  ·by_cases hb:b=a
   ·exact .inr ⟨_,_,if_pos hb⟩
   ·exact .inl (if_neg hb)
  ·by_cases hb:b=a
   ·have z':=(if_pos hb).symm.trans z
    cases z'
    subst hb
    exact⟨ha,by rw[Yp];exact hl,vs,_,rv,ha⟩
   ·have z':=(if_neg hb).symm.trans z
    cases z'
  ·by_cases hb:b=a
   ·exact hb
   ·exact absurd (if_neg hb) z
end L2
namespace L2
theorem walk_of {l:PySem.W.OpenLaw}{q:aa1}{d:DefRec}{K:Params→Yy}{CX:ack→CXT}{sp:ack→Sp}(hn:l.most=some n)(JO:n≤Yx)(OQ:d.params.defaults=[])(hr:ez k callerA)(hY:∀(w:ack) (h:abr),YP w h→(K w.params).In h)(F:∀(w:ack) (mg:Str→Option Yv) (fa:YM) (h:abr),(K w.params).In h→h.Ns YQ mg→mg d.name=some (.ref fa) →
   ∃fd:ab7,(∀(s:YK) (u:Yv),BindsTo s fd ⟨[u],[]⟩ [(x,u)]) ∧
    ∀base:abr,(K w.params).In base→base.Ns YQ mg→iU l.prog w (K w.params) mg base (CX w) k fa fd [x] (sp w))(Fg:∀(w:ack) (H:Hp) (a:YM) (ns:List Int),ns.length≤n→F9 H→fE (K w.params) H a (ns.map V.int)→sp w [.ref a] H (fun v _=>v=.bl true) fun _ _ _=>False)(Rz:∀(w:ack) (H:Hp) (s:YK) (e:Yv) (s':YK),CX w [] H s (fun _ _ _=>False) e s'→False) :
  PySem.W.WalkO q loose XP YP l.row.toRowW d [] (fun f vs=>PySem.call f vs):=by
 refine Att.attach_call hn OQ fun w s₀ s₁ mg mb fa o pm cd dv a vs ns G Y ho hd iP OR Mm Fm cU hg => ?_
 have KX:=hY w _ Y
 obtain⟨fd,hb,hF⟩:=F w mg fa _ KX G.T.g OR
 exact CF KX G.T.g G.T.b G.T.builtins G.T.nolimit hg Mm Fm (Zd cU JO) hr hF hb (fun H hO hS=>Fg w H a ns cU hO hS) fun H e s'=>Rz w H s₁ e s'
end L2
namespace L2
noncomputable def F_ (s:adh)(j:Nat):adh:=match s with
 | .ClassDef _ _ _ body _ _ _ _ _ _ _=>body.getD j (.Pass ⟨0,0,0,0⟩)
 |_=>.Pass ⟨0,0,0,0⟩
noncomputable def av (s:adh):Arguments:=match s with
 | .FunctionDef _ a _ _ _ _ _ _ _ _=>a
 |_=>{posonlyargs:=[],args:=[],vararg:=none,kwonlyargs:=[],kw_defaults:=[],kwarg:=none,defaults:=[]}
noncomputable def ao (s:adh):List adh:=match s with
 | .FunctionDef _ _ b _ _ _ _ _ _ _=>b
 |_=>[]
noncomputable def ag (s:adh):Scope:=match s with
 | .FunctionDef _ _ _ _ _ _ sc _ _ _=>sc
 |_=>{kind:=.function,names:=[],isGenerator:=false,isCoroutine:=false}
noncomputable abbrev s_:CXT:=fun _ _ _ _ _ _=>False
noncomputable abbrev E0:XK:=fun _ _ _=>False
theorem NC:xu s_ X E0:=fun _ _ _ _ _ _ _ h=>h.elim
structure FA (K:Yy)(x qual:Str)(st:adh)(f:YM)(fd:ab7):Prop where
 ex:∃(oc:Yv) (od:Option YM) (kV dv pm:Yv) (an:Option YM) (aY ct:Yv) (osl:Array (Option Yv)),
  fd=YI x qual (av st) (ao st) (ag st) .none kV dv pm an aY ct∧K.lookup f=some ⟨oc,od,.func fd,osl⟩∧Ze K aY qual=true
 kp:Y3 K (.ref f)=true
theorem FA.ok (F:FA K x qual st f fd)(S:aV N ps (ag st))(len:∀vs H Q E,sp vs H Q E→vs.length=ps.length)(fi:∀(aY:Yv) (A:Zw) (outer:List Env) (s:YK) (H:Hp) (vs:List V) (Q:VK) (E:XK),ez k (A.deeper (aa0 qual (ag st) s.heap.objs.size f aY))→sp vs H Q E →
   ∃t,mV (iV s_ P w K mg base N qual (ag st) f aY A outer s H E).nox (ao st) t∧t {nx:=fun _ H'=>Q .non H',rt:=Q} (dB N vs) H):iU P w K mg base s_ (k+1) f fd ps sp:=by
 obtain⟨oc,od,kV,dv,pm,an,aY,ct,osl,rfl,lk,iP⟩:=F.ex
 refine Ih lk iP S len fun A outer s H vs Q E hr Fg => ?_
 obtain⟨t,h,q⟩:=fi aY A outer s H vs Q E hr Fg
 exact⟨t,h.nox,q⟩
theorem FA.binds (F:FA K x qual st f fd)(h:∀(kV dv pm:Yv) (an:Option YM) (aY ct:Yv) (us:List Yv),us.length=ps.length→aag (YI x qual (av st) (ao st) (ag st) .none kV dv pm an aY ct) ⟨us,[]⟩=pure (ps.zip us)):jS K fd ps []:=by
 obtain⟨oc,od,kV,dv,pm,an,aY,ct,osl,rfl,lk,iP⟩:=F.ex
 exact .all (h kV dv pm an aY ct)
theorem cf {oc:Yv}{kV dv pm aY ct:Yv}(l:K.lookup f=some ⟨oc,od,.func (YI x qual (av st) (ao st) (ag st) .none kV dv pm an aY ct),osl⟩)(c:Ze K aY qual=true)(k:Y3 K (.ref f)=true):FA K x qual st f (YI x qual (av st) (ao st) (ag st) .none kV dv pm an aY ct):=⟨⟨oc,od,kV,dv,pm,an,aY,ct,osl,rfl,l,c⟩,k⟩
theorem d8 {A:Zw}(hr:ez k A):A.units+1<abp:=acq (Nat.add_le_add_left (by decide:1≤64) _) hr.units
theorem pv (i:Nat)(hN:X.N[i]? = some x:=by rfl)(hv:yZ X.env.scope x:=by first|exact Or.inl rfl|exact Or.inr (Or.inl rfl)|exact Or.inr (Or.inr rfl))(hd:(x==("__debug__":Str))=false:=by decide)(iP:(x==("__classdict__":Str))=false:=by decide):PE X (.Name x pos) (FK i):=fq hN hv hd iP
theorem iteF {A B:Prop}(h:B):if false=true then A else B:=by
 rw[if_neg Yq]
 exact h
noncomputable def aH (H H':Hp):Prop:=∀b o,H b=some o→H' b=some o
theorem aH.refl (H:Hp):aH H H:=fun _ _ h=>h
theorem aH.trans (a:aH H H1)(b:aH H1 H2):aH H H2:=fun c o h=>b c o (a c o h)
theorem aH.seq (e:aH H H')(h:fE K H a xs):fE K H' a xs:=by
 rcases h with (h|⟨o,h⟩)|h
 ·exact .inl (.inl (e _ _ h))
 ·exact .inl (.inr ⟨o,e _ _ h⟩)
 ·exact .inr h
end L2
namespace L2
section
variable {κ:Type}[DecidableEq κ]
noncomputable def nW (aJ:List (κ×V))(k:κ):Option V:=(aJ.find? fun kv=>decide (kv.1=k)).map (·.2)
noncomputable def kI (aJ:List (κ×V))(k:κ)(v:V):List (κ×V) :=
 if (aJ.any fun kv=>decide (kv.1=k))=true then aJ.map (fun kv=>if kv.1=k then (kv.1,v) else kv) else aJ++[(k,v)]
theorem kJ {p:κ×V}{r:List (κ×V)}{k:κ}(e:p.1=k):nW (p::r) k=some p.2:=by simp[nW,Z9,e]
theorem kK {p:κ×V}{r:List (κ×V)}{k:κ}(e:¬p.1=k):nW (p::r) k=nW r k:=by simp[nW,Z9,e]
theorem vi (k:κ):∀aJ:List (κ×V),(aJ.any fun kv=>decide (kv.1=k))=(nW aJ k).isSome
 | []=>rfl
 |p::r=>by
  rw[List.any_cons]
  by_cases e:p.1=k
  ·simp only[kJ e,decide_eq_true e,Bool.true_or,Option.isSome_some]
  ·rw[kK e,decide_eq_false e,Bool.false_or];exact vi k r
theorem mX (aJ:List (κ×V))(k:κ)(v:V):(kI aJ k v).length≤aJ.length+1:=by
 unfold kI
 split
 ·rw[Yp];lia
 ·rw[Yu,YN,abO];lia
theorem j0.isSome_eq {o:Option V}{u:Option Yv}(r:j0 o u):o.isSome=u.isSome:=by
 cases o with
 |none=>cases u with
  |none=>rfl
  |some _=>exact (show False from r).elim
 |some _=>cases u with
  |none=>exact (show False from r).elim
  |some _=>rfl
theorem j0.getD {o:Option V}{u:Option Yv}{d:V}{d':Yv}(r:j0 o u)(rd:aO d d'):aO (o.getD d) (u.getD d'):=by
 cases o with
 |none=>cases u with
  |none=>exact rd
  |some _=>exact (show False from r).elim
 |some _=>cases u with
  |none=>exact (show False from r).elim
  |some _=>exact r
theorem KV.val {aJ:List (κ×V)}{vs:List (κ×Yv)}(r:KV aJ vs)(k:κ):j0 (nW aJ k) (valueAt vs k):=by
 unfold KV at r
 induction r with
 |nil=>exact True.intro
 | @cons p q ps qs h t ih =>
  obtain⟨h1,h2⟩:=h
  by_cases e:p.1=k
  ·have e':q.1=k:=h1.symm.trans e
   have b:valueAt (q::qs) k=some q.2:=by simp[valueAt,Z9,e']
   rw[kJ e,b];exact h2
  ·have e':¬q.1=k:=fun z=>e (h1.trans z)
   have b:valueAt (q::qs) k=valueAt qs k:=by simp[valueAt,Z9,e']
   rw[kK e,b];exact ih
theorem KV.any {aJ:List (κ×V)}{vs:List (κ×Yv)}(r:KV aJ vs)(k:κ):(aJ.any fun kv=>decide (kv.1=k))=vs.any fun kv=>decide (kv.1=k):=by
 unfold KV at r
 induction r with
 |nil=>rfl
 |cons h t ih=>rw[List.any_cons,List.any_cons,ih,h.1]
theorem KV.repl {aJ:List (κ×V)}{vs:List (κ×Yv)}(r:KV aJ vs)(k:κ){u:Yv}(ry:aO y u) :
  KV (aJ.map fun kv=>if kv.1=k then (kv.1,y) else kv) (vs.map fun kv=>if kv.1=k then (kv.1,u) else kv):=by
 unfold KV at r ⊢
 induction r with
 |nil=>exact .nil
 | @cons p q ps qs h t ih =>
  rw[Yw,Yw]
  refine .cons ?_ ih
  obtain⟨h1,h2⟩:=h
  by_cases e:p.1=k
  ·rw[if_pos e,if_pos (h1.symm.trans e)];exact⟨h1,ry⟩
  ·rw[if_neg e,if_neg (fun z=>e (h1.trans z))];exact⟨h1,h2⟩
theorem KV.put {aJ:List (κ×V)}{vs:List (κ×Yv)}(r:KV aJ vs)(k:κ){u:Yv}(ry:aO y u):KV (kI aJ k y) (stored vs k u):=by
 unfold kI stored
 rw[r.any k]
 by_cases e:(vs.any fun kv=>decide (kv.1=k))=true
 ·rw[if_pos e,if_pos e];exact r.repl k ry
 ·rw[if_neg e,if_neg e];exact Paired.snoc r ⟨rfl,ry⟩
theorem KV.length {aJ:List (κ×V)}{vs:List (κ×Yv)}(r:KV aJ vs):aJ.length=vs.length:=abt r
end
theorem zf {k:Key}{u:Yv}(r:aO (kV k) u):(cJ P w).is k u=true:=by
 cases k with
 |inl i=>obtain⟨t,e⟩:=(show ∃t,u=Value.int i t from r);subst e;exact vd P w i t
 |inr x=>obtain⟨t,e⟩:=(show ∃t,u=Value.str x t from r);subst e;exact vf P w x t
theorem rO {P:aa1}{w:ack}:∀{ks:List Key} {us:List Yv},aQ (ks.map kV) us→ItemsAre (cJ P w) ks us
 | [],_,r=>by rw[ZM] at r;cases r;exact .nil
 |k::ks,_,r=>by
  rw[Yw] at r
  cases r with
  |cons h t=>exact .cons (zf h) (rO t)
noncomputable abbrev KT (H:Hp):List (List Key×V)→List (List Key×YM×Yv)→Prop:=abH fun p q=>p.1=q.1∧H q.2.1=some (.tup (p.1.map kV))∧aO p.2 q.2.2
theorem KT.val {xs:List (List Key×YM×Yv)}(r:KT H aJ xs)(k:List Key):j0 (nW aJ k) ((atKey xs k).map (·.2)):=by
 induction r with
 |nil=>exact True.intro
 | @cons p q ps qs h t ih =>
  obtain⟨h1,_,h2⟩:=h
  by_cases e:p.1=k
  ·have e':q.1=k:=h1.symm.trans e
   have b:atKey (q::qs) k=some q.2:=by simp[atKey,Z9,e']
   rw[kJ e,b];exact h2
  ·have e':¬q.1=k:=fun z=>e (h1.trans z)
   have b:atKey (q::qs) k=atKey qs k:=by simp[atKey,Z9,e']
   rw[kK e,b];exact ih
theorem KT.repl {xs:List (List Key×YM×Yv)}(r:KT H aJ xs)(k:List Key){u:Yv}(ry:aO y u) :
  KT H (aJ.map fun kv=>if kv.1=k then (kv.1,y) else kv) (xs.map (putAt k u)):=by
 induction r with
 |nil=>exact .nil
 | @cons p q ps qs h t ih =>
  rw[Yw,Yw]
  refine .cons ?_ ih
  obtain⟨h1,h2,h3⟩:=h
  unfold putAt
  by_cases e:p.1=k
  ·rw[if_pos e,if_pos (h1.symm.trans e)];exact⟨h1,h2,ry⟩
  ·rw[if_neg e,if_neg (fun z=>e (h1.trans z))];exact⟨h1,h2,h3⟩
theorem KT.put {xs:List (List Key×YM×Yv)}(r:KT H aJ xs)(k:List Key){u:Yv}(hb:H b=some (.tup (k.map kV)))(ry:aO y u) :
  KT H (kI aJ k y) (storedH xs k b u):=by
 have e:(aJ.any fun kv=>decide (kv.1=k))=(atKey xs k).isSome:=by
  rw[vi,(r.val k).isSome_eq,Option.isSome_map]
 unfold kI storedH
 rw[e]
 by_cases q:(atKey xs k).isSome=true
 ·rw[if_pos q,if_pos q];exact r.repl k ry
 ·rw[if_neg q,if_neg q];exact Paired.snoc r ⟨rfl,hb,ry⟩
theorem KT.keeps {xs:List (List Key×YM×Yv)}(r:KT H aJ xs)(ht:∀b ys,H b=some (.tup ys)→H' b=some (.tup ys)):KT H' aJ xs :=
 Paired.mapP r fun _ _ z=>⟨z.1,ht _ _ z.2.1,z.2.2⟩
theorem Ij {u:HO}(ok:gT P w H h)(e:Rd H a u):bo P w H h a u:=e.ok ok
theorem vj {aJ:List (Key×V)}(ok:gT P w H h)(e:Rd H a (.dK aJ)):aJ.length≤Yx∧(a==ZQ)=false∧∃vs,KV aJ vs∧h.DictOf (cJ P w) a vs :=
 show bo P w H h a (.dK aJ) from Ij ok e
theorem ND {aJ:List (Key×V)}(ok:gT P w H h)(e:H a=some (.dK aJ)):aJ.length≤Yx∧(a==ZQ)=false∧∃vs,KV aJ vs∧h.DictOf (cJ P w) a vs:=vj ok (.inl e)
theorem tf {ks:List Key}(ok:gT P w H h)(e:H a=some (.tup (ks.map kV))):(tupleKind (cJ P w)).is h ks a:=by
 obtain⟨_,aq,r,⟨o,h1,h2,n,h3⟩,_⟩:=(show bo P w H h a (.tup (ks.map kV)) from ok a _ e)
 exact⟨o,aq.toArray,n,h1,h2,h3,by simpa using rO r⟩
theorem vk (ok:gT P w H h)(e:Rd H a (.dT aJ)):aJ.length≤Yx∧(a==ZQ)=false ∧
  ∃xs,KT H aJ xs∧h.DictOfH (tupleKind (cJ P w)) a xs:=by
 obtain⟨z,y,xs,r,o,es,ep,h1,h2,h3,h4,h5⟩:=(show bo P w H h a (.dT aJ) from Ij ok e)
 refine⟨z,y,xs,r,o,es,ep,h1,h2,h3,h4,fun x hx => ?_,h5⟩
 have all:∀{l:List (List Key×V)} {m:List (List Key×YM×Yv)},KT H l m→∀x∈m,(tupleKind (cJ P w)).is h x.1 x.2.1:=by
  intro l m q
  induction q with
  |nil=>intro x hx;exact nomatch hx
  | @cons p q ps qs hq t ih =>
   intro x hx
   rcases YU.mp hx with e|hx
   ·subst e
    exact tf ok (by rw[←hq.1];exact hq.2.1)
   ·exact ih x hx
 exact all r x hx
theorem NF (ok:gT P w H h)(e:H a=some (.dT aJ)):aJ.length≤Yx∧(a==ZQ)=false ∧
  ∃xs,KT H aJ xs∧h.DictOfH (tupleKind (cJ P w)) a xs:=vk ok (.inl e)
noncomputable def Ga (H:Hp)(a:YM)(y:V)(r:Option V):Prop :=
 (∃aJ k,Rd H a (.dK aJ)∧y=kV k∧r=nW aJ k)∨∃aJ k b,Rd H a (.dT aJ)∧y=.ref b∧H b=some (.tup (k.map kV))∧r=nW aJ k
noncomputable def NG (H:Hp)(a:YM)(y v:V)(H':Hp):Prop :=
 (∃aJ k,H a=some (.dK aJ)∧y=kV k∧aJ.length<Yx∧H'=cm H a (.dK (kI aJ k v))) ∨
 ∃aJ k b,H a=some (.dT aJ)∧y=.ref b∧H b=some (.tup (k.map kV))∧aJ.length<Yx∧H'=cm H a (.dT (kI aJ k v))
section
variable {u r:Yv}{o:Option V}{A:Zw}
theorem aw.big (I:aw X pins σ H s):ZQ<s.heap.objs.size:=by
 have h:YQ<s.heap.objs.size:=(I.mod.glob.keeps I.bk).lt
 exact Nat.lt_trans (by decide) h
theorem A_ (hu:A.units+1<abp)(I:aw X pins σ H s)(g:Ga H a y (some v))(ry:aO y u)(h:∀w' s',aw X pins σ H s'→aO v w'→Q w' s') :
  YR (Y7 X.prog X.w) A (adm (.ref a) u) Q E s:=by
 rcases g with⟨aJ,k,e,ey,l⟩|⟨aJ,k,b,e,ey,eb,l⟩
 ·subst ey
  obtain⟨z,hd,vs,rel,dd⟩:=vj I.hok e
  obtain⟨w',hw,xf⟩:=j0.some_of (v:=v) (o:=valueAt vs k) (by rw[l];exact rel.val k)
  exact wpAny_getItem_of (zf ry) dd.mapOf hw (h w' _ (I.tok _) xf)
 ·subst ey
  cases (show u=Value.ref b from ry)
  obtain⟨z,hd,xs,rel,dd⟩:=vk I.hok e
  obtain⟨w',hw,xf⟩:=j0.some_of (v:=v) (o:=(atKey xs k).map (·.2)) (by rw[l];exact rel.val k)
  obtain⟨p,hp,Cg⟩:=acB.mp hw
  refine wpAny_getItem_heap (adK hu) (tf I.hok eb) dd hp ?_
  rw[Cg]
  exact h w' _ (I.tok _) xf
theorem tj {t':Nat}{ob:HO}(I:aw X pins σ H s)(mu:MN (H a))(hs:aaC a s.heap h')(he:∃q,h'.get? a=some q)(new:bo X.prog X.w (cm H a ob) h' a ob) :
  aw X pins σ (cm H a ob) {s with heap:=h',toks:=t'} :=
 I.write (x:=a) (e:=a) mu (.inl rfl) (fun b q hb z=>(hs.2 b hb).trans z) he new
theorem Kx {aJ:List (Key×V)}{vs:List (Key×Yv)}(z:aJ.length≤Yx)(hd:(a==ZQ)=false)(rel:KV aJ vs)(dd:h'.DictOf (cJ P w) a vs) :
  bo P w H' h' a (.dK aJ):=⟨z,hd,vs,rel,dd⟩
theorem Ba {Q:Unit→YK→Prop}(hu:A.units+1<abp)(I:aw X pins σ H s)(g:NG H a y v H')(ry:aO y u)(rv:aO v r)(h:∀s',aw X pins σ H' s'→Q () s') :
  YR (Y7 X.prog X.w) A (setItem (.ref a) u r) Q E s:=by
 rcases g with⟨aJ,k,e,ey,l,eH⟩|⟨aJ,k,b,e,ey,eb,l,eH⟩
 ·subst ey eH
  obtain⟨z,hd,vs,rel,dd⟩:=ND I.hok e
  have hz:vs.length≤Yx:=by rw[←rel.length];exact z
  have hl:(kI aJ k v).length≤Yx:=by have:=mX aJ k v;lia
  refine wpAny_setItem_pairs (hsz:=hz) (zf ry) dd fun h' MZ hs=>h _ ?_
  have he:∃q,h'.get? a=some q:=let ⟨q,_,_,hq,_⟩:=MZ;⟨q,hq⟩
  exact tj I (by rw[e];exact True.intro) hs he (Kx hl hd (rel.put k rv) MZ)
 ·subst ey eH
  cases (show u=Value.ref b from ry)
  obtain⟨z,hd,xs,rel,dd⟩:=NF I.hok e
  have hz:xs.length≤Yx:=by rw[←abt rel];exact z
  have hl:(kI aJ k v).length≤Yx:=by have:=mX aJ k v;lia
  refine wpAny_setItem_heap (hsz:=hz) (adK hu) (tf I.hok eb) dd fun h' MZ hs=>h _ ?_
  obtain⟨q,es,ep,hq,h2,h3,h4,_,h5⟩:=MZ
  refine tj I (by rw[e];exact True.intro) hs ⟨q,hq⟩ ⟨hl,hd,_,(rel.put k eb rv).keeps fun c ys ec => ?_,q,es,ep,hq,h2,h3,h4,h5⟩
  rw[aD (M8 ec e (fun z=>nomatch z))]
  exact ec
end
noncomputable def Ky (i:aav):Prop:=∀ov iv,subscripted i false ov iv=operate [ov,iv] (adm ov iv)
theorem Gb {A:Zw}{value slice:aav}{T id:String}(hl:typeLookup (.type T) "__getitem__"=pure (some (.builtin id)))(hs:Ky slice)(h:YR (Y7 prog w) A (abE value env) (fun o s₁=>YR (Y7 prog w) A (abE slice env) (fun i s₂=>s₂.TypeIs o T∧YR (Y7 prog w) A (adm o i) Q E s₂) E s₁) E s) :
  YR (Y7 prog w) A (abE (.Subscript value slice pos) env) Q E s:=by
 refine Subscript_ (ZI h (fun o s₁ h₁=>ZI h₁ (fun i s₂ h₂ => ?_) fun _ _ x=>x) fun _ _ x=>x)
 obtain⟨hT,h₂⟩:=h₂
 unfold subscriptTail
 refine Yo ?_
 rw[getitemInPython_of_ne hT.not_modules]
 refine Yo (adp hT hl ?_)
 have fin:YR (Y7 prog w) A (subscripted slice false o i) (fun r s₃=>YR (Y7 prog w) A (letTemporaryGo value o r >>= fun _=>pure r) Q E s₃) E s₂:=by
  rw[hs o i]
  exact wpAny_operating (ZI h₂ (fun r s₃ h₃=>Yo (wpAny_letTemporaryGo (Yr h₃))) fun _ _ x=>x)
 first
  |exact Yr (Yo fin)
  |exact Yo (Yr (Yo fin))
  |exact Yo fin
theorem vn {o:Option V}(I:aw X pins σ H s)(g:Ga H a y o):s.TypeIs (.ref a) "dict":=by
 rcases g with⟨aJ,k,e,_,_⟩|⟨aJ,k,b,e,_,_,_⟩
 ·obtain⟨_,_,vs,_,dd⟩:=vj I.hok e
  exact dd.typeIs
 ·obtain⟨_,_,xs,_,dd⟩:=vk I.hok e
  exact dd.typeIs
theorem CH (h:abr)(hb:ZQ<h.objs.size):bo P w H (h.push {cls:=.type "dict",data:=.dict #[]}) h.objs.size (.dK []) :=
 ⟨Nat.zero_le _,beq_eq_false_iff_ne.mpr (Ne.symm (Y0 hb)),[],.nil,Heap.DictOf.new h⟩
noncomputable def Kz:TE:=fun _ H Q=>∀p,H p=none→Q (.ref p) (cm H p (.dK []))
theorem CI:PE X (.Dict [] [] pos) Kz:=fun pins s σ H Q I h =>
 wpAny_Dict_empty ⟨.ref s.heap.objs.size,_,I.laid (a:=s.heap.objs.size) (o:=.dK []) (t':=s.toks) (fun _ _ q=>Yt _ q) (YC _) (CH s.heap I.big),rfl,h _ (I.hok.fresh (YC _))⟩
structure M1 (X:Cx)(o:aav)(m:Str)(dw:Pos)(e:aav)(cpos:Pos):Prop where
 base:ac9 o m X.env (abE o X.env)=abE o X.env
 few:((aaQ cpos (YF [e] X.env)).all (fun x => !x.1)&&(backToKw cpos (keywordEach [] X.env)).all (fun x=>x.1.isSome)
  && decide (([e]:List aav).length+([]:List adV).length+(if ([]:List adV).isEmpty then 0 else 1)<30))=true
 line:(dw.endLine==cpos.line)=true
 trees:aaQ cpos (YF [e] X.env)=[(false,abE e X.env)]
structure M2 (X:Cx)(o:aav)(m:Str)(dw:Pos)(e f:aav)(cpos:Pos):Prop where
 base:ac9 o m X.env (abE o X.env)=abE o X.env
 few:((aaQ cpos (YF [e,f] X.env)).all (fun x => !x.1)&&(backToKw cpos (keywordEach [] X.env)).all (fun x=>x.1.isSome)
  && decide (([e,f]:List aav).length+([]:List adV).length+(if ([]:List adV).isEmpty then 0 else 1)<30))=true
 line:(dw.endLine==cpos.line)=true
 trees:aaQ cpos (YF [e,f] X.env)=[(false,abE e X.env),(false,abE f X.env)]
noncomputable def UM (H:Hp)(a:YM):Prop:=(∃aJ,Rd H a (.dK aJ))∨∃aJ,Rd H a (.dT aJ)
theorem KA (I:aw X pins σ H s)(d:UM H a) :
  s.TypeIs (.ref a) "dict"∧(∀b,Value.ref a=.ref b→∃ob,s.heap.get? b=some ob∧ob.dict=none)∧(a==ZQ)=false:=by
 rcases d with⟨aJ,e⟩|⟨aJ,e⟩
 ·obtain⟨_,hd,vs,_,dd⟩:=vj I.hok e
  refine⟨dd.typeIs,fun b q => ?_,hd⟩
  cases q
  obtain⟨ob,_,_,h1,h2,_⟩:=dd
  exact⟨ob,h1,h2.2.1⟩
 ·obtain⟨_,hd,xs,_,dd⟩:=vk I.hok e
  refine⟨dd.typeIs,fun b q => ?_,hd⟩
  cases q
  obtain⟨ob,_,_,h1,h2,_⟩:=dd
  exact⟨ob,h1,h2.2.1⟩
section
variable {d:V}{u r:Yv}{o:Option V}{A:Zw}
theorem KC (hu:A.units+1<abp)(I:aw X pins σ H s)(g:Ga H a y o)(ry:aO y u)(rd:aO d r)(h:∀w' s',aw X pins σ H s'→aO (o.getD d) w'→Q w' s') :
  YR (Y7 X.prog X.w) A (call (.builtin "dict.get") [.ref a,u,r]) Q E s:=by
 rcases g with⟨aJ,k,e,ey,l⟩|⟨aJ,k,b,e,ey,eb,l⟩
 ·subst ey
  obtain⟨z,hd,vs,rel,dd⟩:=vj I.hok e
  refine call_meetsIn abP dd.typeIs acC (acr _ _ _) (meets_dict_get_default (cJ X.prog X.w) a (zf ry) hd r) ⟨_,dd.mapOf,h _ _ (I.tok _) ?_⟩
  rw[l]
  exact (rel.val k).getD rd
 ·subst ey
  cases (show u=Value.ref b from ry)
  obtain⟨z,hd,xs,rel,dd⟩:=vk I.hok e
  refine call_meetsIn abP dd.typeIs acC (acr _ _ _) (meetsH_dict_get_default (tupleKind (cJ X.prog X.w)) a b hd r) ⟨adK hu,k,xs,tf I.hok eb,dd,h _ _ (I.tok _) ?_⟩
  rw[l]
  exact (rel.val k).getD rd
end
end L2
namespace L2
end L2
namespace L2
theorem xA (hf:∀x,(x,NameKind.free)∈scope.names→∃c,env.cells.lookup x=some c) :
  ∃cl:List (Str×YM),closureFor scope env=pure cl∧(∀x c,cl.lookup x=some c→env.cells.lookup x=some c)∧∀x,(x,NameKind.free)∈scope.names→∃c,cl.lookup x=some c:=by
 have gen:∀(names:List (Str×aef)) (cs:List (Str×YM)),(∀x,(x,NameKind.free)∈names→∃c,env.cells.lookup x=some c)→(∀x c,cs.lookup x=some c→env.cells.lookup x=some c) →
   ∃cl:List (Str×YM),(forIn names cs fun (x:Str×aef) (r:List (Str×YM))=>(match x with|(name,kind)=>if (kind==NameKind.free)=true then (do let a ←cellOf env name;pure (ForInStep.yield ((name,a)::r))) else pure (ForInStep.yield r):Sem (ForInStep (List (Str×YM)))))=(pure cl:Sem _) ∧
    (∀x c,cl.lookup x=some c→env.cells.lookup x=some c)∧(∀x c,cs.lookup x=some c→∃c',cl.lookup x=some c')∧∀x,(x,NameKind.free)∈names→∃c,cl.lookup x=some c:=by
  intro names
  induction names with
  |nil=>intro cs _ h;exact⟨cs,rfl,h,fun x c e=>⟨c,e⟩,fun x hx=>absurd hx (by simp)⟩
  |cons p r ih =>
   intro cs hn h
   obtain⟨n,k⟩:=p
   by_cases hk:k=NameKind.free
   ·subst hk
    obtain⟨c,hc⟩:=hn n YO
    have h':∀x c',((n,c)::cs).lookup x=some c'→env.cells.lookup x=some c':=fun x c' e=>by
     rw[aau] at e
     by_cases hx:x==n
     ·rw[hx] at e
      have:x=n:=by simpa using hx
      subst this
      cases e
      exact hc
     ·rw[acJ.mpr hx] at e
      exact h x c' e
    obtain⟨cl,e1,e2,e3,e4⟩:=ih ((n,c)::cs) (fun x hx=>hn x (YS _ hx)) h'
    refine⟨cl,?_,e2,fun x c' e => ?_,fun x hx => ?_⟩
    ·rw[adq]
     have:cellOf env n=pure c:=by unfold cellOf;rw[hc]
     simp only[beq_self_eq_true,if_true,this]
     exact e1
    ·by_cases hx:x=n
     ·subst hx
      exact e3 x c (by rw[aau];simp)
     ·exact e3 x c' (by rw[aau,show (x==n)=false from by simpa using hx];exact e)
    ·rcases YU.mp hx with e|hx
     ·cases e
      exact e3 n c (by rw[aau];simp)
     ·exact e4 x hx
   ·obtain⟨cl,e1,e2,e3,e4⟩:=ih cs (fun x hx=>hn x (YS _ hx)) h
    refine⟨cl,?_,e2,e3,fun x hx => ?_⟩
    ·rw[adq]
     have:(k==NameKind.free)=false:=by simpa using hk
     simp only[this,ZE,if_false]
     exact e1
    ·rcases YU.mp hx with e|hx
     ·cases e
      exact absurd rfl hk
     ·exact e4 x hx
 obtain⟨cl,e1,e2,_,e4⟩:=gen scope.names [] hf (fun x c e=>by simp at e)
 refine⟨cl,?_,e2,e4⟩
 unfold closureFor
 exact (congrArg (fun m=>m >>= fun r=>pure r) e1).trans rfl
structure tm where
 C:YM
 s:YK
 H:Hp
 fp:List YM
 pins:List (YM×Obj)
 cl:List (Str×YM)
noncomputable abbrev eZ (X:Cx)(scope:Scope)(N:List Str)(Y:tm):Cx where
 prog:=X.prog
 w:=X.w
 K:=X.K
 mg:=X.mg
 base:=X.base
 A:=X.A
 N:=N
 s₀:=Y.s
 H₀:=Y.H
 env:=compEnvC scope Y.cl Y.C X.env
 outer:=X.stack
 stack:=X.stack
 ex:=Y.fp
 fn:=fun _=>false
 calm:=X.calm
 pn:=X.pn++Y.pins
 xe:=fun _ _=>False
noncomputable def xB (nN:Scope)(NX:List Str)(scope:Scope)(N:List Str)(js:List (Option Nat)):Bool :=
 decide (scope.kind=.function)&&scope.names.all (fun y=>decide (y.2≠.cell))&&scope.names.all (fun y=>decide (y.2=.local→scope.names.lookup y.1=some .local))&&decide (js.length=N.length) &&
 (js.zip N).all (fun p=>match p.1 with|none=>true|some j=>decide (NX[j]? = some p.2)&&decide (scope.names.lookup p.2=some .free)) &&
 scope.names.all (fun y=>decide (y.2=.free→nN.names.lookup y.1=some .cell∨nN.names.lookup y.1=some .free))
structure oC (nN:Scope)(NX:List Str)(scope:Scope)(N:List Str)(js:List (Option Nat)):Prop where
 kind:scope.kind=.function
 nocell:∀y∈scope.names,y.2≠.cell
 loc:∀y∈scope.names,y.2=.local→scope.names.lookup y.1=some .local
 len:js.length=N.length
 cap:∀(i j:Nat) (x:Str),js[i]? = some (some j)→N[i]? = some x→NX[j]? = some x∧scope.names.lookup x=some .free
 free:∀x,(x,NameKind.free)∈scope.names→nN.names.lookup x=some .cell∨nN.names.lookup x=some .free
theorem xB.to {nN:Scope}{NX:List Str}(h:xB nN NX scope N js=true):oC nN NX scope N js:=by
 unfold xB at h
 simp only[YG] at h
 obtain⟨⟨⟨⟨⟨h1,h2⟩,h3⟩,h4⟩,h5⟩,h6⟩:=h
 refine⟨of_decide_eq_true h1,fun y hy=>of_decide_eq_true (ZN.mp h2 y hy),fun y hy=>of_decide_eq_true (ZN.mp h3 y hy),of_decide_eq_true h4,fun i j x e1 e2 => ?_,fun x hx=>of_decide_eq_true (ZN.mp h6 (x,NameKind.free) hx) rfl⟩
 have hz:(js.zip N)[i]? = some (some j,x):=by
  rw[List.getElem?_zip_eq_some];exact⟨e1,e2⟩
 have q:=ZN.mp h5 _ (Z4 hz)
 simp only[YG] at q
 exact⟨of_decide_eq_true q.1,of_decide_eq_true q.2⟩
noncomputable def rP (js:List (Option Nat))(σ:St):St:=js.map fun o=>match o with
 |none=>none
 |some j=>match σ[j]? with
  |some v=>v
  |none=>none
theorem kL (sP:∀y∈scope.names,y.2≠.cell)(h:(relabel scope env).names.lookup x=some .cell∨(relabel scope env).names.lookup x=some .free):(x,NameKind.free)∈scope.names:=by
 have gen:∀k,(k=NameKind.cell∨k=NameKind.free)→(relabel scope env).names.lookup x=some k→(x,NameKind.free)∈scope.names:=fun k hk e=>by
  have hm:=Zn e
  obtain⟨⟨n,k0⟩,hy,q⟩:=Y9.mp hm
  dsimp only at q
  split at q
  ·rename_i c
   simp only[YG,beq_iff_eq] at c
   cases q
   obtain⟨⟨c1,_⟩,_⟩:=c
   rw[c1] at hy
   exact hy
  ·cases q
   rcases hk with hk|hk
   ·exact absurd hk (sP _ hy)
   ·rw[hk] at hy;exact hy
 rcases h with h|h
 ·exact gen _ (.inl rfl) h
 ·exact gen _ (.inr rfl) h
theorem dQ {env:Env}{x:Str}:∀{names:List (Str×aef)},names.lookup x=some .free →
  (names.map fun (n,k)=>if (k==NameKind.free&&env.scope.kind==.function&&env.kindOf n==some .cell) then (n,NameKind.cell) else (n,k)).lookup x=some .cell ∨
  (names.map fun (n,k)=>if (k==NameKind.free&&env.scope.kind==.function&&env.kindOf n==some .cell) then (n,NameKind.cell) else (n,k)).lookup x=some .free
 | [],h=>by simp at h
 | (n,k)::r,h=>by
  rw[Yw]
  by_cases hx:x==n
  ·rw[aau,hx] at h
   cases h
   by_cases c:(NameKind.free==NameKind.free&&env.scope.kind==.function&&env.kindOf n==some .cell)=true
   ·refine .inl ?_
    show List.lookup x ((if (NameKind.free==NameKind.free&&env.scope.kind==.function&&env.kindOf n==some .cell)=true then (n,NameKind.cell) else (n,NameKind.free))::_)=_
    rw[if_pos c,aau,hx]
   ·refine .inr ?_
    show List.lookup x ((if (NameKind.free==NameKind.free&&env.scope.kind==.function&&env.kindOf n==some .cell)=true then (n,NameKind.cell) else (n,NameKind.free))::_)=_
    rw[if_neg c,aau,hx]
  ·have qX:=acJ.mpr hx
   rw[aau,qX] at h
   have ih:=dQ (env:=env) (x:=x) (names:=r) h
   have e:∀p:Str×aef,p.1=n→List.lookup x (p::(r.map fun (n,k)=>if (k==NameKind.free&&env.scope.kind==.function&&env.kindOf n==some .cell) then (n,NameKind.cell) else (n,k))) =
     List.lookup x (r.map fun (n,k)=>if (k==NameKind.free&&env.scope.kind==.function&&env.kindOf n==some .cell) then (n,NameKind.cell) else (n,k)):=fun p hp=>by
    obtain⟨p1,p2⟩:=p
    cases hp
    rw[aau,qX]
   rw[e _ (by dsimp only;split<;>rfl)]
   exact ih
noncomputable def Gd (X:Cx)(xo:List aav)(t:TT):Prop :=
 ∀(pins:List (YM×Obj)) (s:YK) (σ:St) (H:Hp) (Q:Bool→Hp→Prop),aw X pins σ H s→t σ H Q →
  YR (Y7 X.prog X.w) X.A (forIn xo true fun c r=>if r=true then do let ok ←isTrue c X.env (abE c X.env);pure (ForInStep.yield ok) else pure (ForInStep.yield r)) (TP X pins σ Q) X.xe s
noncomputable def QG:TT:=fun _ H Q=>Q true H
theorem CJ:Gd X [] QG:=fun _ _ _ H _ I h=>wpAny_tests_nil ⟨H,I,h⟩
end L2
namespace L2
theorem i6 {A:Zw}{R:Result→YK→Prop}{yR mO:aav}{it du:Yv}(I:Nat→YK→Prop)(turn:∀n s,I n s→YR (Y7 prog w) A (acf it) (fun r s₁=>match r with
   |none=>R (.ok .next) s₁
   |some v=>YR (Y7 prog w) A (adk mO it v) (fun _ Va=>YR (Y7 prog w) A (assign mO env v) (fun _ s₂ =>
     YR (Y7 prog w) A (forIn xo true fun c r=>if r=true then do let ok ←isTrue c env (abE c env);pure (ForInStep.yield ok) else pure (ForInStep.yield r)) (fun ok s₃ =>
      if ok=true then YR (Y7 prog w) A (abE yR env) (fun x s₄ =>
       YR (Y7 prog w) A (call (.builtin "list.append") [du,x]) (fun _ s₅=>∃m,m<n∧I m s₅) (fun _ _=>False) s₄) (fun _ _=>False) s₃
      else ∃m,m<n∧I m s₃) (fun _ _=>False) s₂) (fun _ _=>False) Va) (fun _ _=>False) s₁) (fun _ _=>False) s)(n:Nat)(h:I n s) :
  adU (Y7 prog w) A (.compLoop (.ListComp yR [⟨mO,iter,xo,0⟩] scope pos) 0 it du env) R s:=by
 refine codeAny_loop rfl I (fun n s hI => ?_) n h
 show YR _ A ((compTurn (.ListComp yR [⟨mO,iter,xo,0⟩] scope pos) 0 it du env).onRaise (fun x=>do noteFrame x env;theTreesLotGoes x)) _ _ s
 refine wpAny_noted ?_
 rw[compTurn_list]
 have fe:∀{e:Yv} {s':YK} {Z:Prop},(fun (_:Yv) (_:YK)=>False) e s'→Z:=fun h=>h.elim
 refine Yo (wpAny_standAt (Yo (ZI (turn n s hI) (fun r s₁ h₁ => ?_) fun _ _ h'=>h'.elim)))
 cases r with
 |none=>exact Yr h₁
 |some v =>
  refine Yo (ZI h₁ (fun _ Va V2 => ?_) fun _ _ h'=>h'.elim)
  refine Yo (ZI V2 (fun _ s₂ h₂=>Yo (ZI h₂ (fun ok s₃ h₃ => ?_) fun _ _ h'=>h'.elim)) fun _ _ h'=>h'.elim)
  cases ok with
  |false=>exact Yr ⟨rfl,h₃⟩
  |true =>
   exact Yo (Yo (ZI h₃ (fun x s₄ h₄=>Yo (ZI h₄ (fun _ s₅ h₅=>Yr (Yr ⟨rfl,h₅⟩)) fun _ _ h'=>h'.elim)) fun _ _ h'=>h'.elim))
noncomputable def NH (J:It)(js:List (Option Nat))(g:tm→TG)(tt:tm→TT)(te:tm→TE)(σ:St)(H1:Hp)(P:List V→Hp→Prop):Prop :=
 ∀Y:tm,∃W:Nat→Nat→List V→Hp→Prop,(∃m,W 0 m [] H1)∧∀i m ys H2,W i m ys H2 →
  (J.stop i H2∧P ys H2) ∨
  (J.go i H2∧ys.length<Yx∧∃Nx:List V→Hp→Prop,(∀JT H',Nx JT H'→∃m',m'<m∧W (i+1) m' JT H')∧∀x H3,J.yld i H2 x H3→g Y x (rP js σ) H3 fun σ4 H4=>tt Y σ4 H4 fun b H5 =>
   if b=true then te Y σ4 H5 fun y H6=>Nx (ys++[y]) H6 else Nx ys H5)
noncomputable def QH (wi:TI)(js:List (Option Nat))(g:tm→TG)(tt:tm→TT)(te:tm→TE):TE:=fun σ H Q=>wi σ H fun J H1 =>
 NH J js g tt te σ H1 fun ys H2=>∀p,H2 p=none→Q (.ref p) (cm H2 p (.lst ys))
theorem xC {E:Yv→YK→Prop}{s2:YK}{yR:aav}{nN:Scope}{g:tm→TG}{tt:tm→TT}{te:tm→TE}{J:It}{tn:Nat→abr→Prop}{P:List V→Hp→Prop}{cl:List (Str×YM)}{RR:Yv→YM→Result→YK→Prop}(I:aw X pins σ H s2)(hc:X.calm=true)(T:sV X.prog X.w X.K tg J fp it tn)(jL:tn 0 s2.heap)(f2:∀b∈fp,nU X pins H b)(B_:∀Y:tm,PG (eZ X scope N Y) tg (g Y)∧Gd (eZ X scope N Y) xo (tt Y)∧PE (eZ X scope N Y) yR (te Y))(S:oC nN X.N scope N js)(qO:X.env.scope=nN)(c1:∀x c,cl.lookup x=some c→X.env.cells.lookup x=some c)(c2:∀x,(x,NameKind.free)∈scope.names→∃c,cl.lookup x=some c)(h:NH J js g tt te σ H P)(hR:∀(du C:YM) (ys:List V) (H':Hp) (s':YK),aw X pins σ (cm H' du (.lst ys)) s'→(∃m,s'.heap.Ns C m)→nU X pins (cm H' du (.lst ys)) C→H' du=none→P ys H'→RR (.ref du) C (.ok .next) s') :
  YR (Y7 X.prog X.w) X.A (newList []) (fun du s₃=>YR (Y7 X.prog X.w) X.A (newFunctionEnv scope X.env.globals cl [] X.env.qual none .none (some X.env)) (fun OU s₄ =>
   adU (Y7 X.prog X.w) X.A (.compStart (.ListComp yR [⟨tg,iter,xo,0⟩] scope pos) 0 (.ref it) du {OU with scope:=relabel scope X.env}) (RR du OU.locals) s₄) E s₃) E s2:=by
 refine Y6 (wpAny_newFunctionEnv S.nocell (by intro y hy;simp at hy) (fun h₁ Mn H9 => ?_) S.kind)
 dsimp only at Mn H9 ⊢
 generalize hH2:s2.heap.push {cls:=.type "list",dict:=none,data:=.seq ([]:List Yv).toArray}=H2 at Mn H9 ⊢
 have hC:H2.objs.size=s2.heap.objs.size+1:=by rw[←hH2,aa_]
 have P7:s2.heap.objs.size≠H2.objs.size:=by rw[hC];exact Y0 (Nat.lt_succ_self _)
 have H_:s2.heap.objs.size≤H2.objs.size:=by rw[hC];exact Nat.le_succ _
 have below:∀b,b<s2.heap.objs.size→b≠H2.objs.size∧b≠s2.heap.objs.size:=fun b hb=>⟨by rw[hC];exact Y0 (acK hb),Y0 hb⟩
 have FE:∀b o,s2.heap.get? b=some o→h₁.get? b=some o:=fun b o e=>H9.extBut b o (below b (YE e)).1 (Yt _ (hH2▸Yt _ e))
 have ot:h₁.PlainList s2.heap.objs.size #[]:=⟨_,H9.extBut _ _ P7 (Yt _ (hH2▸YA _ rfl))⟩
 have RB:∀b∈fp,b<s2.heap.objs.size:=fun b hb=>by
  obtain⟨o,e,_⟩:=T.obj _ _ jL b hb
  exact YE e
 generalize hCg:H2.objs.size=C at *
 generalize hAg:s2.heap.objs.size=du at *
 let Y:tm:=⟨C,s2,H,fp,pins,cl⟩
 have ok:(eZ X scope N Y).Ok:=by
  refine⟨I.ok.mod,S.kind,I.ok.glob,I.ok.blt,?_,fun x y c e1 e2=>I.ok.inj x y c (c1 x c e1) (c1 y c e2),fun x hx=>c2 x (kL S.nocell hx),fun x c e=>(by cases e),I.ok.hd,I.ok.frames,.inl rfl,fun b hb=>⟨?_,fun x c e => ?_⟩,I.bs,Zd I.ok.bsz I.sz,fun b o e hb => ?_,fun b hb hf => ?_,I.stack,I.stkFree⟩
  ·show s2.heap.objs.size≤C
   rw[hAg];exact H_
  ·exact (below b (RB b hb)).1
  ·exact (f2 b hb).2.2.2.2.1 x c (c1 x c e)
  ·rcases (f2 b hb).2.2.2.1 with z|z
   ·exact I.ok.noex b o e z
   ·exact absurd (Zi (YE (I.ok.bs b o e).1) z) (aaz _)
  ·rcases YU.mp (I.stkSub b hf) with z|z
   ·exact (f2 b hb).2.1 z
   ·exact (f2 b hb).2.2.1 z
 have RC:∀x c,X.env.cells.lookup x=some c→c<du:=fun x c e=>by
  obtain⟨v,q⟩:=I.cell x c e
  rw[←hAg];exact q.lt
 have JP:∀p∈X.pn++pins,p.1<du:=fun p hp=>by rw[←hAg];exact YE (I.pin p hp).1
 have Yh:X.env.locals<du:=by rw[←hAg];exact I.lt
 have OV:∀b∈oV X.stack,b<du:=fun b hb=>by
  obtain⟨_,o,ho,_⟩:=I.stack.mem hb
  rw[←hAg];exact YE ho
 have OW:∀p∈X.pn++pins,p.1∉oV X.stack:=fun p hp hf=>by
  rcases YU.mp (I.stkSub _ hf) with z|z
  ·exact (I.pin p hp).2.2.1 z
  ·exact (I.pin p hp).2.2.2.1 z
 have AK:H du=none:=by rw[←hAg];exact I.hok.fresh (YC _)
 have V3:H C=none:=I.hok.fresh (by rw[hAg];exact H_)
 have I4:∀tk:Nat,aw (eZ X scope N Y) [] (rP js σ) H {s2 with heap:=h₁,toks:=tk}:=fun tk=>by
  refine⟨ok,rfl,I.bare,Un.kept FE,⟨_,Mn,fun i x v e1 e2 e3 => ?_⟩,fun x c e => ?_,V3,fun x c e=>I.freeC x c (c1 x c e),fun p hp => ?_,I.hok.kept FE,?_⟩
  ·
   have Mo:(rP js σ)[i]? = some (some v):=e2
   unfold rP at Mo
   rw[YH] at Mo
   cases hj:js[i]? with
   |none=>rw[hj] at Mo;cases Mo
   |some o =>
    rw[hj] at Mo
    cases o with
    |none=>cases Mo
    |some j =>
     have e4:(match σ[j]? with|some v=>v|none=>none)=some v:=Zg Mo
     obtain⟨nx,fr⟩:=S.cap i j x hj e1
     have e5:σ[j]? = some (some v):=by
      cases q:σ[j]? with
      |none=>rw[q] at e4;cases e4
      |some z=>rw[q] at e4;rw[show z=some v from e4]
     obtain⟨m,hn,hl⟩:=I.loc
     have kx:X.env.scope.names.lookup x=some .cell∨X.env.scope.names.lookup x=some .free:=by rw[qO];exact S.free x (Zn fr)
     obtain⟨u,r,lk⟩:=hl j x v nx e5 (.inr kx)
     refine⟨u,r,.inr ⟨dQ fr,?_⟩⟩
     obtain⟨c,hcl⟩:=c2 x (Zn fr)
     rcases lk with⟨k,_⟩|⟨k,c',e',z⟩
     ·have k':X.env.scope.names.lookup x=some .local:=k
      rcases kx with q|q<;>· rw[q] at k';cases k'
     ·have:c'=c:=by
       have:=c1 x c hcl
       rw[e'] at this;exact Zg this
      subst this
      obtain⟨o,ho,hd⟩:=z
      exact⟨c',hcl,o,FE _ _ ho,hd⟩
  ·obtain⟨v,o,ho,hd⟩:=I.cell x c (c1 x c e)
   exact⟨v,o,FE _ _ ho,hd⟩
  ·have FF:p∈X.pn++pins:=by simpa using hp
   obtain⟨q1,q2,q3,q4,q5⟩:=I.pin p FF
   exact⟨FE _ _ q1,q2,fun z=>absurd (JP p FF) (by rw[z];exact Nat.not_lt.mpr H_),OW p FF,q5⟩
  ·show (rP js σ).length=N.length
   unfold rP;rw[Yp];exact S.len
 obtain⟨hg,ht,he⟩:=B_ Y
 obtain⟨W,⟨m0,w0⟩,turn⟩:=h Y
 have RD:∀{H':Hp} {pl:List (YM×Obj)},H' du=none→(∀p∈pl,p.1≠du)→nU (eZ X scope N Y) pl H' du:=fun {H' pl} hn hp=>by
  refine⟨hn,P7,fun z=>absurd (OV _ z) (aaz _),.inr (by show s2.heap.objs.size≤du;rw[hAg];exact YC _),fun x c e=>Y0 (RC x c (c1 x c e)),fun p FF => ?_⟩
  rcases Y4.mp FF with z|z
  ·exact Y0 (JP p z)
  ·exact hp p z
 have RE:∀{H':Hp} {pl:List (YM×Obj)},(∀b∈fp,H' b=none)→(∀p∈pl,p.1∉fp)→∀b∈fp,nU (eZ X scope N Y) pl H' b:=fun {H' pl} hn hp b hb=>by
  refine⟨hn b hb,(below b (RB b hb)).1,fun z => ?_,.inl hb,fun x c e=>(f2 b hb).2.2.2.2.1 x c (c1 x c e),fun p FF => ?_⟩
  ·rcases YU.mp (I.stkSub b z) with q|q
   ·exact (f2 b hb).2.1 q
   ·exact (f2 b hb).2.2.1 q
  ·rcases Y4.mp FF with z|z
   ·exact (f2 b hb).2.2.2.2.2 p z
   ·exact fun e=>hp p z (by rw[e];exact hb)
 have Vb:du∉fp:=fun z=>absurd (RB du z) (by intro q;rw[hAg] at *;exact aaz _ q)
 have RF:∀{i:Nat} {x:Str} {v:V},N[i]? = some x→(rP js σ)[i]? = some (some v)→∃u c o,aO v u∧scope.names.lookup x=some .free∧cl.lookup x=some c∧s2.heap.get? c=some o∧o.data=.cell (some u):=fun {i x v} e1 e2=>by
  unfold rP at e2
  rw[YH] at e2
  cases hj:js[i]? with
  |none=>rw[hj] at e2;cases e2
  |some o =>
   rw[hj] at e2
   cases o with
   |none=>cases e2
   |some j =>
    have e4:(match σ[j]? with|some v=>v|none=>none)=some v:=Zg e2
    obtain⟨nx,fr⟩:=S.cap i j x hj e1
    have e5:σ[j]? = some (some v):=by
     cases q:σ[j]? with
     |none=>rw[q] at e4;cases e4
     |some z=>rw[q] at e4;rw[show z=some v from e4]
    obtain⟨m,hn,hl⟩:=I.loc
    have kx:X.env.scope.names.lookup x=some .cell∨X.env.scope.names.lookup x=some .free:=by rw[qO];exact S.free x (Zn fr)
    obtain⟨u,r,lk⟩:=hl j x v nx e5 (.inr kx)
    obtain⟨c,hcl⟩:=c2 x (Zn fr)
    rcases lk with⟨k,_⟩|⟨k,c',e',z⟩
    ·have k':X.env.scope.names.lookup x=some .local:=k
     rcases kx with q|q<;>· rw[q] at k';cases k'
    ·have:c'=c:=by
      have:=c1 x c hcl
      rw[e'] at this;exact Zg this
     subst this
     obtain⟨o,ho,hd⟩:=z
     exact⟨u,c',o,r,fr,hcl,ho,hd⟩
 have OX:∀{pl:List (YM×Obj)} {σ':St} {H':Hp} {s':YK},aw (eZ X scope N Y) pl σ' H' s'→aw (eZ X scope N Y) pl (rP js σ) H' s':=fun {pl σ' H' s'} K=>by
  refine⟨K.ok,K.os,K.bare,K.base,?_,K.cell,K.free,K.freeC,K.pin,K.hok,?_⟩
  ·obtain⟨m,hn,_⟩:=K.loc
   refine⟨m,hn,fun i x v e1 e2 e3 => ?_⟩
   obtain⟨u,c,o,r,fr,hcl,ho,hd⟩:=RF e1 e2
   refine⟨u,r,.inr ⟨dQ fr,c,hcl,?_⟩⟩
   obtain⟨sl,q⟩:=K.base.any ho (I.freeC x c (c1 x c hcl)) fun z=>(f2 c z).2.2.2.2.1 x c (c1 x c hcl) rfl
   exact⟨_,q,hd⟩
  ·show (rP js σ).length=N.length
   unfold rP;rw[Yp];exact S.len
 have loop:∀tk:Nat,adU (Y7 X.prog X.w) X.A (.compLoop (.ListComp yR [⟨tg,iter,xo,0⟩] scope pos) 0 (.ref it) (.ref du) (compEnvC scope cl C X.env)) (RR (.ref du) C) {s2 with heap:=h₁,toks:=tk}:=by
  intro tk
  refine i6 (fun n s'=>∃(i:Nat) (ys:List V) (aq:List Yv) (H':Hp),aw (eZ X scope N Y) [] (rP js σ) H' s'∧tn i s'.heap∧(∀b∈fp,H' b=none)∧H' du=none∧s'.heap.PlainList du aq.toArray∧aQ ys aq∧ys.length≤Yx∧W i n ys H') ?_ m0
   ⟨0,[],[],H,I4 tk,T.keep _ _ _ jL (fun b hb o e=>FE b o e),fun b hb=>(f2 b hb).1,AK,ot,.nil,Nat.zero_le _,w0⟩
  rintro n s3 ⟨i,ys,aq,H3,I3,FG,fr3,na3,⟨nn,ea⟩,rv3,hz3,w3⟩
  have Mp:∀p∈[(du,({cls:=.type "list",data:=.seq aq.toArray nn}:Obj))],p.1∉fp:=fun p hp=>by
   have e:p=(du,({cls:=.type "list",data:=.seq aq.toArray nn}:Obj)):=by simpa using hp
   rw[e];exact Vb
  have Ip:aw (eZ X scope N Y) [(du,({cls:=.type "list",data:=.seq aq.toArray nn}:Obj))] (rP js σ) H3 s3:=I3.pins_of fun p hp=>by
   have e:p=(du,({cls:=.type "list",data:=.seq aq.toArray nn}:Obj)):=by simpa using hp
   subst e
   exact⟨ea,na3,P7,fun z=>absurd (OV _ z) (aaz _),fun v z=>by cases z⟩
  rcases turn i n ys H3 w3 with⟨stop,p⟩|⟨go,xc,Nx,hNx,step⟩
  ·refine ZI (T.done (eZ X scope N Y) rfl rfl rfl hc i _ s3 _ H3 (fun _ _=>False) Ip (RE fr3 Mp) FG stop) (fun r s4 V4 => ?_) fun _ _ z=>z
   obtain⟨hr,J4⟩:=V4
   subst hr
   have pa:=(J4.pin (du,({cls:=.type "list",data:=.seq aq.toArray nn}:Obj)) (Za _ YO)).1
   have u:Un (oV X.stack) fp H (cm H3 du (.lst ys)) s2.heap s4.heap :=
    ⟨J4.base.keep,J4.base.slot,fun b o e nb hx=>by rw[aD (below b (by rw[←hAg];exact YE e)).2];exact J4.base.free b o e nb hx,J4.base.there,
     fun b xs e=>by rw[aD (ba e AK)];exact J4.base.tups b xs e,fun b o w' e=>by rw[aD (ba e AK)];exact J4.base.frzs b o w' e,fun b ps e=>by rw[aD (ba e AK)];exact J4.base.tbls b ps e⟩
   have hok:gT X.prog X.w (cm H3 du (.lst ys)) s4.heap:=fun b o e=>by
    by_cases hb:b=du
    ·subst hb
     rw[aI] at e
     cases e
     exact⟨hz3,aq,nn,rv3,pa⟩
    ·rw[aD hb] at e
     refine (J4.hok b o e).stay (fun _ _ _ q=>q) (fun c q => ?_) fun c xs q => ?_
     ·rw[aD (ba q na3)];exact q
     ·rw[aD (ba q na3)];exact q
   have RG:aw X pins σ (cm H3 du (.lst ys)) s4:=I.call' (ch:=fp) J4.os u hok J4.bare fun b hb=>⟨(f2 b hb).2.2.2.1,(f2 b hb).2.1,(f2 b hb).2.2.2.2.1,(f2 b hb).2.2.2.2.2⟩
   have V5:∃m,s4.heap.Ns C m:=by obtain⟨m,hn,_⟩:=J4.loc;exact⟨m,hn⟩
   exact hR du C ys H3 s4 RG V5 (I.fpOk (by rw[hAg];exact H_) (by rw[aD (Ne.symm P7)];exact J4.free)) na3 p
  ·refine ZI (T.item (eZ X scope N Y) rfl rfl rfl hc i _ s3 _ H3 (fun _ _=>False) Ip (RE fr3 Mp) FG go) (fun r s4 h4 => ?_) fun _ _ z=>z
   obtain⟨u,hr,h4⟩:=h4
   subst hr
   refine ZI h4 (fun _ s5 h5 => ?_) fun _ _ z=>z
   obtain⟨x,H5,I5,r5,y5,st5,fr5⟩:=h5
   have Rq:=I5.pinned (RE fr5 Mp) (T.obj _ _ st5)
   refine ZI (hg _ s5 _ H5 x u _ Rq r5 (step x H5 y5)) (fun _ s6 h6 => ?_) fun _ _ z=>z
   obtain⟨σ6,H6,I6,q6⟩:=h6
   refine ZI (ht _ s6 σ6 H6 _ I6 q6) (fun b s7 h7 => ?_) fun _ _ z=>z
   obtain⟨H7,I7,q7⟩:=h7
   have OY:∀{H8:Hp} {σ8:St} {s8:YK},aw (eZ X scope N Y) ([(du,({cls:=.type "list",data:=.seq aq.toArray nn}:Obj))]++oZ fp s5.heap) σ8 H8 s8 →
     s8.heap.get? du=some ({cls:=.type "list",data:=.seq aq.toArray nn}:Obj)∧H8 du=none∧(∀b∈fp,H8 b=none)∧(∀b∈fp,∀o,s5.heap.get? b=some o→s8.heap.get? b=some o):=fun {H8 σ8 s8} K=>by
    have q:=K.pin (du,({cls:=.type "list",data:=.seq aq.toArray nn}:Obj)) (Za _ (aat _ YO))
    refine⟨q.1,q.2.1,fun b hb => ?_,fun b hb o e=>(K.pin (b,o) (Za _ (Za _ (iu hb e)))).1⟩
    obtain⟨o,e,d⟩:=T.obj _ _ st5 b hb
    exact (K.pin (b,o) (Za _ (Za _ (iu hb e)))).2.1
   have Fo:∀{H8:Hp} {σ8:St} {s8:YK} {pl:List (YM×Obj)},aw (eZ X scope N Y) pl σ8 H8 s8→aw (eZ X scope N Y) [] σ8 H8 s8:=fun K=>K.pins_of fun p hp=>absurd hp (by simp)
   cases b with
   |false =>
    rw[if_neg (by simp)] at q7
    obtain⟨m',hm,w7⟩:=hNx _ _ q7
    obtain⟨p1,p2,p3,p4⟩:=OY I7
    exact⟨m',hm,i+1,ys,aq,H7,OX (Fo I7),T.keep _ _ _ st5 p4,p3,p2,⟨nn,p1⟩,rv3,hz3,w7⟩
   |true =>
    rw[if_pos rfl] at q7
    refine ZI (he _ s7 σ6 H7 _ I7 q7) (fun v s8 h8 => ?_) fun _ _ z=>z
    obtain⟨y,H8,I8,r8,q8⟩:=h8
    obtain⟨m',hm,w8⟩:=hNx _ _ q8
    obtain⟨p1,p2,p3,p4⟩:=OY I8
    refine wpAny_list_append_plain (items:=aq.toArray) ⟨nn,p1⟩ (fun h' V6 sb => ?_) (by rw[YB,←rv3.length];exact hz3)
    obtain⟨f0,f1,f2',f3,f4,f5⟩:=RD (H':=H8) (pl:=[]) p2 (by simp)
    have I9:aw (eZ X scope N Y) [] σ6 H8 {s8 with heap:=h'}:=(Fo I8).turned (t':=s8.toks) (fun b o hb e=>(sb.2 b hb).trans e) f0 f1 f3 f4 f5
    refine⟨m',hm,i+1,ys++[y],aq++[v],H8,OX I9,T.keep _ _ _ st5 (fun b hb o e=>(sb.2 b (fun z=>Vb (z▸hb))).trans (p4 b hb o e)),p3,p2,?_,rv3.append (.cons r8 .nil),?_,w8⟩
    ·rw[show (aq++[v]).toArray=aq.toArray.push v from by simp]
     exact V6
    ·rw[Yu,Z0];exact xc
 exact codeAny_compStart_list (loop _) (T.self _ _ _ _ _ (T.keep _ _ _ jL (fun b hb o e=>FE b o e)) (loop _))
theorem xD {nN:Scope}(I:aw X pins σ H s)(S:oC nN X.N scope N js)(qO:X.env.scope=nN) :
  ∃cl:List (Str×YM),closureFor scope X.env=pure cl∧(∀x c,cl.lookup x=some c→X.env.cells.lookup x=some c)∧∀x,(x,NameKind.free)∈scope.names→∃c,cl.lookup x=some c :=
 xA fun x hx=>I.ok.has x (by
  have:=S.free x hx
  rw[←qO] at this
  exact this)
theorem Ik {yR:aav}{wi:TI}{g:tm→TG}{tt:tm→TT}{te:tm→TE}(nN:Scope)(NX N:List Str)(js:List (Option Nat))(hc:X.calm=true)(hi:PI X tg iter wi)(B_:∀Y:tm,PG (eZ X scope N Y) tg (g Y)∧Gd (eZ X scope N Y) xo (tt Y)∧PE (eZ X scope N Y) yR (te Y))(qO:X.env.scope=nN:=by rfl)(OZ:X.N=NX:=by rfl)(hS:xB nN NX scope N js=true:=by decide +kernel)(hs:∀x,abg iter X.env x=pure x:=by intro _;rfl):PE X (.ListComp yR [⟨tg,iter,xo,0⟩] scope pos) (QH wi js g tt te):=by
 intro pins s σ H Q I h
 have S:oC nN X.N scope N js:=by rw[OZ];exact xB.to hS
 obtain⟨cl,e1,e2,e3⟩:=xD I S qO
 rw[eval_ListComp]
 refine wpAny_comprehension_free (use:=none) rfl hs e1 S.kind S.loc (dz (hi pins s σ H _ I h) fun v s1 h1=>dz h1 fun Ro s2 h2 => ?_)
 obtain⟨it,fp,tn,J,H2,e,I2,T,jL,f2,q⟩:=h2
 subst e
 refine xC (RR:=fun du C=>compPost (Y7 X.prog X.w) X.A X.xe none (EP X pins σ Q) du C) I2 hc T jL f2 B_ S qO e2 e3 q ?_
 intro du C ys H' s' I' ns fC na p
 obtain⟨m,hn⟩:=ns
 obtain⟨f0,f1,f2',f3,f4,f5⟩:=fC
 exact⟨m,hn,fun h' sb=>⟨.ref du,_,I'.turned (t':=s'.toks) (fun b o hb e=>(sb.2 b hb).trans e) f0 f1 f3 f4 f5,rfl,p du na⟩⟩
noncomputable def NI (J:It)(g:TG)(tb:TS)(D:j3)(σ:St)(H1:Hp):Prop:=∃W:Nat→Nat→St→Hp→Prop,(∃m,W 0 m σ H1)∧∀i m σ H,W i m σ H →
 (J.stop i H∧D.nx σ H)∨(J.go i H∧∃N:St→Hp→Prop,(∀σ' H',N σ' H'→∃m',m'<m∧W (i+1) m' σ' H')∧∀x H',J.yld i H x H'→g x σ H' fun σ2 H2=>tb {D with nx:=N,ct:=N,bk:=D.nx} σ2 H2)
noncomputable def NJ (wi:TI)(g:TG)(tb:TS):TS:=fun D σ H=>wi σ H fun J H1=>NI J g tb D σ H1
theorem Ge {wi:TI}{g:TG}(hp:aeh (Y7 X.prog X.w) X.A X.env X.xe)(hc:X.calm=true)(hi:PI X tg iter wi)(hg:PG X tg g)(hb:mV X body tb)(hs:∀x,abg iter X.env x=pure x:=by intro _;rfl):PS X (.For tg iter body [] pos) (NJ wi g tb):=Ki hp hc hi hg hb hs
end L2
namespace L2
inductive D where
 |non|bl (b:Bool)|int (i:Int)|str (x:Str)|tup (xs:List D)|lst (xs:List D)
instance:Inhabited D:=⟨.non⟩
mutual
noncomputable def xk (K:Yy)(H:Hp):D→V→Prop
 | .non,v=>v=.non
 | .bl b,v=>v=.bl b
 | .int i,v=>v=.int i
 | .str x,v=>v=.str x
 | .tup ds,v=>∃a xs,v=.ref a∧fR K H a xs∧q0 K H ds xs
 | .lst ds,v=>∃a xs,v=.ref a∧fE K H a xs∧q0 K H ds xs
noncomputable def q0 (K:Yy)(H:Hp):List D→List V→Prop
 | [],xs=>xs=[]
 |d::ds,xs=>∃x r,xs=x::r∧xk K H d x∧q0 K H ds r
end
mutual
noncomputable def Il:D→D→Bool
 | .non,.non=>true
 | .bl a,.bl b=>a==b
 | .bl a,.int b=>(if a then 1 else 0)==b
 | .int a,.bl b=>a==(if b then 1 else 0)
 | .int a,.int b=>a==b
 | .str a,.str b=>a==b
 | .tup xs,.tup ys=>CK xs ys
 | .lst xs,.lst ys=>CK xs ys
 |_,_=>false
noncomputable def CK:List D→List D→Bool
 | [],[]=>true
 |x::xs,y::ys=>Il x y&&CK xs ys
 |_,_=>false
end
mutual
noncomputable def KD:D→Nat
 | .tup xs=>CL xs+1
 | .lst xs=>CL xs+1
 |_=>0
noncomputable def CL:List D→Nat
 | []=>0
 |x::xs=>max (KD x) (CL xs)
end
mutual
theorem CM:∀d:D,Il d d=true
 | .non=>rfl
 | .bl b=>by unfold Il;simp
 | .int b=>by unfold Il;simp
 | .str b=>by unfold Il;simp
 | .tup xs=>by unfold Il;exact ml xs
 | .lst xs=>by unfold Il;exact ml xs
theorem ml:∀ds:List D,CK ds ds=true
 | []=>rfl
 |d::ds=>by unfold CK;rw[CM d,ml ds];rfl
end
end L2
namespace L2
noncomputable def d9 (n m:String):Bool:=(n==m)||(n=="bool"&&m=="int")
theorem CN (K:Yy){n m:String}(hn:n∈["NoneType","bool","int","str","list","tuple","dict"])(hm:m∈["bool","int","str","list","tuple","dict"]) :
  aan K (.type n) (.type m)=some (d9 n m):=by
 simp only[YU,aaL,or_false] at hn hm
 rcases hn with rfl|rfl|rfl|rfl|rfl|rfl|rfl<;>rcases hm with rfl|rfl|rfl|rfl|rfl|rfl<;>kernel_rfl
inductive q9 (K:Yy)(H:Hp):V→String→Prop where
 |non:q9 K H .non "NoneType"
 |bl (x:Bool):q9 K H (.bl x) "bool"
 |int (i:Int):q9 K H (.int i) "int"
 |str (x:Str):q9 K H (.str x) "str"
 |lst {a:YM} {xs:List V} (e:H a=some (.lst xs)):q9 K H (.ref a) "list"
 |frz {a:YM} {o:Obj} {xs:List V} (e:H a=some (.frz o (.lst xs))):q9 K H (.ref a) "list"
 |tup {a:YM} {xs:List V} (e:H a=some (.tup xs)):q9 K H (.ref a) "tuple"
 |dK {a:YM} {aJ:List (Key×V)} (e:H a=some (.dK aJ)):q9 K H (.ref a) "dict"
 |dT {a:YM} {aJ:List (List Key×V)} (e:H a=some (.dT aJ)):q9 K H (.ref a) "dict"
theorem q9.mem {x:V}{n:String}(h:q9 K H x n):n∈["NoneType","bool","int","str","list","tuple","dict"]:=by
 cases h<;>simp
theorem q9.ty {x:V}{n:String}(h:q9 K H x n):l_ K H x (.type n):=by
 cases h with
 |non=>exact .non
 |bl=>exact .bl _
 |int=>exact .int _
 |str=>exact .str _
 |lst e=>exact .lst e
 |frz e=>exact .frz e
 |tup e=>exact .tup e
 |dK e=>exact .dK e
 |dT e=>exact .dT e
theorem vo {m:String}(hm:m∈["bool","int","str","list","tuple","dict"]):dR X (.builtin "isinstance") (fun xs H Q=>∃x n,xs=[x,.ty m]∧q9 X.K H x n∧Q (.bl (d9 n m)) H):=by
 intro pins s σ H xs us Q I r h
 obtain⟨x,n,rfl,ty,q⟩:=h
 obtain⟨u,w',rfl,rx,rt⟩:=rJ r
 cases rt
 exact A5 I rx ty.ty (CN X.K ty.mem hm) fun tk=>⟨.bl _,H,I.tok tk,rfl,q⟩
theorem mY:dR X (.type "range") (fun xs H Q=>∃j,xs=[.int j]∧∀p,H p=none→Q (.ref p) (cm H p (.rng 0 j))):=by
 intro pins s σ H xs us Q I r h
 obtain⟨j,rfl,q⟩:=h
 obtain⟨u,rfl,rx⟩:=i4 r
 obtain⟨t,rfl⟩:=rx
 refine call_range_1 ⟨.ref s.heap.objs.size,cm H s.heap.objs.size (.rng 0 j),I.laid (fun b u e=>Yt _ e) (YC _) ?_,rfl,q _ (I.hok.fresh (YC _))⟩
 exact⟨_,_,_,YA _ rfl⟩
theorem ph {a:Int}{du:Array Yv}(h:ItemsOf (fun i v=>∃t,v=Value.int (a+i*1) t) du n):aQ ((ZA n).map fun i=>V.int (a+(i:Nat))) du.toList:=by
 obtain⟨hs,hi⟩:=h
 have gen:∀(l:List Yv) (k:Nat),(∀(i:Nat) v,l[i]? = some v→∃t,v=Value.int (a+((k+i:Nat):Int)*1) t)→aQ ((List.range' k l.length).map fun i=>V.int (a+(i:Nat))) l:=by
  intro l
  induction l with
  |nil=>intro k _;exact .nil
  |cons v r ih =>
   intro k hk
   rw[YN,List.range'_succ,Yw]
   refine .cons ?_ (ih (k+1) fun i v e => ?_)
   ·obtain⟨t,e⟩:=hk 0 v rfl
    exact⟨t,by rw[e];simp⟩
   ·obtain⟨t,e'⟩:=hk (i+1) v (by simpa using e)
    refine⟨t,?_⟩
    rw[e',show k+(i+1)=k+1+i by lia]
 have q:=gen du.toList 0 (fun i v e=>by
  obtain⟨t,e'⟩:=hi i v (by simpa using e)
  exact⟨t,by rw[e',abQ]⟩)
 rw[Yz,hs] at q
 rw[List.range_eq_range']
 exact q
theorem q_ (hc:X.calm=true):dR X (.type "list") (fun xs H Q=>∃p lo hi,xs=[.ref p]∧H p=some (.rng lo hi)∧(-(2 ^ 62)≤lo∧lo<2 ^ 62 ∧ -(2 ^ 62)≤hi∧hi<2 ^ 62)∧(hi - lo).toNat≤2 ^ 20 ∧
  ∀l,H l=none→Q (.ref l) (cm H l (.lst ((ZA (hi - lo).toNat).map fun i=>V.int (lo+(i:Nat)))))):=by
 intro pins s σ H xs us Q I r h
 obtain⟨p,lo,hi,rfl,hp,⟨h1,h2,h3,h4⟩,hz,q⟩:=h
 obtain⟨u,rfl,rx⟩:=i4 r
 cases rx
 obtain⟨t,u,v,e⟩:=I.hok p _ hp
 refine call_list_range (n:=(hi - lo).toNat) (I.ok.hd hc) (c:=1) (show IsRange s.heap p lo hi 1 t u v from e) (small_one h1 h2 h3 h4) (by rw[rangeSize_one];split<;>lia) (by lia) fun h' tk Mq c' hk O0 ot => ?_
 have hl:((ZA (hi - lo).toNat).map fun i=>V.int (lo+(i:Nat))).length≤Yx:=by
  rw[Yp,Z2,aaq];lia
 refine⟨.ref s.heap.objs.size,_,I.laid hk (YC _) (show bo X.prog X.w _ _ _ (.lst _) from ⟨hl,Mq.toList,c',ph ot,by simpa using O0⟩),rfl,q _ (I.hok.fresh (YC _))⟩
noncomputable def CO (i j:Int):Prop:=0<j∧j<18446744073709551616
theorem xE (h:n<18446744073709551616):n.log2<9000:=by
 by_cases h0:n=0
 ·subst h0;decide
 ·have:=(Nat.log2_lt h0 (k:=64)).mpr (by lia)
  lia
theorem gY:j5 X (abI .FloorDiv) (rI CO fun i j=>.int (i / j)):=Pw fun i j _ _ _ _ _ hc q=>by
 refine floordiv_int (by have:=hc.1;lia) ?_ (.inl (PyProof.noPylong_of_log2 (xE (by have:=hc.1;have:=hc.2;lia))))
 rw[Int.fdiv_eq_ediv_of_nonneg _ (by have:=hc.1;lia)]
 exact q
theorem oD:Zr "list"=some (.type "list"):=by decide +kernel
theorem dc:Zr "tuple"=some (.type "tuple"):=by decide +kernel
theorem Gf:Zr "dict"=some (.type "dict"):=by decide +kernel
theorem tq:Zr "bool"=some (.type "bool"):=by decide +kernel
theorem vp:Zr "range"=some (.type "range"):=by decide +kernel
theorem gK:Zr "len"=some (.builtin "len"):=by decide +kernel
theorem KG:Zr "max"=some (.builtin "max"):=by decide +kernel
theorem CP:Zr "min"=some (.builtin "min"):=by decide +kernel
theorem tw:Zr "abs"=some (.builtin "abs"):=by decide +kernel
theorem eV:Zr "isinstance"=some (.builtin "isinstance"):=by decide +kernel
theorem rQ:Zr "sorted"=some (.builtin "sorted"):=by decide +kernel
theorem KI:Zr "all"=some (.builtin "all"):=by decide +kernel
theorem KJ:Zr "sum"=some (.builtin "sum"):=by decide +kernel
end L2
namespace HT
open L2
section
variable {A:Zw}
theorem getItem_tuple_whole {t sl:YM}{items:Array Yv}{vl vu:Yv}{lo:Option Int}(ht:IsTup s.heap t items)(hs:s.heap.IsSliceOf sl vl vu .none)(pl:IsPart vl lo)(pu:IsPart vu hi)(hw:sIx items.size 0 lo=0∧sIx items.size items.size hi=items.size)(h:Q (.ref t) s):YR (Y7 prog w) A (adm (.ref t) (.ref sl)) Q E s:=by
 obtain⟨os,FI,hcs,hds⟩:=id hs
 have Rt:s.TypeIs (.ref sl) "slice":=⟨os,FI,hcs⟩
 unfold adm
 try with_reducible refine ZL ?_
 first|refine Yo (Yr ?_)|skip
 refine Yo (wpAny_sequenceKey ht.typeIs (by decide) ?_)
 refine Yo (Zo (name:=Z5 "__getitem__") ht.typeIs aax
  (Y8 aax ht.typeIs entry_tuple_getitem ?_ (args_tuple_getitem _ _)))
 show YR _ _ (abW (.ref t) >>= _) _ _ s
 refine Yo (tupleItemsOf_ ht ?_)
 refine Yo (acT Rt ?_)
 rw[if_pos (by decide)]
 refine Yo (gX hs pl pu ?_)
 obtain⟨w1,w2⟩:=hw
 rw[w1,w2]
 show YR _ _ (if (((0:Nat):Int)==0&&(1:Int)==1&&(items.size - 0)==items.size)=true then _ else _) _ _ s
 rw[if_pos (by simp)]
 have O1:YR (Y7 prog w) A.in1 (adA (.ref t)) (fun b s'=>b=true∧s'=s) E s:=by
  unfold adA
  exact Yo (acT ht.typeIs (Yr ⟨by decide,rfl⟩))
 refine Yo (ZI O1 (fun b s' hb => ?_) fun _ _ e=>e)
 obtain⟨rfl,rfl⟩:=hb
 rw[if_pos rfl]
 exact Yo (aaU (Yr ⟨_,rfl,Yr h⟩))
end
end HT
namespace L2
theorem pj (h:H p=none)(o:HO):aH H (cm H p o):=fun b u q=>by rw[aD (ba q h)];exact q
section
open AutoSeq1 (wpAny_loadPart')
theorem jN {A:Zw}{Q:List Yv→YK→Prop}{r:YM}{a b c:Int}{t u v:Tok}(hh:A.handled=none)(hr:IsRange s.heap r a b c t u v)(yS:Builtin.Range.small a b c=true)(hn:acn a b c=n)(cU:n≤2 ^ 24)(hQ:∀h' tk (du:Array Yv),(∀b o',s.heap.get? b=some o'→h'.get? b=some o')→ItemsOf (fun i v=>∃t,v=.int (a+i*c) t) du n→Q du.toList {s with heap:=h',toks:=tk}) :
  YR (Y7 prog w) A (collect (.ref r)) Q E s:=by
 unfold collect
 refine Yo (wpAny_runValue (abh F.entry_proto_collect ?_))
 rw[aaR F.plain_proto_collect _]
 show YR _ A.in1 (newList [] >>= fun l=>again (.builtin "list.__iadd__" ⟨[l,.ref r],[]⟩)) _ _ s
 refine Yo (Y6 ?_)
 refine Yr ⟨plainId_quiet F.plain_list_iadd _,abh F.entry_list_iadd ?_⟩
 rw[aaR F.plain_list_iadd _]
 have hS:(s.heap.push {cls:=.type "list",data:=.seq ([]:List Yv).toArray}).get? s.heap.objs.size=some {cls:=.type "list",data:=.seq #[] 0}:=YA _ rfl
 show YR _ A.in1 (ads (.ref s.heap.objs.size) (.ref r) (.ref s.heap.objs.size)) _ _ _
 refine ZI (wpAny_extend_range (A:=A) (R:=fun res s'=>res=.ok (.ret (.ref s.heap.objs.size))∧YR (Y7 prog w) A (load s.heap.objs.size >>= fun o=>match o.data with|.seq xs _=>pure xs.toList|_=>adt "internal:collect") Q E s')
  hh (Yt _ hr) yS hn cU s.heap.objs.size _ 0 hS fun h' tk Mq c' hk O0 ot=>⟨rfl,?_⟩) (fun fin s' h => ?_) fun e s' h=>absurd h.1 (by simp)
 ·refine Yo (wpAny_load O0 (Yr ?_))
  exact hQ h' tk Mq (fun b o' hb=>hk b o' (Y0 (YE hb)) (Yt _ hb)) ot
 ·cases fin with
  |done f =>
   obtain⟨e,q⟩:=h
   cases e
   exact q
  |again c'=>exact⟨h.1,acg h.2 fun r FD hr=>by obtain⟨rfl,q⟩:=hr;exact q⟩
theorem iW (l:YM)(a b c:Int)(t u v:Tok)(n:Nat)(yS:Builtin.Range.small a b c=true)(hn:acn a b c=n)(cU:n≤2 ^ 20) :
  Meets (Builtin.«tuple.__new__» ⟨[.type "tuple",.ref l],[]⟩)
   (fun A R s=>A.handled=none∧IsRange s.heap l a b c t u v∧∀(h':abr) (tk:Nat) (du:Array Yv),(∀b o',s.heap.get? b=some o'→h'.get? b=some o')→ItemsOf (fun i v=>∃t,v=.int (a+i*c) t) du n →
    R (.ok (.ret (.ref h'.objs.size))) {s with heap:=h'.push {cls:=.type "tuple",data:=.seq du},toks:=tk}) :=
 .of_wp fun prog w A R s h=>by
  obtain⟨hp,g,d,tk,os⟩:=s;obtain⟨hh,ht,h⟩:=h
  have V7:=sub_tuple_self
  have Vc:=init_tuple_lookup
  have Yi:=madeHere_tuple
  have hT:Shared.TypeIs ⟨hp,g,d,tk,os⟩ (.ref l) "range":=⟨_,ht,rfl⟩
  wp_walk using acT hT,jN (A:=A.in1) hh ht yS hn (by lia)
  intro h' Mr du hk ot
  show YR _ _ (aak du.toList.toArray >>= fun v=>ret v) _ _ _
  unfold aak
  refine Yo (Y6 ?_ (by show du.toList.toArray.size≤Yx;rw[aaq];simp;have:=ot.1;lia))
  refine Yr ⟨_,rfl,?_⟩
  have e:du.toList.toArray=du:=by simp
  rw[e]
  exact h h' Mr du hk ot
theorem pq (hc:X.calm=true):dR X (.type "tuple") (fun xs H Q=>∃p lo hi,xs=[.ref p]∧H p=some (.rng lo hi)∧(-(2 ^ 62)≤lo∧lo<2 ^ 62 ∧ -(2 ^ 62)≤hi∧hi<2 ^ 62)∧(hi - lo).toNat≤2 ^ 20 ∧
  ∀l,H l=none→Q (.ref l) (cm H l (.tup ((ZA (hi - lo).toNat).map fun i=>V.int (lo+(i:Nat)))))):=by
 intro pins s σ H xs us Q I r h
 obtain⟨p,lo,hi,rfl,hp,⟨h1,h2,h3,h4⟩,hz,q⟩:=h
 obtain⟨u,rfl,rx⟩:=i4 r
 cases rx
 obtain⟨t,u,v,e⟩:=I.hok p _ hp
 refine callType_new F.called_tuple (by decide) (F.typeCall_tuple_1 _) (F.newCall_tuple_1 _) (fun obj=>F.args_object_init_2 obj _) F.entry_tuple_new
  (iW p lo hi 1 t u v (hi - lo).toNat (small_one h1 h2 h3 h4) (by rw[rangeSize_one];split<;>lia) hz) ⟨I.ok.hd hc,e,fun h' tk du hk ot=>⟨⟨_,YA _ rfl,rfl⟩,?_⟩⟩
 have hl:((ZA (hi - lo).toNat).map fun i=>V.int (lo+(i:Nat))).length≤Yx:=by
  rw[Yp,Z2,aaq];lia
 have I1:aw X pins σ H {s with heap:=h',toks:=tk}:=I.kept hk
 refine⟨.ref h'.objs.size,_,I1.laid (t':=tk) (fun b o e=>Yt _ e) (YC _) (show bo X.prog X.w _ _ _ (.tup _) from ⟨hl,du.toList,ph ot,by simpa using IsTup.new h' du,0,by simpa using YA h' rfl⟩),rfl,q _ (I1.hok.fresh (YC _))⟩
end
end L2
namespace HT
open L2
end HT
namespace L2
noncomputable def vq:V→List V→Hp→VK→Prop:=fun x vs H Q=>∃l b xs zs,x=.ref l∧vs=[.ref b]∧H l=some (.lst xs)∧H b=some (.tup zs)∧xs.length+zs.length≤Yx∧Q .non (cm H l (.lst (xs++zs)))
theorem xF:QE X "list.extend" vq:=by
 intro pins s σ H x vs v us Q I rx rv h
 obtain⟨l,b,xs,zs,rfl,rfl,hH,hB,hz,q⟩:=h
 cases rx
 obtain⟨u,rfl,ru⟩:=rv.one
 cases ru
 obtain⟨z,aq,n,r,hl,e⟩:=I.lstM hH
 obtain⟨z2,its2,r2,_,n2,e2⟩:=I.hok b _ hB
 have Fp:=r2.length
 have hsz:aq.toArray.size+its2.toArray.size≤Yx:=by rw[YB,YB];lia
 have xb:¬(!aq.toArray.isEmpty&&aaJ (aq.toArray.size+its2.toArray.size))=true:=by
  rw[kH hsz,Bool.and_false]
  exact Yq
 refine acI adJ ⟨_,e,rfl⟩ ado (ac6 _ _)
  (AutoSeq1.list_extend_list_tuple_0 l aq.toArray n b its2.toArray n2 xb (by rw[YB];lia) (by lia)) ⟨e,e2,?_⟩
 refine⟨.non,_,I.lset (its':=aq++its2) hH e (by simp) (r.append r2) ?_,rfl,q⟩
 rw[Yu]
 lia
theorem tE:dR X (.builtin "sorted") (fun xs H Q=>∃(p:YM) (ns:List Int),xs=[.ref p]∧(fE X.K H p (ns.map V.int)∨fR X.K H p (ns.map V.int))∧ns.length<64 ∧
  ∀(l:YM) (sQ:List Int),H l=none→sQ.Perm ns→sQ.Pairwise (·≤·)→Q (.ref l) (cm H l (.lst (sQ.map V.int)))):=by
 intro pins s σ H xs us Q I r h
 obtain⟨p,ns,rfl,hq,h64,q⟩:=h
 obtain⟨u,rfl,rx⟩:=i4 r
 cases rx
 have O2:∃(T:String) (o:Obj) (aq:List Yv) (n:Nat),(T="list"∨T="tuple")∧s.heap.get? p=some o∧o.cls=.type T∧o.data=.seq aq.toArray n∧adn aq ns:=by
  rcases hq with hq|hq
  ·obtain⟨aq,rv,pl,hz⟩:=I.list hq
   obtain⟨o,e,c,n,d⟩:=pl.isList
   exact⟨"list",o,aq,n,.inl rfl,e,c,d,j6 rv⟩
  ·obtain⟨aq,rv,pl,hz⟩:=I.tuple hq
   obtain⟨o,e,c,n,d⟩:=pl
   exact⟨"tuple",o,aq,n,.inr rfl,e,c,d,j6 rv⟩
 obtain⟨T,o,aq,n,hT,ho,hc,hd,hI⟩:=O2
 have cU:aq.length=ns.length:=hI.length
 refine adW kind_sorted plain_sorted entry_sorted (args_sorted1 _) ?_
 unfold Builtin.«sorted»
 refine Yo (m:=checkCount "sorted" 1 1 _) (Yr ?_)
 refine Yo (ad9 p hT ho hc hd (fun h1 k1 => ?_) (by rw[YB,aaq];lia))
 refine Yo (wpAny_newList ?_)
 have JQ:(h1.push (adL "list" aq.toArray 0)).get? h1.objs.size=some (adL "list" aq.toArray 0):=YA _ rfl
 have Ms:(h1.push {cls:=.type "list",data:=.seq (aq.toArray.toList).toArray}).get? h1.objs.size=some (adL "list" aq.toArray 0):=by simpa using JQ
 refine Yo (ZL (Y8 slot_list_sort ⟨_,Ms,rfl⟩ entry_list_sort (list_sort_tree Ms hI (by lia) fun out sQ a1 a2 a3=>⟨_,rfl,?_⟩) (args_list_sort _)))
 refine Yr ⟨_,rfl,?_⟩
 obtain⟨e,he⟩:=sortedHeap_at (out:=out) Ms
 have keep:∀b o,h1.get? b=some o→(sortedHeap (h1.push {cls:=.type "list",data:=.seq (aq.toArray.toList).toArray}) h1.objs.size aq out).get? b=some o:=fun b o e=>by
  have hb:=YE e
  rw[sortedHeap_old (Y0 hb) (by rw[aa_];exact acK hb)]
  exact Yt _ e
 have I1:aw X pins σ H {s with heap:=h1}:=I.kept (t':=s.toks) k1
 have Fp:(sQ.map V.int).length≤Yx:=by rw[Yp,a2.length_eq,aaq];lia
 exact⟨.ref h1.objs.size,_,I1.laid (t':=s.toks) keep (YC _) (show bo X.prog X.w _ _ _ (.lst _) from ⟨Fp,out.toList,e,mj a1,by simpa using he⟩),rfl,q _ sQ (I1.hok.fresh (YC _)) a2 a3⟩
theorem Bb {bs:List Bool}{us:List Yv}(r:aQ (bs.map V.bl) us){v:Yv}(h:us[i]? = some v):v=.bool (bs.getD i true):=by
 have hl:=r.length
 rw[Yp] at hl
 obtain⟨hi,_⟩:=YD.mp h
 have e:(bs.map V.bl)[i]? = some (V.bl (bs.getD i true)):=by
  rw[YH,Ys (by lia)]
  simp[List.getD,Ys (show i<bs.length by lia)]
 obtain⟨u,hu,ru⟩:=r.get e
 rw[h] at hu
 cases hu
 exact ru
theorem Bc (bs:List Bool):((ZA bs.length).all fun i=>bs.getD i true)=bs.all id:=by
 induction bs with
 |nil=>rfl
 |cons b bs ih =>
  rw[YN,List.range_succ_eq_map,ZX,List.all_map,ZX]
  congr 1
theorem Bd (hc:X.calm=true):dR X (.builtin "all") (fun xs H Q=>∃(p:YM) (bs:List Bool),xs=[.ref p]∧fE X.K H p (bs.map V.bl)∧Q (.bl (bs.all id)) H):=by
 intro pins s σ H xs us Q I r h
 obtain⟨p,bs,rfl,hq,q⟩:=h
 obtain⟨u,rfl,rx⟩:=i4 r
 cases rx
 obtain⟨aq,rv,pl,hz⟩:=I.list hq
 have hl:=pl.isList
 have xc:p<s.heap.objs.size:=by obtain⟨_,e,_⟩:=hl;exact YE e
 refine call_all_walk (acE hl ?_)
 refine⟨s.heap.objs.size,_,_,_,_,_,fun i=>bs.getD i true,rfl,Walks.list (A:=X.A.in1) (I.ok.hd hc) _ p (Y0 xc) aq.toArray,⟨⟨_,YA _ rfl,rfl,rfl⟩,hl.push _⟩,?_,fun h' tk hk => ?_⟩
 ·intro i v s' Q' E' hP V8
  have e:=Bb rv (i:=i) (v:=v) (by simpa using hP)
  subst e
  exact abe V8
 ·have e:(ZA aq.toArray.size).all (fun i=>bs.getD i true)=bs.all id:=by
   rw[YB,←rv.length,Yp];exact Bc bs
  rw[e]
  refine⟨.bl _,H,I.kept fun b o e=>hk b o (fun hm => ?_) (Yt _ e),rfl,q⟩
  rcases YU.mp hm with e1|hm
  ·exact absurd (e1▸YE e) (aaz _)
  ·cases hm
noncomputable def CQ (K:Yy):V→Option Int→Option Int→Hp→VK→Prop:=fun x lo hi H Q=>∃a xs,x=.ref a∧H a=some (.tup xs)∧∀r H',aH H H'→H' r=some (.tup (o_ xs lo hi))→Q (.ref r) H'
theorem Gg:Cy X (CQ X.K):=by
 have base:Cy X (Nv X.K):=Kq
 intro pins s σ H x v vl vu lo hi sl Q I rx hs pl pu h
 obtain⟨a,xs,rfl,qX,q⟩:=h
 have hx:fR X.K H a xs:=fR.of qX
 by_cases hw:HT.sIx xs.length 0 lo=0∧HT.sIx xs.length xs.length hi=xs.length
 ·cases rx
  obtain⟨aq,r,ht,hz⟩:=I.tuple hx
  have hl:aq.toArray.size=xs.length:=by rw[YB,r.length]
  refine⟨"tuple",_,PyProof.Rows.slot_tuple_getitem.lookup,ht.typeIs,HT.getItem_tuple_whole ht hs pl pu (by rw[hl];exact hw) ⟨.ref a,H,I,rfl,q a H (aH.refl _) ?_⟩⟩
  have e:o_ xs lo hi=xs:=by unfold o_;rw[hw.1,hw.2];simp
  rw[e];exact qX
 ·exact base pins s σ H _ v vl vu lo hi sl Q I rx hs pl pu ⟨a,xs,rfl,hx,hw,fun p hp=>q p _ (pj hp _) aI⟩
noncomputable def CS:R2:=fun x y H Q=>∃a b xs ys,x=.ref a∧y=.ref b∧H a=some (.tup xs)∧H b=some (.tup ys)∧xs.length+ys.length≤Yx∧∀r H',aH H H'→H' r=some (.tup (xs++ys))→Q (.ref r) H'
theorem CT:j5 X (abI .Add) CS:=by
 intro pins s σ H x y v u Q I rx ry h
 obtain⟨a,b,xs,ys,rfl,rfl,Cf,Qa,hz,q⟩:=h
 have ha:fR X.K H a xs:=fR.of Cf
 have hb:fR X.K H b ys:=fR.of Qa
 by_cases hx:xs=[]
 ·subst hx
  cases rx
  cases ry
  obtain⟨aq,r1,p1,_⟩:=I.tuple ha
  obtain⟨its2,r2,p2,_⟩:=I.tuple hb
  have e1:aq=[]:=(aQ.nil_iff r1).mpr rfl
  subst e1
  obtain⟨⟨cls,dd,data,sl⟩,ho,hc,n,hd⟩:=id p1
  obtain⟨⟨cls2,M6,data2,M7⟩,ho2,hc2,n2,Ia⟩:=id p2
  simp only at hc hd hc2 Ia
  subst hc hd hc2 Ia
  exact concat_meets ⟨_,ho,rfl⟩ ⟨_,ho2,rfl⟩ noFill_tuple_add seq_tuple_add acA acp (ach _ _)
   (tuple_addW0 a b ([]:List Yv).toArray its2.toArray n n2 dd M6 sl M7 (by simp)) ⟨ho,ho2,⟨.ref b,H,I,rfl,q b H (aH.refl _) (by simpa using Qa)⟩⟩
 ·refine F5 pins s σ H _ _ v u Q I rx ry ⟨a,b,xs,ys,rfl,rfl,ha,hb,hx,hz,fun e => ?_,fun _ p hp=>q p _ (pj hp _) aI⟩
  subst e
  exact q a H (aH.refl _) (by simpa using Cf)
end L2
namespace L2
structure Fn (P:aa1)(w:ack)(K:Yy)(mg:Str→Option Yv)(base:abr)(x:Str)(k:Nat)(ps:List Str)(sp:Sp):Prop where
 ex:∃(f:YM) (fd:ab7),mg x=some (.ref f)∧Y3 K (.ref f)=true∧jS K fd ps []∧iU P w K mg base s_ k f fd ps sp
structure Df (K:Yy)(mg:Str→Option Yv)(x:Str)(st:adh):Prop where
 ex:∃(f:YM) (fd:ab7),mg x=some (.ref f)∧FA K x x st f fd
theorem Df.fn (d:Df K mg x st)(S:aV N ps (ag st))(hb:∀(kV dv pm:Yv) (an:Option YM) (aY ct:Yv) (us:List Yv),us.length=ps.length→aag (YI x x (av st) (ao st) (ag st) .none kV dv pm an aY ct) ⟨us,[]⟩=pure (ps.zip us))(len:∀vs H Q E,sp vs H Q E→vs.length=ps.length)(fi:∀(f:YM) (aY:Yv) (A:Zw) (outer:List Env) (s:YK) (H:Hp) (vs:List V) (Q:VK) (E:XK),ez k (A.deeper (aa0 x (ag st) s.heap.objs.size f aY))→sp vs H Q E →
   ∃t,mV (iV s_ P w K mg base N x (ag st) f aY A outer s H E).nox (ao st) t∧t {nx:=fun _ H'=>Q .non H',rt:=Q} (dB N vs) H):Fn P w K mg base x (k+1) ps sp:=by
 obtain⟨f,fd,m,F⟩:=d.ex
 exact⟨f,fd,m,F.kp,F.binds hb,F.ok S len (fi f)⟩
section
variable {p:Pos}{e:aav}{es:List aav}{t:TA}
theorem vt (F:Fn X.prog X.w X.K X.mg X.base x k ps sp)(hr:ez k X.A)(ha:PA X (e::es) t)(hg:Gl X x:=by rfl)(uX:(x==("__debug__":Str))=false:=by decide)
  (he:YF (e::es) X.env=(false,abE e X.env)::YF es X.env:=by rfl) (jR:(aaQ pos (YF es X.env)).any (·.1)=false:=by rfl) :
  PE X (.Call (.Name x p) (e::es) [] pos) (Cv sp [] E0 t):=by
 obtain⟨f,fd,hm,hk,hb,G⟩:=F.ex
 exact FZ G hr hg hm hk hb .nil NC ha uX he jR
end
theorem aH.seqT (e:aH H H')(h:fR K H a xs):fR K H' a xs:=by
 rcases h with (h|⟨o,h⟩)|h
 ·exact .inl (.inl (e _ _ h))
 ·exact .inl (.inr ⟨o,e _ _ h⟩)
 ·exact .inr h
mutual
theorem aH.rep {K:Yy}{H H':Hp}(e:aH H H'):∀{d:D} {v:V},xk K H d v→xk K H' d v
 | .non,v,h=>by unfold xk at h ⊢;exact h
 | .bl b,v,h=>by unfold xk at h ⊢;exact h
 | .int b,v,h=>by unfold xk at h ⊢;exact h
 | .str b,v,h=>by unfold xk at h ⊢;exact h
 | .tup ds,v,h=>by
  unfold xk at h ⊢
  obtain⟨a,xs,r,q,z⟩:=h
  exact⟨a,xs,r,e.seqT q,aH.reps e z⟩
 | .lst ds,v,h=>by
  unfold xk at h ⊢
  obtain⟨a,xs,r,q,z⟩:=h
  exact⟨a,xs,r,e.seq q,aH.reps e z⟩
theorem aH.reps {K:Yy}{H H':Hp}(e:aH H H'):∀{ds:List D} {vs:List V},q0 K H ds vs→q0 K H' ds vs
 | [],vs,h=>by unfold q0 at h ⊢;exact h
 |d::ds,vs,h=>by
  unfold q0 at h ⊢
  obtain⟨x,r,q,p,z⟩:=h
  exact⟨x,r,q,aH.rep e p,aH.reps e z⟩
end
end L2
namespace L2
inductive U where
 |non|bl (b:Bool)|int (i:Int)|str (x:Str)|tup (xs:List U)|lst (xs:List U)|dct (ks vs:List U)|scr (xs:List U)
instance:Inhabited U:=⟨.non⟩
inductive R (α:Type) where
 |ok (a:α)|exc (c:String) (u:U)|stk
noncomputable def R.bind {α β:Type}:R α→(α→R β)→R β
 | .ok a,f=>f a
 | .exc c u,_=>.exc c u
 | .stk,_=>.stk
noncomputable abbrev Ev:=List (Option U)
inductive SR where
 |nx (ρ:Ev)|rt (u:U) (ρ:Ev)|bk (ρ:Ev)|ct (ρ:Ev)|exc (c:String) (u:U)|stk
end L2
variable {us ks:List L2.U}{u s1:L2.U}{es:List (List L2.U×YM×L2.V)}{ρ:L2.Ev}{sg:L2.U→L2.Ev→L2.R L2.Ev}{x2 x0 x4 x5 x3 x8 x9 x10:Option L2.U}
namespace L2
open Sem (wp)
noncomputable instance VL:DecidableEq U:=fun a b=>Classical.propDecidable (a=b)
mutual
noncomputable def e_ (h:abr):U→Yv→Prop
 | .int i,v=>∃t,v=.int i t
 | .tup us,v=>∃a items,v=.ref a∧h.IsTuple a items∧cW h us items.toList
 |_,_=>False
noncomputable def cW (h:abr):List U→List Yv→Prop
 | [],vs=>vs=[]
 |u::us,vs=>∃v r,vs=v::r∧e_ h u v∧cW h us r
end
mutual
noncomputable def hK:U→Int
 | .int i=>hashInt i
 | .tup us=>reduceHash (Z_ (u6 us))
 |_=>0
noncomputable def u6:List U→List Int
 | []=>[]
 |u::us=>hK u::u6 us
end
mutual
noncomputable def Im:U→Nat
 | .tup us=>mm us+1
 |_=>1
noncomputable def mm:List U→Nat
 | []=>0
 |u::us=>Im u+mm us
end
mutual
noncomputable def xl:U→Nat
 | .tup us=>rf us+1
 |_=>0
noncomputable def rf:List U→Nat
 | []=>0
 |u::us=>max (xl u) (rf us)
end
theorem xG {x y:Array Yv}(h1:h.IsTuple a x)(h2:h.IsTuple a y):x=y:=by
 obtain⟨o,e,_,n,d⟩:=h1
 obtain⟨o',e',_,n',d'⟩:=h2
 rw[e] at e';cases e'
 rw[d] at d';cases d'
 rfl
mutual
theorem e_.inj {h:abr}:∀{x y:U} {v:Yv},e_ h x v→e_ h y v→x=y
 | .int i,y,v,h1,h2=>by
  unfold e_ at h1
  obtain⟨t,rfl⟩:=h1
  cases y<;>unfold e_ at h2<;>first|exact h2.elim|skip
  ·obtain⟨u,e⟩:=h2;cases e;rfl
  ·obtain⟨_,_,e,_⟩:=h2;cases e
 | .str i,y,v,h1,h2=>by unfold e_ at h1;exact h1.elim
 | .tup us,y,v,h1,h2=>by
  unfold e_ at h1
  obtain⟨a,aq,rfl,q,z⟩:=h1
  cases y<;>unfold e_ at h2<;>first|exact h2.elim|skip
  ·obtain⟨u,e⟩:=h2;cases e
  ·obtain⟨a',its',e,q',z'⟩:=h2
   cases e
   have:=xG q q'
   subst this
   rw[cW.inj z z']
 | .non,y,v,h1,h2=>by unfold e_ at h1;exact h1.elim
 | .bl _,y,v,h1,h2=>by unfold e_ at h1;exact h1.elim
 | .lst _,y,v,h1,h2=>by unfold e_ at h1;exact h1.elim
 | .dct _ _,y,v,h1,h2=>by unfold e_ at h1;exact h1.elim
 | .scr _,y,v,h1,h2=>by unfold e_ at h1;exact h1.elim
theorem cW.inj {h:abr}:∀{x y:List U} {vs:List Yv},cW h x vs→cW h y vs→x=y
 | [],y,vs,h1,h2=>by
  unfold cW at h1
  subst h1
  cases y with
  |nil=>rfl
  |cons=>unfold cW at h2;obtain⟨_,_,e,_⟩:=h2;cases e
 |u::us,y,vs,h1,h2=>by
  unfold cW at h1
  obtain⟨v,r,rfl,p,q⟩:=h1
  cases y with
  |nil=>unfold cW at h2;cases h2
  |cons =>
   unfold cW at h2
   obtain⟨v',r',e,p',q'⟩:=h2
   cases e
   rw[e_.inj p p',cW.inj q q']
end
mutual
theorem e_.keep {h h':abr}(k:∀a aq,h.IsTuple a aq→h'.IsTuple a aq):∀{x:U} {v:Yv},e_ h x v→e_ h' x v
 | .int i,v,h1=>by unfold e_ at h1 ⊢;exact h1
 | .str i,v,h1=>by unfold e_ at h1;exact h1.elim
 | .tup us,v,h1=>by
  unfold e_ at h1 ⊢
  obtain⟨a,aq,e,q,z⟩:=h1
  exact⟨a,aq,e,k a aq q,cW.keep k z⟩
 | .non,v,h1=>by unfold e_ at h1;exact h1.elim
 | .bl _,v,h1=>by unfold e_ at h1;exact h1.elim
 | .lst _,v,h1=>by unfold e_ at h1;exact h1.elim
 | .dct _ _,v,h1=>by unfold e_ at h1;exact h1.elim
 | .scr _,v,h1=>by unfold e_ at h1;exact h1.elim
theorem cW.keep {h h':abr}(k:∀a aq,h.IsTuple a aq→h'.IsTuple a aq):∀{x:List U} {vs:List Yv},cW h x vs→cW h' x vs
 | [],vs,h1=>by unfold cW at h1 ⊢;exact h1
 |u::us,vs,h1=>by
  unfold cW at h1 ⊢
  obtain⟨v,r,e,p,q⟩:=h1
  exact⟨v,r,e,e_.keep k p,cW.keep k q⟩
end
theorem cW.length {h:abr}:∀{us:List U} {vs:List Yv},cW h us vs→us.length=vs.length
 | [],vs,h1=>by unfold cW at h1;subst h1;rfl
 |u::us,vs,h1=>by
  unfold cW at h1
  obtain⟨v,r,rfl,p,q⟩:=h1
  rw[YN,YN,cW.length q]
theorem cW.get {h:abr}:∀{us:List U} {vs:List Yv} {i:Nat} {u:U} {v:Yv},cW h us vs→us[i]? = some u→vs[i]? = some v→e_ h u v
 | [],_,_,_,_,_,e,_=>by simp at e
 |w::us,_,i,u,v,h,e1,e2=>by
  unfold cW at h
  obtain⟨x,r,rfl,p,q⟩:=h
  cases i with
  |zero=>simp at e1 e2;subst e1 e2;exact p
  |succ i=>exact cW.get q (by simpa using e1) (by simpa using e2)
theorem kM:∀{us:List U} {i:Nat} {u:U},us[i]? = some u→xl u≤rf us
 | [],_,_,e=>by simp at e
 |w::us,i,u,e=>by
  unfold rf
  cases i with
  |zero=>simp at e;subst e;exact Nat.le_max_left _ _
  |succ i=>exact Zd (kM (us:=us) (by simpa using e)) (Nat.le_max_right _ _)
theorem pz:∀(a b:List U),u6 (a++b)=u6 a++u6 b
 | [],b=>by unfold u6;rfl
 |x::a,b=>by rw[ab8,u6,u6,pz a b];rfl
theorem mZ:∀(a b:List U),mm (a++b)=mm a+mm b
 | [],b=>by rw[aaE];show _=0+_;lia
 |x::a,b=>by rw[ab8,mm,mm,mZ a b];lia
theorem KL:∀(n:Nat) (u:U) (v:Yv) (A:Zw) (E:Yv→YK→Prop) (s:YK) (Q:Int→YK→Prop),xl u≤n→A.units+n<abp→e_ s.heap u v→Q (hK u) {s with toks:=s.toks+Im u} →
  YR (Y7 prog w) A (pyHash v) Q E s:=by
 intro n
 induction n with
 |zero =>
  intro u v A E s Q hd hu hk h
  cases u<;>unfold e_ at hk<;>first|exact hk.elim|skip
  ·obtain⟨t,rfl⟩:=hk;unfold hK Im at h;exact wpAny_pyHash_int h
  ·unfold xl at hd;lia
 |succ n ih =>
  intro u v A E s Q hd hu hk h
  cases u<;>unfold e_ at hk<;>first|exact hk.elim|skip
  ·obtain⟨t,rfl⟩:=hk;unfold hK Im at h;exact wpAny_pyHash_int h
  ·rename_i us
   unfold xl at hd
   obtain⟨a,items,rfl,ht,hi⟩:=hk
   have hT:s.TypeIs (.ref a) "tuple":=let ⟨o,e,c,_⟩:=ht;⟨o,e,c⟩
   obtain⟨o,ho,_,nn,hdat⟩:=ht
   unfold pyHash
   first|unfold pyHashByItsType|skip
   first|refine Yo (wpAny_cRoomFor_or (.inr (by lia)) ?_)|skip
   refine Yo (adp hT F.slot_tuple_hash.lookup ?_)
   show YR _ _ (if (some (Value.builtin "tuple.__hash__")==some Value.none)=true then _ else _) Q E s
   rw[if_neg (by rw[beq_builtin_none];exact Yq)]
   refine Yo (adp hT F.slot_tuple_hash.lookup ?_)
   show YR _ _ (callSpecialIfBoundUnlessNone? (.ref a) "__hash__" _ >>= _) Q E s
   refine Yo (wpAny_callSpecialIfBoundUnlessNone?_slot hT F.slot_tuple_hash (Y8 F.slot_tuple_hash hT F.entry_tuple_hash ?_ (F.args_tuple_hash_1 _)))
   show YR _ _ (abW (.ref a) >>= _) _ _ s
   refine Yo (wpAny_tupleItemsOf ho hdat ?_)
   refine Yo ?_
   rw[←Array.forIn_toList]
   refine wpAny_forIn_list _
    (fun rest (b:Array Int) s'=>∃done left,us=done++left∧cW s.heap left rest∧b.toList=u6 done∧s'={s with toks:=s.toks+mm done})
    _ ?_ ?_ _ _ ⟨[],us,rfl,hi,by unfold u6;rfl,by unfold mm;rfl⟩
   ·rintro x rest b s' ⟨done,left,rfl,hl,hb,rfl⟩
    cases left with
    |nil=>unfold cW at hl;cases hl
    |cons k ks' =>
     unfold cW at hl
     obtain⟨v',r',e,h1,JZ⟩:=hl
     cases e
     have RH:xl k≤n:=by
      have:=kM (us:=done++k::ks') (i:=done.length) (u:=k) (by simp)
      lia
     refine Yo (ih k x A.in1 E _ _ RH (by show A.units+1+n<abp;lia) h1 ?_)
     have e2:u6 (done++[k])=u6 done++[hK k]:=by rw[pz];unfold u6 u6;rfl
     have e3:mm (done++[k])=mm done+Im k:=by rw[mZ];show _+(Im k+mm [])=_;unfold mm;lia
     first
      |exact Yr ⟨done++[k],ks',by simp,JZ,by simp[hb,e2],by simp[e3,abu]⟩
      |exact Yo (Yr (Yr ⟨done++[k],ks',by simp,JZ,by simp[hb,e2],by simp[e3,abu]⟩))
   ·rintro b s' ⟨done,left,rfl,hl,hb,rfl⟩
    cases left with
    |cons k ks'=>unfold cW at hl;obtain⟨_,_,e,_⟩:=hl;cases e
    |nil =>
     rw[Zb] at h
     show YR _ _ (retInt (Z_ b.toList)) _ _ _
     rw[hb]
     refine wpAny_ret_mkInt ?_
     show YR _ _ (if (decide (-(2:Int) ^ 63≤Z_ (u6 done))&&decide (Z_ (u6 done)<2 ^ 63))=true then _ else _) Q E _
     unfold hK Im reduceHash at h
     by_cases hr:(decide (-(2:Int) ^ 63≤Z_ (u6 done))&&decide (Z_ (u6 done)<2 ^ 63))=true
     ·rw[if_pos hr]
      rw[if_pos hr] at h
      exact Yr (by simpa [abu] using h)
     ·rw[if_neg hr]
      rw[if_neg hr] at h
      exact Yo (aaU (Yr (by simpa [abu] using h)))
theorem QI:∀(n:Nat) (x y:U) (u v:Yv) (A:Zw),xl x≤n→A.units+n<abp→e_ s.heap x u→e_ s.heap y v→aej A s u v (decide (x=y)):=by
 intro n
 induction n with
 |zero =>
  intro x y u v A hd hu h1 h2
  have P8:A.units<abp:=by lia
  cases x<;>(try (unfold e_ at h1;exact h1.elim))
  case int i =>
   unfold e_ at h1;obtain⟨t,rfl⟩:=h1
   cases y<;>(try (unfold e_ at h2;exact h2.elim))
   case int j =>
    unfold e_ at h2;obtain⟨t',rfl⟩:=h2
    have:=SeqAt.EqAt.int_int (A:=A) (s:=s) i t j t'
    have e:decide (U.int i=U.int j)=(i==j):=by rw[aap];simp
    rw[e];exact this
   case tup us =>
    unfold e_ at h2;obtain⟨a,aq,rfl,ht,_⟩:=h2
    rw[decide_eq_false (by intro z;cases z)]
    exact SeqAt.EqAt.int_tuple i t ht P8
  case tup us=>unfold xl at hd;lia
 |succ n ih =>
  intro x y u v A hd hu h1 h2
  have P8:A.units<abp:=by lia
  cases x<;>(try (unfold e_ at h1;exact h1.elim))
  case int i=>exact ih _ y u v A (by unfold xl;lia) (by lia) h1 h2
  case tup us =>
   unfold xl at hd
   have Mt:=h1
   unfold e_ at h1;obtain⟨a,aq,rfl,p1,z1⟩:=h1
   cases y<;>(try (unfold e_ at h2;exact h2.elim))
   case int j =>
    unfold e_ at h2;obtain⟨t',rfl⟩:=h2
    rw[decide_eq_false (by intro z;cases z)]
    exact SeqAt.EqAt.tuple_int j t' p1 P8
   case tup ws =>
    have JR:=h2
    unfold e_ at h2;obtain⟨b,its2,rfl,p2,z2⟩:=h2
    by_cases hab:a=b
    ·subst hab
     rw[e_.inj Mt JR,decide_eq_true rfl]
     exact SeqAt.EqAt.same _
    ·refine SeqAt.EqAt.of_refs hab ?_
     have l1:aq.size=us.length:=by rw[z1.length,Yz]
     have l2:its2.size=ws.length:=by rw[z2.length,Yz]
     have he:∀j (g1:j<aq.size) (g2:j<its2.size),aej A.in1 s aq[j] its2[j] (decide (us[j]? = ws[j]?)):=fun j g1 g2=>by
      have q1:us[j]? = some us[j]:=Ys (by lia)
      have q2:ws[j]? = some ws[j]:=Ys (by lia)
      have y1:aq.toList[j]? = some aq[j]:=by rw[Zj];exact aaa g1
      have y2:its2.toList[j]? = some its2[j]:=by rw[Zj];exact aaa g2
      have e:decide (us[j]? = ws[j]?)=decide (us[j]=ws[j]):=by rw[q1,q2,aap];simp
      rw[e]
      refine ih us[j] ws[j] aq[j] its2[j] A.in1 ?_ (by show A.units+1+n<abp;lia) (z1.get q1 y1) (z2.get q2 y2)
      have:=kM q1
      lia
     have q:=SeqAt.RcAt.tuples (A:=A) p1 p2 P8 he
     rw[l1,l2] at q
     have fin:((ZA (min us.length ws.length)).all (fun j=>decide (us[j]? = ws[j]?))&&us.length==ws.length)=decide (U.tup us=U.tup ws):=by
      rw[aap,YG,ZN,decide_eq_true_eq]
      constructor
      ·rintro⟨ha,hl⟩
       have hl:us.length=ws.length:=by simpa using hl
       congr 1
       refine ad_ fun j => ?_
       by_cases hj:j<us.length
       ·exact of_decide_eq_true (ha j (adQ.mpr (by lia)))
       ·rw[aab.mpr (by lia),aab.mpr (by lia)]
      ·intro e
       cases e
       exact⟨fun j _=>decide_eq_true rfl,by simp⟩
     rw[←fin]
     exact q
theorem Gh:∀(n:Nat) (x:U) (v:Yv) (A:Zw) (E:Yv→YK→Prop) (s:YK) (Q:Bool→YK→Prop),xl x≤n→e_ s.heap x v→Q true s→YR (Y7 prog w) A (eqIsQuiet n v) Q E s:=by
 intro n
 induction n with
 |zero =>
  intro x v A E s Q hd hk h
  cases x<;>unfold e_ at hk<;>first|exact hk.elim|skip
  ·obtain⟨t,rfl⟩:=hk;rw[eqIsQuiet_byValue _ rfl];exact Yr h
  ·unfold xl at hd;lia
 |succ n ih =>
  intro x v A E s Q hd hk h
  cases x<;>unfold e_ at hk<;>first|exact hk.elim|skip
  ·obtain⟨t,rfl⟩:=hk;rw[eqIsQuiet_byValue _ rfl];exact Yr h
  ·rename_i us
   unfold xl at hd
   obtain⟨a,items,rfl,ht,hi⟩:=hk
   have hT:s.TypeIs (.ref a) "tuple":=let ⟨o,e,c,_⟩:=ht;⟨o,e,c⟩
   obtain⟨o,ho,_,nn,hdat⟩:=ht
   unfold eqIsQuiet
   refine Yo (adp hT F.slot_tuple_eq.lookup ?_)
   show YR _ _ (isInstance (.ref a) (.type "tuple") >>= _) _ _ s
   refine Yo (abx hT isSubtype_tuple_tuple ?_)
   simp only[abT,ZE,if_false]
   refine Yo (aaA ho hdat ?_)
   refine Yo ?_
   show YR _ _ (forIn items _ _) _ _ s
   rw[←Array.forIn_toList]
   refine wpAny_forIn_list _ (fun rest r s'=>r.1=none∧s'=s∧∃done left,us=done++left∧cW s.heap left rest) _ ?_ ?_ _ _ ⟨rfl,rfl,[],us,rfl,hi⟩
   ·rintro v rest r s' ⟨hr,rfl,done,left,rfl,hl⟩
    cases left with
    |nil=>unfold cW at hl;cases hl
    |cons k ks' =>
     unfold cW at hl
     obtain⟨v',r',e,h1,JZ⟩:=hl
     cases e
     have RH:xl k≤n:=by
      have:=kM (us:=done++k::ks') (i:=done.length) (u:=k) (by simp)
      lia
     refine Yo (ih k v A E _ _ RH h1 ?_)
     simp only[abT,ZE,if_false]
     exact Yr ⟨rfl,rfl,done++[k],ks',by simp,JZ⟩
   ·rintro⟨r1,r2⟩ s' ⟨hr,rfl,_⟩
    simp only at hr
    subst hr
    exact Yr h
noncomputable def TK (h:abr)(us:List U)(a:YM):Prop:=rf us≤6∧∃items,h.IsTuple a items∧cW h us items.toList
theorem TK.is (x:TK h us a):xl (.tup us)≤7∧e_ h (.tup us) (.ref a):=by
 obtain⟨l,aq,t,z⟩:=x
 exact⟨by unfold xl;lia,by unfold e_;exact⟨a,aq,rfl,t,z⟩⟩
theorem kN {x y:List U}:(U.tup x=U.tup y)↔x=y:=⟨fun h=>by cases h;rfl,fun h=>by rw[h]⟩
noncomputable def fc (prog:aa1)(w:ack):HeapKind prog w (List U) where
 is:=TK
 hash:=fun us=>hK (.tup us)
 draws:=fun us=>Im (.tup us)
 room:=fun A=>A.units+20<abp
 inj:=fun hx hy=>kN.mp (e_.inj hx.is.2 hy.is.2)
 keeps:=fun {h h' k a d o es ep} x ho hd hs=>by
  have kp:∀b aq,h.IsTuple b aq→h'.IsTuple b aq:=fun b aq h00=>by
   obtain⟨o',e,c,n,z⟩:=h00
   have Fq:b≠d:=by
    rintro rfl
    obtain rfl:o'=o:=Zg (e.symm.trans ho)
    rw[hd] at z;exact nomatch z
   exact⟨o',(hs.2 b Fq).trans e,c,n,z⟩
  obtain⟨l,aq,t,z⟩:=x
  exact⟨l,aq,kp _ _ t,z.keep kp⟩
 pyHash:=fun {A E s k a Q} hu hk h=>KL 7 (.tup k) (.ref a) A E s Q hk.is.1 (by lia) hk.is.2 h
 eqBool:=fun {A E s x y a b Q} hu hx hy h=>QI 7 (.tup x) (.tup y) (.ref a) (.ref b) A hx.is.1 (by lia) hx.is.2 hy.is.2 prog w E Q (by
  have e:decide (U.tup x=U.tup y)=decide (x=y):=by rw[aap,decide_eq_true_eq,decide_eq_true_eq];exact kN
  rw[e];exact h)
 quiet:=fun {A E s k a Q} hk h=>Gh 8 (.tup k) (.ref a) A E s Q (Zd hk.is.1 (by lia)) hk.is.2 h
noncomputable def xH (p:List U×YM×V)(q:List U×YM×Yv):Prop:=p.1=q.1∧p.2.1=q.2.1∧aO p.2.2 q.2.2
noncomputable def NK (e:List U×YM×Yv):aeg:=⟨hK (.tup e.1),.ref e.2.1,e.2.2⟩
noncomputable def NL (a:YM)(ep:Nat)(es:List (List U×YM×V))(h:abr):Prop:=(a==ZQ)=false∧∃o ds,∃xs:List (List U×YM×Yv),h.get? a=some o∧o.ExactDict∧o.data=.dict ds ep∧abH xH es xs∧ds.toList=xs.map NK
noncomputable def DN (a:YM)(ep:Nat)(es:List (List U×YM×V)):HO:=.ext (NL a ep es)
mutual
noncomputable def KH (H:Hp):U→V→Prop
 | .int i,v=>v=.int i
 | .tup us,v=>∃b ys,v=.ref b∧H b=some (.tup ys)∧us.length≤Yx∧pA H us ys
 |_,_=>False
noncomputable def pA (H:Hp):List U→List V→Prop
 | [],vs=>vs=[]
 |u::us,vs=>∃v r,vs=v::r∧KH H u v∧pA H us r
end
mutual
theorem KH.to {H H':Hp}(e:∀b ys,H b=some (.tup ys)→H' b=some (.tup ys)):∀{u:U} {v:V},KH H u v→KH H' u v
 | .int i,v,h=>by unfold KH at h ⊢;exact h
 | .tup us,v,h=>by
  unfold KH at h ⊢
  obtain⟨b,ys,r,q,l,z⟩:=h
  exact⟨b,ys,r,e b ys q,l,pA.to e z⟩
 | .non,v,h=>by unfold KH at h;exact h.elim
 | .bl _,v,h=>by unfold KH at h;exact h.elim
 | .str _,v,h=>by unfold KH at h;exact h.elim
 | .lst _,v,h=>by unfold KH at h;exact h.elim
 | .dct _ _,v,h=>by unfold KH at h;exact h.elim
 | .scr _,v,h=>by unfold KH at h;exact h.elim
theorem pA.to {H H':Hp}(e:∀b ys,H b=some (.tup ys)→H' b=some (.tup ys)):∀{us:List U} {vs:List V},pA H us vs→pA H' us vs
 | [],vs,h=>by unfold pA at h ⊢;exact h
 |u::us,vs,h=>by
  unfold pA at h ⊢
  obtain⟨v,r,q,p,z⟩:=h
  exact⟨v,r,q,KH.to e p,pA.to e z⟩
end
mutual
theorem KH.is (ok:gT P w H h):∀{u:U} {v:V} {x:Yv},KH H u v→aO v x→e_ h u x
 | .int i,v,x,k,r=>by
  unfold KH at k
  subst k
  obtain⟨t,rfl⟩:=r
  unfold e_;exact⟨t,rfl⟩
 | .tup us,v,x,k,r=>by
  unfold KH at k
  obtain⟨b,ys,rfl,q,_,z⟩:=k
  cases r
  obtain⟨_,aq,rv,it,_⟩:=ok b _ q
  unfold e_
  exact⟨b,aq.toArray,rfl,it,by simpa using pA.is ok z rv⟩
 | .non,v,x,k,r=>by unfold KH at k;exact k.elim
 | .bl _,v,x,k,r=>by unfold KH at k;exact k.elim
 | .str _,v,x,k,r=>by unfold KH at k;exact k.elim
 | .lst _,v,x,k,r=>by unfold KH at k;exact k.elim
 | .dct _ _,v,x,k,r=>by unfold KH at k;exact k.elim
 | .scr _,v,x,k,r=>by unfold KH at k;exact k.elim
theorem pA.is (ok:gT P w H h):∀{us:List U} {vs:List V} {xs:List Yv},pA H us vs→aQ vs xs→cW h us xs
 | [],vs,xs,k,r=>by
  unfold pA at k
  subst k
  cases r
  unfold cW;rfl
 |u::us,vs,xs,k,r=>by
  unfold pA at k
  obtain⟨v,vr,rfl,p,z⟩:=k
  cases r with
  |cons r1 r2 =>
   unfold cW
   exact⟨_,_,rfl,KH.is ok p r1,pA.is ok z r2⟩
end
noncomputable def rg (H:Hp)(us:List U)(b:YM):Prop:=rf us≤6∧∃ys,H b=some (.tup ys)∧us.length≤Yx∧pA H us ys
theorem rg.tk (ok:gT P w H h)(k:rg H us b):TK h us b:=by
 obtain⟨l,ys,q,_,z⟩:=k
 obtain⟨_,aq,rv,it,_⟩:=ok b _ q
 exact⟨l,aq.toArray,it,by simpa using pA.is ok z rv⟩
theorem rg.to (e:∀b ys,H b=some (.tup ys)→H' b=some (.tup ys))(k:rg H us b):rg H' us b:=by
 obtain⟨l,ys,q,n,z⟩:=k
 exact⟨l,ys,e b ys q,n,z.to e⟩
structure fT (H:Hp)(a:YM)(es:List (List U×YM×V)):Prop where
 ob:(∃ep,H a=some (DN a ep es))∨(es=[]∧H a=some (.dK []))
 nd:(es.map (·.1)).Nodup
 key:∀e∈es,rg H e.1 e.2.1
theorem j7 {α β:Type}{R:α→β→Prop}:∀{xs:List α} {ys:List β} {y:β},abH R xs ys→y∈ys→∃x∈xs,R x y
 |_,_,_,.nil,h=>by cases h
 |x::xs,y'::ys,y,.cons r t,h=>by
  rcases YU.mp h with e|h
  ·subst e;exact⟨x,YO,r⟩
  ·obtain⟨x',m,q⟩:=j7 t h
   exact⟨x',YS _ m,q⟩
theorem pD:∀{es:List (List U×YM×V)} {xs:List (List U×YM×Yv)},abH xH es xs→es.map (·.1)=xs.map (·.1)
 |_,_,.nil=>rfl
 |_::_,_::_,.cons r t=>by rw[Yw,Yw,pD t,r.1]
theorem fT.of (ok:gT P w H h)(d:fT H a es):∃xs,abH xH es xs∧h.DictOfH (fc P w) a xs:=by
 rcases d.ob with⟨ep,q⟩|⟨e,q⟩
 ·obtain⟨⟨_,o,ds,xs,h1,h2,h3,h4,h5⟩,_⟩:=ok a _ q
  refine⟨xs,h4,o,ds,ep,h1,h2,h3,h5,fun x hx => ?_,by rw[←pD h4];exact d.nd⟩
  obtain⟨e,he,r⟩:=j7 h4 hx
  have:=(d.key e he).tk ok
  rw[r.1,r.2.1] at this
  exact this
 ·subst e
  obtain⟨_,_,vs,rel,dd⟩:=ok a _ q
  cases rel
  obtain⟨o,ds,ep,h1,h2,h3,h4,h5,h6⟩:=dd
  have e0:ds.toList=[]:=by
   generalize ds.toList=l at h5
   cases h5;rfl
  exact⟨[],.nil,o,ds,ep,h1,h2,h3,by rw[e0];rfl,(fun x hx=>by cases hx),abA⟩
theorem fT.lo (ok:gT P w H h)(d:fT H a es):(a==ZQ)=false:=by
 rcases d.ob with⟨ep,q⟩|⟨e,q⟩
 ·obtain⟨⟨l,_⟩,_⟩:=ok a _ q;exact l
 ·obtain⟨_,l,_⟩:=ok a _ q;exact l
noncomputable def iX (es:List (List U×YM×V))(k:List U):Option V:=(es.find? fun e=>decide (e.1=k)).map (·.2.2)
noncomputable def gL (es:List (List U×YM×V))(k:List U)(b:YM)(v:V):List (List U×YM×V) :=
 if (iX es k).isSome then es.map (fun e=>if e.1=k then (e.1,e.2.1,v) else e) else es++[(k,b,v)]
theorem i7 (k:List U):∀{es:List (List U×YM×V)} {xs:List (List U×YM×Yv)},abH xH es xs→j0 (iX es k) ((atKey xs k).map (·.2))
 |_,_,.nil=>trivial
 |e::es,x::xs,.cons r t=>by
  have ih:=i7 k t
  unfold iX atKey at ih ⊢
  rw[Z9,Z9]
  by_cases c:e.1=k
  ·have c':x.1=k:=by rw[←r.1];exact c
   rw[decide_eq_true c,decide_eq_true c']
   exact r.2.2
  ·have c':¬x.1=k:=by rw[←r.1];exact c
   rw[decide_eq_false c,decide_eq_false c']
   exact ih
theorem vv (k:List U){u:Yv}(rv:aO v u){xs:List (List U×YM×Yv)}(p:abH xH es xs):abH xH (gL es k b v) (storedH xs k b u):=by
 have e:(iX es k).isSome=(atKey xs k).isSome:=by
  have:=(i7 k p).isSome_eq
  rw[Option.isSome_map] at this
  exact this
 unfold gL storedH
 rw[e]
 split
 ·rename_i hh
  clear hh e
  induction p with
  |nil=>exact .nil
  | @cons q x es xs r t ih =>
   refine .cons ?_ ih
   unfold putAt
   dsimp only
   by_cases c:q.1=k
   ·have c':x.1=k:=by rw[←r.1];exact c
    rw[if_pos c,if_pos c']
    exact⟨r.1,r.2.1,rv⟩
   ·have c':¬x.1=k:=by rw[←r.1];exact c
    rw[if_neg c,if_neg c']
    exact r
 ·rename_i hh
  clear hh e
  induction p with
  |nil=>exact .cons ⟨rfl,rfl,rv⟩ .nil
  |cons r t ih=>exact .cons r ih
section
variable {d:V}{r:Yv}{k:List U}{A:Zw}
theorem tF (hu:A.units+64<abp):(fc X.prog X.w).room A.in1:=by show A.units+1+20<abp;lia
theorem Be (hu:A.units+64<abp)(I:aw X pins σ H s)(g:fT H a es)(kb:rg H k b)(e:iX es k=some v)(h:∀w' s',aw X pins σ H s'→aO v w'→Q w' s') :
  YR (Y7 X.prog X.w) A (adm (.ref a) (.ref b)) Q E s:=by
 obtain⟨xs,rel,dd⟩:=g.of I.hok
 obtain⟨w',hw,xf⟩:=j0.some_of (v:=v) (o:=(atKey xs k).map (·.2)) (by rw[←e];exact i7 k rel)
 obtain⟨p,hp,Cg⟩:=acB.mp hw
 refine wpAny_getItem_heap (tF hu) (kb.tk I.hok) dd hp ?_
 rw[Cg]
 exact h w' _ (I.tok _) xf
theorem KN (hu:A.units+64<abp)(I:aw X pins σ H s)(g:fT H a es)(kb:rg H k b)(rd:aO d r)(h:∀w' s',aw X pins σ H s'→aO ((iX es k).getD d) w'→Q w' s') :
  YR (Y7 X.prog X.w) A (call (.builtin "dict.get") [.ref a,.ref b,r]) Q E s:=by
 obtain⟨xs,rel,dd⟩:=g.of I.hok
 exact call_meetsIn abP dd.typeIs acC (acr _ _ _) (meetsH_dict_get_default (fc X.prog X.w) a b (g.lo I.hok) r) ⟨tF hu,k,xs,kb.tk I.hok,dd,h _ _ (I.tok _) ((i7 k rel).getD rd)⟩
theorem fT.typeIs (I:aw X pins σ H s)(g:fT H a es):s.TypeIs (.ref a) "dict":=by
 obtain⟨xs,rel,dd⟩:=g.of I.hok
 exact dd.typeIs
theorem fT.noDict (I:aw X pins σ H s)(g:fT H a es):∀b,Value.ref a=.ref b→∃ob,s.heap.get? b=some ob∧ob.dict=none:=fun b q=>by
 cases q
 obtain⟨xs,rel,ob,_,_,h1,h2,_⟩:=g.of I.hok
 exact⟨ob,h1,h2.2.1⟩
theorem fT.mut (g:fT H a es):MN (H a):=by
 rcases g.ob with⟨ep,q⟩|⟨_,q⟩<;>(rw[q];exact True.intro)
theorem Bf {Q:Unit→YK→Prop}(hu:A.units+64<abp)(I:aw X pins σ H s)(g:fT H a es)(kb:rg H k b)(hz:es.length≤Yx)(rv:aO v r)(h:∀ep s',aw X pins σ (cm H a (DN a ep (gL es k b v))) s'→Q () s') :
  YR (Y7 X.prog X.w) A (setItem (.ref a) (.ref b) r) Q E s:=by
 obtain⟨xs,rel,dd⟩:=g.of I.hok
 refine wpAny_setItem_heap (hsz:=by rw[←abt rel];exact hz) (tF hu) (kb.tk I.hok) dd fun h' MZ hs => ?_
 obtain⟨q,ds,ep,hq,h2,h3,h4,_,h5⟩:=MZ
 refine h ep _ ?_
 refine tj I g.mut hs ⟨q,hq⟩ ⟨⟨g.lo I.hok,q,ds,_,hq,h2,h3,vv k rv rel,h4⟩,⟨q,hq⟩,fun g1 g2 ⟨l,o,ds,xs,z1,z2⟩ kp=>⟨l,o,ds,xs,kp _ z1,z2⟩⟩
end
end L2
namespace L2
noncomputable def kU:Key→U
 | .inl i=>.int i
 | .inr x=>.str x
noncomputable def tG (H:Hp)(a:YM)(ks:List U)(xs:List V):Prop :=
 (∃aJ:List (Key×V),H a=some (.dK aJ)∧ks=aJ.map (fun p=>kU p.1)∧xs=aJ.map (·.2)) ∨
 ∃es:List (List U×YM×V),es≠[]∧fT H a es∧ks=es.map (fun p=>.tup p.1)∧xs=es.map (·.2.2)
noncomputable abbrev NM:=tG
theorem tG.at (h:NM H a ks xs):tG H a ks xs:=h
theorem fT.ne (h:fT H a es)(n:es≠[]):∃ep,H a=some (DN a ep es):=by
 rcases h.ob with q|⟨e,_⟩
 ·exact q
 ·exact absurd e n
noncomputable def Gi (K:Yy)(H:Hp)(a:YM)(xs:List V):Prop:=(∃o,H a=some (.frz o (.lst xs))) ∨
  ∃(o:Obj) (aq:Array Yv) (n:Nat),K.lookup a=some o∧o.cls=.type "list"∧o.dict=none∧o.data=.seq aq n∧aq.size≤Yx∧aQ xs aq.toList
theorem Gi.sq (h:Gi K H a xs):fE K H a xs:=by
 rcases h with⟨o,h⟩|h
 ·exact .inl (.inr ⟨o,h⟩)
 ·exact .inr h
theorem Gi.to (h:Gi K H a xs)(e:∀o y,H a=some (.frz o y)→H' a=some (.frz o y)):Gi K H' a xs:=by
 rcases h with⟨o,h⟩|h
 ·exact .inl ⟨o,e _ _ h⟩
 ·exact .inr h
mutual
noncomputable def Rp (K:Yy)(H:Hp)(A:YM→Prop):U→V→Prop
 | .non,v=>v=.non
 | .bl b,v=>v=.bl b
 | .int i,v=>v=.int i
 | .str x,v=>v=.str x
 | .tup us,v=>∃a xs,v=.ref a∧H a=some (.tup xs)∧us.length≤Yx∧az K H A us xs
 | .lst us,v=>∃a xs,v=.ref a∧¬A a∧H a=some (.lst xs)∧us.length≤Yx∧az K H A us xs
 | .dct ks us,v=>∃a xs,v=.ref a∧¬A a∧tG H a ks xs∧us.length≤Yx∧az K H A us xs
 | .scr us,v=>∃a xs,v=.ref a∧Gi K H a xs∧us.length≤Yx∧az K H A us xs
noncomputable def az (K:Yy)(H:Hp)(A:YM→Prop):List U→List V→Prop
 | [],xs=>xs=[]
 |u::us,xs=>∃x r,xs=x::r∧Rp K H A u x∧az K H A us r
end
noncomputable def i8 (K:Yy)(H:Hp)(A:YM→Prop):U→YM→Prop
 | .lst us,a=>∃xs,H a=some (.lst xs)∧us.length≤Yx∧az K H A us xs
 | .dct ks us,a=>∃xs,NM H a ks xs∧us.length≤Yx∧az K H A us xs
 |_,_=>False
noncomputable def Pk (K:Yy)(H:Hp)(A:YM→Prop):U→V→Prop
 | .non,v=>v=.non
 | .bl b,v=>v=.bl b
 | .int i,v=>v=.int i
 | .str x,v=>v=.str x
 | .tup us,v=>∃a xs,v=.ref a∧H a=some (.tup xs)∧us.length≤Yx∧az K H A us xs
 | .lst us,v=>∃a xs,v=.ref a∧H a=some (.lst xs)∧us.length≤Yx∧az K H A us xs
 | .dct ks us,v=>∃a xs,v=.ref a∧tG H a ks xs∧us.length≤Yx∧az K H A us xs
 | .scr us,v=>∃a xs,v=.ref a∧Gi K H a xs∧us.length≤Yx∧az K H A us xs
noncomputable def Mu:Option HO→Prop
 |some (.lst _)=>True
 |some (.dK _)=>True
 |some (.dT _)=>True
 |some (.ext _)=>True
 |_=>False
theorem Mu.ex {o:Option HO}(h:Mu o):∃x,o=.some x:=by
 cases o with
 |none=>exact h.elim
 |some x=>exact⟨x,rfl⟩
noncomputable def ej (A:YM→Prop)(H H':Hp):Prop:=∀b o,¬A b→H b=some o→H' b=some o
theorem ej.refl:ej A H H:=fun _ _ _ h=>h
theorem ej.trans (a:ej A H H1)(b:ej A H1 H2):ej A H H2:=fun c o n h=>b c o n (a c o n h)
theorem ej.same (h:aH H H'):ej A H H':=fun b o _ e=>h b o e
section
variable {A':YM→Prop}
theorem tG.ex (h:tG H a ks xs):∃o,H a=some o:=by
 rcases h with⟨k,h,_⟩|⟨k,n,h,_⟩
 ·exact⟨_,h⟩
 ·obtain⟨ep,q⟩:=h.ne n;exact⟨_,q⟩
theorem tG.to (h:tG H a ks xs)(e:∀o,H a=some o→H' a=some o)(t:∀b ys,H b=some (.tup ys)→H' b=some (.tup ys)):tG H' a ks xs:=by
 rcases h with⟨k,h,z⟩|⟨k,n,h,z⟩
 ·exact .inl ⟨k,e _ h,z⟩
 ·exact .inr ⟨k,n,⟨h.ob.imp (fun⟨ep,q⟩=>⟨ep,e _ q⟩) (fun q=>⟨q.1,e _ q.2⟩),h.nd,fun y hy=>(h.key y hy).to t⟩,z⟩
mutual
theorem Rp.re (m:∀b,A b→Mu (H b))(e:ej A H H')(n:∀b,A' b→A b∨H b=none):∀{u:U} {v:V},Rp K H A u v→Rp K H' A' u v
 | .non,v,h=>by unfold Rp at h ⊢;exact h
 | .bl b,v,h=>by unfold Rp at h ⊢;exact h
 | .int b,v,h=>by unfold Rp at h ⊢;exact h
 | .str b,v,h=>by unfold Rp at h ⊢;exact h
 | .tup us,v,h=>by
  unfold Rp at h ⊢
  obtain⟨a,xs,r,q,l,z⟩:=h
  exact⟨a,xs,r,e a _ (fun z=>by have:=m a z;rw[q] at this;exact this) q,l,az.re m e n z⟩
 | .lst us,v,h=>by
  unfold Rp at h ⊢
  obtain⟨a,xs,r,na,q,l,z⟩:=h
  refine⟨a,xs,r,fun y => ?_,e a _ na q,l,az.re m e n z⟩
  rcases n a y with y|y
  ·exact na y
  ·rw[q] at y;cases y
 | .scr us,v,h=>by
  unfold Rp at h ⊢
  obtain⟨a,xs,r,q,l,z⟩:=h
  exact⟨a,xs,r,q.to fun o y w=>e a _ (fun z=>by have:=m a z;rw[w] at this;exact this) w,l,az.re m e n z⟩
 | .dct ks us,v,h=>by
  unfold Rp at h ⊢
  obtain⟨a,xs,r,na,q,l,z⟩:=h
  refine⟨a,xs,r,fun y => ?_,q.to (fun o w=>e a o na w) (fun b ys w=>e b _ (fun y=>by have:=m b y;rw[w] at this;exact this) w),l,az.re m e n z⟩
  obtain⟨o,w⟩:=q.ex
  rcases n a y with y|y
  ·exact na y
  ·rw[w] at y;cases y
theorem az.re (m:∀b,A b→Mu (H b))(e:ej A H H')(n:∀b,A' b→A b∨H b=none):∀{us:List U} {vs:List V},az K H A us vs→az K H' A' us vs
 | [],vs,h=>by unfold az at h ⊢;exact h
 |u::us,vs,h=>by
  unfold az at h ⊢
  obtain⟨x,r,q,p,z⟩:=h
  exact⟨x,r,q,Rp.re m e n p,az.re m e n z⟩
end
mutual
theorem Rp.mono (n:∀b,A' b→A b):∀{u:U} {v:V},Rp K H A u v→Rp K H A' u v
 | .non,v,h=>by unfold Rp at h ⊢;exact h
 | .bl b,v,h=>by unfold Rp at h ⊢;exact h
 | .int b,v,h=>by unfold Rp at h ⊢;exact h
 | .str b,v,h=>by unfold Rp at h ⊢;exact h
 | .tup us,v,h=>by
  unfold Rp at h ⊢
  obtain⟨a,xs,r,q,l,z⟩:=h
  exact⟨a,xs,r,q,l,az.mono n z⟩
 | .lst us,v,h=>by
  unfold Rp at h ⊢
  obtain⟨a,xs,r,na,q,l,z⟩:=h
  exact⟨a,xs,r,fun y=>na (n a y),q,l,az.mono n z⟩
 | .scr us,v,h=>by
  unfold Rp at h ⊢
  obtain⟨a,xs,r,q,l,z⟩:=h
  exact⟨a,xs,r,q,l,az.mono n z⟩
 | .dct ks us,v,h=>by
  unfold Rp at h ⊢
  obtain⟨a,xs,r,na,q,l,z⟩:=h
  exact⟨a,xs,r,fun y=>na (n a y),q,l,az.mono n z⟩
theorem az.mono (n:∀b,A' b→A b):∀{us:List U} {vs:List V},az K H A us vs→az K H A' us vs
 | [],vs,h=>by unfold az at h ⊢;exact h
 |u::us,vs,h=>by
  unfold az at h ⊢
  obtain⟨x,r,q,p,z⟩:=h
  exact⟨x,r,q,Rp.mono n p,az.mono n z⟩
end
mutual
theorem Rp.same (e:aH H H'):∀{u:U} {v:V},Rp K H A u v→Rp K H' A u v
 | .non,v,h=>by unfold Rp at h ⊢;exact h
 | .bl b,v,h=>by unfold Rp at h ⊢;exact h
 | .int b,v,h=>by unfold Rp at h ⊢;exact h
 | .str b,v,h=>by unfold Rp at h ⊢;exact h
 | .tup us,v,h=>by
  unfold Rp at h ⊢
  obtain⟨a,xs,r,q,l,z⟩:=h
  exact⟨a,xs,r,e a _ q,l,az.same e z⟩
 | .lst us,v,h=>by
  unfold Rp at h ⊢
  obtain⟨a,xs,r,na,q,l,z⟩:=h
  exact⟨a,xs,r,na,e a _ q,l,az.same e z⟩
 | .scr us,v,h=>by
  unfold Rp at h ⊢
  obtain⟨a,xs,r,q,l,z⟩:=h
  exact⟨a,xs,r,q.to fun o y w=>e a _ w,l,az.same e z⟩
 | .dct ks us,v,h=>by
  unfold Rp at h ⊢
  obtain⟨a,xs,r,na,q,l,z⟩:=h
  exact⟨a,xs,r,na,q.to (fun o w=>e a o w) (fun b ys w=>e b _ w),l,az.same e z⟩
theorem az.same (e:aH H H'):∀{us:List U} {vs:List V},az K H A us vs→az K H' A us vs
 | [],vs,h=>by unfold az at h ⊢;exact h
 |u::us,vs,h=>by
  unfold az at h ⊢
  obtain⟨x,r,q,p,z⟩:=h
  exact⟨x,r,q,Rp.same e p,az.same e z⟩
end
theorem az.length:∀{us:List U} {vs:List V},az K H A us vs→us.length=vs.length
 | [],_,h=>by unfold az at h;subst h;rfl
 |u::us,_,h=>by
  unfold az at h
  obtain⟨x,r,rfl,_,q⟩:=h
  rw[YN,YN,az.length q]
theorem az.get:∀{us:List U} {vs:List V} {i:Nat} {u:U},az K H A us vs→us[i]? = some u→∃v,vs[i]? = some v∧Rp K H A u v
 | [],_,_,_,_,e=>by simp at e
 |w::us,_,i,u,h,e=>by
  unfold az at h
  obtain⟨x,r,rfl,p,q⟩:=h
  cases i with
  |zero=>simp at e;subst e;exact⟨x,by simp,p⟩
  |succ i =>
   obtain⟨v,a,b⟩:=az.get q (i:=i) (by simpa using e)
   exact⟨v,by simpa using a,b⟩
theorem az.nil:az K H A [] []:=by unfold az;rfl
theorem az.cons (h:Rp K H A u v)(t:az K H A us vs):az K H A (u::us) (v::vs):=by unfold az;exact⟨v,vs,rfl,h,t⟩
theorem az.append:∀{us ws:List U} {vs xs:List V},az K H A us vs→az K H A ws xs→az K H A (us++ws) (vs++xs)
 | [],ws,vs,xs,h,t=>by unfold az at h;subst h;exact t
 |u::us,ws,vs,xs,h,t=>by
  unfold az at h
  obtain⟨x,r,rfl,p,q⟩:=h
  exact az.cons p (az.append q t)
theorem az.take:∀{us:List U} {vs:List V} (n:Nat),az K H A us vs→az K H A (us.take n) (vs.take n)
 | [],vs,n,h=>by unfold az at h;subst h;simp;exact az.nil
 |u::us,vs,0,h=>by simp;exact az.nil
 |u::us,vs,n+1,h=>by
  unfold az at h
  obtain⟨x,r,rfl,p,q⟩:=h
  exact az.cons p (az.take n q)
theorem az.drop:∀{us:List U} {vs:List V} (n:Nat),az K H A us vs→az K H A (us.drop n) (vs.drop n)
 | [],vs,n,h=>by unfold az at h;subst h;simp;exact az.nil
 |u::us,vs,0,h=>h
 |u::us,vs,n+1,h=>by
  unfold az at h
  obtain⟨x,r,rfl,p,q⟩:=h
  exact az.drop n q
theorem az.set:∀{us:List U} {vs:List V} (n:Nat) {u:U} {v:V},Rp K H A u v→az K H A us vs→az K H A (us.set n u) (vs.set n v)
 | [],vs,n,_,_,_,h=>by unfold az at h;subst h;simp;exact az.nil
 |u::us,vs,0,_,_,p',h=>by
  unfold az at h
  obtain⟨x,r,rfl,p,q⟩:=h
  exact az.cons p' q
 |u::us,vs,n+1,_,_,p',h=>by
  unfold az at h
  obtain⟨x,r,rfl,p,q⟩:=h
  exact az.cons p (az.set n p' q)
theorem Rp.pk (h:Rp K H A u v):Pk K H A u v:=by
 cases u<;>(unfold Rp at h;unfold Pk)
 case lst us=>obtain⟨a,xs,r,na,q⟩:=h;exact⟨a,xs,r,q⟩
 case dct ks us=>obtain⟨a,xs,r,na,q⟩:=h;exact⟨a,xs,r,q⟩
 all_goals exact h
theorem Pk.same (e:aH H H')(h:Pk K H A u v):Pk K H' A u v:=by
 cases u<;>(unfold Pk at h ⊢)
 case tup us=>obtain⟨a,xs,r,q,l,z⟩:=h;exact⟨a,xs,r,e a _ q,l,z.same e⟩
 case lst us=>obtain⟨a,xs,r,q,l,z⟩:=h;exact⟨a,xs,r,e a _ q,l,z.same e⟩
 case scr us=>obtain⟨a,xs,r,q,l,z⟩:=h;exact⟨a,xs,r,q.to fun o y w=>e a _ w,l,z.same e⟩
 case dct ks us=>obtain⟨a,xs,r,q,l,z⟩:=h;exact⟨a,xs,r,q.to (fun o w=>e a o w) (fun b ys w=>e b _ w),l,z.same e⟩
 all_goals exact h
theorem i8.pk (h:i8 K H A u a):Pk K H A u (.ref a):=by
 cases u<;>(unfold i8 at h;unfold Pk)
 case lst us=>obtain⟨xs,q,l,z⟩:=h;exact⟨a,xs,rfl,q,l,z⟩
 case dct ks us=>obtain⟨xs,q,l,z⟩:=h;exact⟨a,xs,rfl,q.at,l,z⟩
 all_goals exact h.elim
theorem i8.rp (h:i8 K H A u a)(n:∀b,A' b→A b)(na:¬A' a):Rp K H A' u (.ref a):=by
 cases u<;>(unfold i8 at h;unfold Rp)
 case lst us=>obtain⟨xs,q,l,z⟩:=h;exact⟨a,xs,rfl,na,q,l,z.mono n⟩
 case dct ks us=>obtain⟨xs,q,l,z⟩:=h;exact⟨a,xs,rfl,na,q.at,l,z.mono n⟩
 all_goals exact h.elim
theorem i8.re (m:∀b,A b→Mu (H b))(e:ej A H H')(n:∀b,A' b→A b∨H b=none)(ea:∀o,H a=some o→H' a=some o)(h:i8 K H A u a):i8 K H' A' u a:=by
 cases u<;>(unfold i8 at h ⊢)
 case lst us=>obtain⟨xs,q,l,z⟩:=h;exact⟨xs,ea _ q,l,z.re m e n⟩
 case dct ks us=>obtain⟨xs,q,l,z⟩:=h;exact⟨xs,q.to ea (fun b ys w=>e b _ (fun y=>by have:=m b y;rw[w] at this;exact this) w),l,z.re m e n⟩
 all_goals exact h.elim
theorem i8.mu (h:i8 K H A u a):Mu (H a):=by
 cases u<;>(unfold i8 at h)
 case lst us=>obtain⟨xs,q,_⟩:=h;rw[q];trivial
 case dct ks us =>
  obtain⟨xs,q,_⟩:=h
  rcases q with⟨k,q,_⟩|⟨k,n,q,_⟩
  ·rw[q];trivial
  ·obtain⟨ep,q⟩:=q.ne n;rw[q];trivial
 all_goals exact h.elim
end
structure Pkg where
 A0:YM→Prop
 B:Hp
 a0:YM
structure Gm where
 own:List Bool
 io:Bool
 W:Hp→Prop
noncomputable def Gm.is (G:Gm)(i:Nat):Bool:=G.own.getD i false
structure cE (K:Yy)(G:Gm)(Z:Pkg)(A:YM→Prop)(ρ:Ev)(σ:St)(H:Hp):Prop where
 slot:∀i u,ρ[i]? = some (some u)→∃v,σ[i]? = some (some v)∧if G.is i=true then (∃a,v=.ref a∧A a∧Z.B a=none∧(¬Z.A0 a∨(G.io=true∧i=0))∧i8 K H A u a) else Rp K H A u v
 dis:∀i j u w a,G.is i=true→G.is j=true→i≠j→ρ[i]? = some (some u)→ρ[j]? = some (some w)→σ[i]? = some (some (.ref a))→σ[j]? = some (some (.ref a))→False
 mu:∀a,A a→Mu (H a)
 sup:∀a,Z.A0 a→A a
 out:∀a,A a→Z.A0 a∨Z.B a=none
 bas:∀a o,Z.B a=some o→H a=some o
 io0:G.io=true→σ[0]? = some (some (.ref Z.a0))∧G.is 0=true
 len:ρ.length=σ.length
section
variable {A':YM→Prop}{G:Gm}{Z:Pkg}{ρ':Ev}
theorem cE.same (r:cE K G Z A ρ σ H)(e:aH H H'):cE K G Z A ρ σ H' where
 slot:=fun i u h=>by
  obtain⟨v,h1,h2⟩:=r.slot i u h
  refine⟨v,h1,?_⟩
  by_cases c:G.is i=true
  ·rw[if_pos c] at h2 ⊢
   obtain⟨a,e1,e2,e3,e4,e5⟩:=h2
   exact⟨a,e1,e2,e3,e4,e5.re r.mu (ej.same e) (fun b z=>.inl z) fun o w=>e a o w⟩
  ·rw[if_neg c] at h2 ⊢
   exact h2.same e
 dis:=r.dis
 mu:=fun a h=>by
  have m:=r.mu a h
  obtain⟨o,q⟩:=m.ex
  rw[e a o q,←q];exact m
 sup:=r.sup
 out:=r.out
 bas:=fun a o h=>e a o (r.bas a o h)
 io0:=r.io0
 len:=r.len
theorem cE.add (r:cE K G Z A ρ σ H)(e:aH H H')(n:H a=none)(m:Mu (H' a)):cE K G Z (fun b=>A b∨b=a) ρ σ H' where
 slot:=fun i u h=>by
  have q:∀b,(A b∨b=a)→A b∨H b=none:=fun b z=>by
   rcases z with z|z
   ·exact .inl z
   ·subst z;exact .inr n
  obtain⟨v,h1,h2⟩:=r.slot i u h
  refine⟨v,h1,?_⟩
  by_cases c:G.is i=true
  ·rw[if_pos c] at h2 ⊢
   obtain⟨b,e1,e2,e3,e4,e5⟩:=h2
   exact⟨b,e1,.inl e2,e3,e4,e5.re r.mu (ej.same e) q fun o w=>e b o w⟩
  ·rw[if_neg c] at h2 ⊢
   exact h2.re r.mu (ej.same e) q
 dis:=r.dis
 mu:=fun b h=>by
  rcases h with h|h
  ·exact (r.same e).mu b h
  ·subst h;exact m
 sup:=fun b h=>.inl (r.sup b h)
 out:=fun b h=>by
  rcases h with h|h
  ·exact r.out b h
  ·subst h
   refine .inr ?_
   cases q:Z.B b with
   |none=>rfl
   |some o=>rw[r.bas b o q] at n;cases n
 bas:=fun a o h=>e a o (r.bas a o h)
 io0:=r.io0
 len:=r.len
theorem cE.notA (r:cE K G Z A ρ σ H)(n:H a=none):¬A a:=fun z=>by
 have:=r.mu a z
 rw[n] at this;exact this
theorem cE.notB (r:cE K G Z A ρ σ H)(n:H a=none):Z.B a=none:=by
 cases q:Z.B a with
 |none=>rfl
 |some o=>rw[r.bas a o q] at n;cases n
theorem cE.val (r:cE K G Z A ρ σ H)(c:G.is i=false)(h:ρ[i]? = some (some u)):∃v,σ[i]? = some (some v)∧Rp K H A u v:=by
 obtain⟨v,h1,h2⟩:=r.slot i u h
 rw[if_neg (by rw[c];exact Yq)] at h2
 exact⟨v,h1,h2⟩
theorem cE.own (r:cE K G Z A ρ σ H)(c:G.is i=true)(h:ρ[i]? = some (some u)):∃a,σ[i]? = some (some (.ref a))∧A a∧Z.B a=none∧(¬Z.A0 a∨(G.io=true∧i=0))∧i8 K H A u a:=by
 obtain⟨v,h1,h2⟩:=r.slot i u h
 rw[if_pos c] at h2
 obtain⟨a,rfl,z⟩:=h2
 exact⟨a,h1,z⟩
end
end L2
variable {Z:L2.Pkg}{G:L2.Gm}
namespace L2
inductive Md where
 |S|O|P
 deriving DecidableEq
noncomputable def u7 (K:Yy)(G:Gm)(Z:Pkg)(m:Md)(A:YM→Prop)(ρ:Ev)(σ:St)(H:Hp)(u:U)(v:V):Prop:=match m with
 | .S=>Rp K H A u v
 | .P=>Pk K H A u v
 | .O=>∃a,v=.ref a∧¬A a∧Z.B a=none∧cE K G Z (fun b=>A b∨b=a) ρ σ H∧i8 K H (fun b=>A b∨b=a) u a
noncomputable def Cc (K:Yy)(m:Md)(A:YM→Prop)(H H':Hp)(u:U)(v:V):Prop:=match m with
 | .S=>Rp K H' A u v
 | .P=>Pk K H' A u v
 | .O=>∃a,v=.ref a∧H a=none∧i8 K H' (fun b=>A b∨b=a) u a
noncomputable def Gj (K:Yy)(G:Gm)(Z:Pkg)(A:YM→Prop)(b:Bool)(m:Md)(ρ:Ev)(σ:St)(H:Hp):R (U×Ev)→VK→Prop
 | .ok (u,ρ'),Q=>∀v H',cE K G Z A ρ' σ H'→ej A H H'→(b=false→ρ'=ρ∧aH H H')→u7 K G Z m A ρ' σ H' u v→Q v H'
 |_,_=>False
noncomputable def tD (K:Yy)(G:Gm)(b:Bool)(m:Md)(g:Ev→R (U×Ev)):TE:=fun σ H Q=>∃Z A ρ,cE K G Z A ρ σ H∧Gj K G Z A b m ρ σ H (g ρ) Q
structure DE (X:Cx)(G:Gm)(e:aav)(b:Bool)(m:Md)(g:Ev→R (U×Ev)):Prop where
 un:PE X e (tD X.K G b m g)
noncomputable def Gk (K:Yy)(G:Gm)(Z:Pkg)(A:YM→Prop)(b:Bool)(ρ:Ev)(σ:St)(H:Hp):R (Bool×Ev)→(Bool→Hp→Prop)→Prop
 | .ok (c,ρ'),Q=>∀H',cE K G Z A ρ' σ H'→ej A H H'→(b=false→ρ'=ρ∧aH H H')→Q c H'
 |_,_=>False
noncomputable def Bg (K:Yy)(G:Gm)(b:Bool)(g:Ev→R (Bool×Ev)):TT:=fun σ H Q=>∃Z A ρ,cE K G Z A ρ σ H∧Gk K G Z A b ρ σ H (g ρ) Q
structure DT (X:Cx)(G:Gm)(e:aav)(b:Bool)(g:Ev→R (Bool×Ev)):Prop where
 un:PT X e (Bg X.K G b g)
noncomputable def xI (K:Yy)(H:Hp)(A:YM→Prop):List U→List V→Prop
 | [],vs=>vs=[]
 |u::us,vs=>∃x r,vs=x::r∧Pk K H A u x∧xI K H A us r
noncomputable def Gn (K:Yy)(p:Bool)(A:YM→Prop)(H:Hp)(us:List U)(vs:List V):Prop:=if p=true then xI K H A us vs else az K H A us vs
noncomputable def Gp (K:Yy)(G:Gm)(Z:Pkg)(A:YM→Prop)(b p:Bool)(ρ:Ev)(σ:St)(H:Hp):R (List U×Ev)→(List V→Hp→Prop)→Prop
 | .ok (us,ρ'),Q=>∀vs H',cE K G Z A ρ' σ H'→ej A H H'→(b=false→ρ'=ρ∧aH H H')→Gn K p A H' us vs→Q vs H'
 |_,_=>False
noncomputable def QJ (K:Yy)(G:Gm)(b p:Bool)(g:Ev→R (List U×Ev)):TA:=fun σ H Q=>∃Z A ρ,cE K G Z A ρ σ H∧Gp K G Z A b p ρ σ H (g ρ) Q
structure DA (X:Cx)(G:Gm)(es:List aav)(b p:Bool)(g:Ev→R (List U×Ev)):Prop where
 un:PA X es (QJ X.K G b p g)
section
variable {e:aav}{t t':TE}
theorem PE.to (h:PE X e t)(i:∀σ H Q,t' σ H Q→t σ H Q):PE X e t':=fun pins s σ H Q I q=>h pins s σ H Q I (i _ _ _ q)
theorem PT.to {t t':TT}(h:PT X e t)(i:∀σ H Q,t' σ H Q→t σ H Q):PT X e t':=fun pins s σ H Q I q=>h pins s σ H Q I (i _ _ _ q)
theorem PW.to {t t':TT}(h:PW X e t)(i:∀σ H Q,t' σ H Q→t σ H Q):PW X e t':=fun lY pins s σ H Q I q=>h lY pins s σ H Q I (i _ _ _ q)
theorem PA.to {es:List aav}{t t':TA}(h:PA X es t)(i:∀σ H Q,t' σ H Q→t σ H Q):PA X es t':=fun pos pins s σ H Q I q=>h pos pins s σ H Q I (i _ _ _ q)
theorem PS.to {t t':TS}(h:PS X st t)(i:∀D σ H,t' D σ H→t D σ H):PS X st t':=fun pins s σ H D I q=>h pins s σ H D I (i _ _ _ q)
theorem mV.to {st:List adh}{t t':TS}(h:mV X st t)(i:∀D σ H,t' D σ H→t D σ H):mV X st t':=fun pins s σ H D I q=>h pins s σ H D I (i _ _ _ q)
theorem PG.to {t t':TG}(h:PG X e t)(i:∀v σ H Q,t' v σ H Q→t v σ H Q):PG X e t':=fun pins s σ H v u Q I r q=>h pins s σ H v u Q I r (i _ _ _ _ q)
end
section
variable {A':YM→Prop}{ρ':Ev}{m:Md}{b:Bool}
theorem u7.rp (h:u7 K G Z m A ρ σ H u v)(n:m≠.P):Rp K H A u v:=by
 cases m with
 |S=>exact h
 |O =>
  obtain⟨a,rfl,na,_,_,t⟩:=h
  exact t.rp (fun b z=>.inl z) na
 |P=>exact absurd rfl n
theorem u7.pk (h:u7 K G Z m A ρ σ H u v):Pk K H A u v:=by
 by_cases c:m=.P
 ·subst c;exact h
 ·exact (h.rp c).pk
theorem Cc.e (r:cE K G Z A ρ σ H)(s:aH H H')(h:Cc K m A H H' u v):u7 K G Z m A ρ σ H' u v:=by
 cases m with
 |S=>exact h
 |P=>exact h
 |O =>
  obtain⟨a,rfl,n,t⟩:=h
  exact⟨a,rfl,r.notA n,r.notB n,r.add s n t.mu,t⟩
theorem u7.later (r:cE K G Z A ρ σ H)(h:u7 K G Z m A ρ σ H u v)(x:ej A H H')(s:b=false→ρ'=ρ∧aH H H')(c:m=.P→b=false):Pk K H' A u v:=by
 by_cases d:m=.P
 ·exact h.pk.same (s (c d)).2
 ·exact ((h.rp d).re r.mu x fun b z=>.inl z).pk
theorem u7.laterS (r:cE K G Z A ρ σ H)(h:u7 K G Z m A ρ σ H u v)(x:ej A H H')(d:m≠.P):Rp K H' A u v:=(h.rp d).re r.mu x fun b z=>.inl z
theorem two {b1 b2:Bool}{ρ1 ρ2:Ev}(h1:b1=false→ρ1=ρ∧aH H H1)(h2:b2=false→ρ2=ρ1∧aH H1 H2):(b1||b2)=false→ρ2=ρ∧aH H H2:=fun h=>by
 rw[abZ] at h
 obtain⟨a,b⟩:=h1 h.1
 obtain⟨c,d⟩:=h2 h.2
 exact⟨c.trans a,b.trans d⟩
theorem nX {b1:Bool}{ρ1:Ev}(h1:b1=false→ρ1=ρ∧aH H H1)(h2:aH H1 H2):b1=false→ρ1=ρ∧aH H H2:=fun h=>⟨(h1 h).1,(h1 h).2.trans h2⟩
end
noncomputable def ae (i:Nat):Ev→R (U×Ev):=fun ρ=>match ρ[i]? with
 |some (some u)=>.ok (u,ρ)
 |_=>.stk
noncomputable def gC (u:U):Ev→R (U×Ev):=fun ρ=>.ok (u,ρ)
section
variable {e a b:aav}{es:List aav}
theorem NO {b:Bool}{m:Md}(h:PE X e (FK i))(c:G.is i=false):DE X G e false .S (ae i):=by
 refine⟨h.to fun σ H Q ⟨Z,A,ρ,r,f⟩ => ?_⟩
 unfold ae at f
 split at f
 ·rename_i u hu
  obtain⟨v,h1,h2⟩:=r.val c hu
  exact⟨v,h1,f v H r ej.refl (fun _=>⟨rfl,aH.refl _⟩) h2⟩
 ·exact f.elim
theorem aj (i:Nat)(hN:X.N[i]? = some x:=by rfl)(hv:yZ X.env.scope x:=by first|exact Or.inl rfl|exact Or.inr (Or.inl rfl)|exact Or.inr (Or.inr rfl))(hd:(x==("__debug__":Str))=false:=by decide)
  (iP:(x==("__classdict__":Str))=false:=by decide) (c:G.is i=false:=by rfl):DE X G (.Name x pos) false .S (ae i):=NO (b:=false) (m:=.S) (fq hN hv hd iP) c
theorem gN (i:Nat)(hN:X.N[i]? = some x:=by rfl)(hv:yZ X.env.scope x:=by first|exact Or.inl rfl|exact Or.inr (Or.inl rfl)|exact Or.inr (Or.inr rfl))(hd:(x==("__debug__":Str))=false:=by decide)
  (iP:(x==("__classdict__":Str))=false:=by decide) (c:G.is i=true:=by rfl):DE X G (.Name x pos) false .P (ae i):=by
 refine⟨(fq hN hv hd iP).to fun σ H Q ⟨Z,A,ρ,r,f⟩ => ?_⟩
 unfold ae at f
 split at f
 ·rename_i u hu
  obtain⟨a,h1,_,_,_,h2⟩:=r.own c hu
  exact⟨.ref a,h1,f _ H r ej.refl (fun _=>⟨rfl,aH.refl _⟩) h2.pk⟩
 ·exact f.elim
theorem Gq (h:PE X e (tC v))(r:∀K H A,Rp K H A u v):DE X G e false .S (gC u):=by
 refine⟨h.to fun σ H Q ⟨Z,A,ρ,q,f⟩ => ?_⟩
 exact f v H q ej.refl (fun _=>⟨rfl,aH.refl _⟩) (r _ _ _)
theorem aA {i j pos}:DE X G (.Constant (.int i) j pos) false .S (gC (.int i)):=Gq Cj fun _ _ _=>by unfold Rp;rfl
theorem pE {i j pos}:DE X G (.Constant (.bool i) j pos) false .S (gC (.bl i)):=Gq Ck fun _ _ _=>by unfold Rp;rfl
theorem KO {i j pos}:DE X G (.Constant (.str i) j pos) false .S (gC (.str i)):=Gq gJ fun _ _ _=>by unfold Rp;rfl
theorem vx {i:Int}{tk:Tok}(hg:Gl X x)(hm:X.mg x=some (.int i tk))(hd:(x==("__debug__":Str))=false:=by decide):DE X G (.Name x pos) false .S (gC (.int i)):=Gq (v:=.int i) (sU hg hm ⟨_,rfl⟩ hd) fun _ _ _=>by unfold Rp;rfl
noncomputable def aZ (p:U→U→R U)(g1 g2:Ev→R (U×Ev)):Ev→R (U×Ev):=fun ρ=>(g1 ρ).bind fun x=>(g2 x.2).bind fun y=>(p x.1 y.1).bind fun z=>.ok (z,y.2)
noncomputable def fU (K:Yy)(r:R2)(m:Md)(p:U→U→R U):Prop:=∀A H x y u w z Q,Pk K H A u x→Pk K H A w y→(∀a,A a→Mu (H a))→p u w=.ok z→(∀v H',aH H H'→Cc K m A H H' z v→Q v H')→r x y H Q
variable {b1 b2 b3:Bool}{m1 m2 m3 mr:Md}{g1 g2 g3:Ev→R (U×Ev)}
theorem kO {p:U→U→R U}(hp:fU X.K r mr p)(hm:m1=.P→b2=false){Q:VK}(h:tD X.K G (b1||b2) mr (aZ p g1 g2) σ H Q) :
  Nk r (tD X.K G b1 m1 g1) (tD X.K G b2 m2 g2) σ H Q:=by
 obtain⟨Z,A,ρ,q,f⟩:=h
 unfold aZ at f
 refine⟨Z,A,ρ,q,?_⟩
 cases e1:g1 ρ with
 |stk=>rw[e1] at f;exact f.elim
 |exc=>rw[e1] at f;exact f.elim
 |ok x =>
  obtain⟨u,ρ1⟩:=x
  rw[e1] at f
  intro v1 H1 q1 x1 s1 qY
  refine⟨Z,A,ρ1,q1,?_⟩
  cases e2:g2 ρ1 with
  |stk=>simp only[R.bind,e2] at f;exact f.elim
  |exc=>simp only[R.bind,e2] at f;exact f.elim
  |ok y =>
   obtain⟨w,ρ2⟩:=y
   simp only[R.bind,e2] at f
   intro v2 H2 q2 x2 s2 yT
   cases e3:p u w with
   |stk=>rw[e3] at f;exact f.elim
   |exc=>rw[e3] at f;exact f.elim
   |ok z =>
    rw[e3] at f
    refine hp A H2 v1 v2 u w z Q (qY.later q1 x2 s2 hm) yT.pk q2.mu e3 fun v H' sm vm => ?_
    exact f v H' (q2.same sm) ((x1.trans x2).trans (ej.same sm)) (nX (two s1 s2) sm) (vm.e q2 sm)
theorem aS {op:Operator}{p:U→U→R U}(ho:j5 X (abI op) r)(hp:fU X.K r mr p)(ha:DE X G a b1 m1 g1)(hb:DE X G b b2 m2 g2)(hm:m1=.P→b2=false:=by first|exact fun _=>rfl|exact fun h=>nomatch h) :
  DE X G (.BinOp a op b pos) (b1||b2) mr (aZ p g1 g2):=⟨(Ig ho ha.un hb.un).to fun _ _ _=>kO hp hm⟩
theorem tH {p:U→U→R U}(ho:j5 X (abL op) r)(hp:fU X.K r mr p)(ha:DE X G a b1 m1 g1)(hb:DE X G b b2 m2 g2)(hk:abR op b=false)(hm:m1=.P→b2=false:=by first|exact fun _=>rfl|exact fun h=>nomatch h) :
  DE X G (.Compare a [op] [b] pos) (b1||b2) mr (aZ p g1 g2):=⟨(FW ho ha.un hb.un hk).to fun _ _ _=>kO hp hm⟩
theorem i9 {p:U→U→R U}(ho:Fy X r)(hp:fU X.K r mr p)(ha:DE X G a b1 m1 g1)(hb:DE X G b b2 m2 g2)(hs:zd b)(hm:m1=.P→b2=false:=by first|exact fun _=>rfl|exact fun h=>nomatch h) :
  DE X G (.Subscript a b pos) (b1||b2) mr (aZ p g1 g2):=⟨(Ii ho ha.un hb.un hs).to fun _ _ _=>kO hp hm⟩
noncomputable def gB (g:Ev→R (U×Ev)):Ev→R (Bool×Ev):=fun ρ=>(g ρ).bind fun x=>match x.1 with
 | .bl c=>.ok (c,x.2)
 |_=>.stk
theorem rR {g:Ev→R (U×Ev)}{m:Md}{Q:Bool→Hp→Prop}(h:Bg X.K G b1 (gB g) σ H Q):tD X.K G b1 m g σ H fun x H'=>∃k,x=.bl k∧Q k H':=by
 obtain⟨Z,A,ρ,q,f⟩:=h
 refine⟨Z,A,ρ,q,?_⟩
 unfold gB at f
 cases e1:g ρ with
 |stk=>rw[e1] at f;exact f.elim
 |exc=>rw[e1] at f;exact f.elim
 |ok x =>
  obtain⟨u,ρ1⟩:=x
  rw[e1] at f
  intro v H1 q1 x1 s1 vm
  cases u with
  |bl c =>
   have e:v=.bl c:=by have:=vm.pk;unfold Pk at this;exact this
   exact⟨c,e,f H1 q1 x1 s1⟩
  |_=>exact f.elim
theorem tJ (h:DE X G e b1 m1 g1)(he:∀lY,isTrue e X.env lY=(do let v ←lY;standAt e.pos;adi [v] (truthy v)):=by intro _;rfl):DT X G e b1 (gB g1):=⟨(Cm h.un he).to fun _ _ _ h=>rR h⟩
theorem cG {p:U→U→R U}(ho:j5 X (abL op) r)(hp:fU X.K r mr p)(ha:DE X G a b1 m1 g1)(hb:DE X G b b2 m2 g2)(hk:abR op b=false)(hm:m1=.P→b2=false:=by first|exact fun _=>rfl|exact fun h=>nomatch h) :
  DT X G (.Compare a [op] [b] pos) (b1||b2) (gB (aZ p g1 g2)):=⟨(y_ ho ha.un hb.un hk).to fun _ _ _ h=>kO hp hm (rR (m:=mr) h)⟩
end
end L2
namespace L2
section
variable {A':YM→Prop}{ρ':Ev}{b p:Bool}{m:Md}{α:Type}
theorem Gj.bind {x:R α}{k:α→R (U×Ev)}{Q:VK}(f:Gj K G Z A b m ρ σ H (x.bind k) Q):∃a,x=.ok a∧Gj K G Z A b m ρ σ H (k a) Q:=by
 cases x with
 |ok a=>exact⟨a,rfl,f⟩
 |exc=>exact f.elim
 |stk=>exact f.elim
theorem Gk.bind {x:R α}{k:α→R (Bool×Ev)}{Q:Bool→Hp→Prop}(f:Gk K G Z A b ρ σ H (x.bind k) Q):∃a,x=.ok a∧Gk K G Z A b ρ σ H (k a) Q:=by
 cases x with
 |ok a=>exact⟨a,rfl,f⟩
 |exc=>exact f.elim
 |stk=>exact f.elim
theorem Gp.bind {x:R α}{k:α→R (List U×Ev)}{Q:List V→Hp→Prop}(f:Gp K G Z A b p ρ σ H (x.bind k) Q):∃a,x=.ok a∧Gp K G Z A b p ρ σ H (k a) Q:=by
 cases x with
 |ok a=>exact⟨a,rfl,f⟩
 |exc=>exact f.elim
 |stk=>exact f.elim
theorem Pk.bl {c:Bool}(h:Pk K H A (.bl c) v):v=.bl c:=by unfold Pk at h;exact h
theorem Pk.int {i:Int}(h:Pk K H A (.int i) v):v=.int i:=by unfold Pk at h;exact h
theorem Pk.str {i:Str}(h:Pk K H A (.str i) v):v=.str i:=by unfold Pk at h;exact h
theorem iQ {c:Bool}:Rp K H A (.bl c) (.bl c):=by unfold Rp;rfl
theorem eA {c:Int}:Rp K H A (.int c) (.int c):=by unfold Rp;rfl
theorem u7.ofS (h:Rp K H A u v):u7 K G Z .S A ρ σ H u v:=h
theorem tK:Rp K H A .non .non:=by unfold Rp;rfl
theorem CU {c:Str}:Rp K H A (.str c) (.str c):=by unfold Rp;rfl
theorem az.pks:∀{us:List U} {vs:List V},az K H A us vs→xI K H A us vs
 | [],_,h=>by unfold az at h;unfold xI;exact h
 |u::us,_,h=>by
  unfold az at h;unfold xI
  obtain⟨x,r,e,z,q⟩:=h
  exact⟨x,r,e,z.pk,az.pks q⟩
end
section
variable {e a b:aav}{es rest:List aav}{b1 b2 b3:Bool}{m1 m2 m3 mr:Md}{g1 g2 g3:Ev→R (U×Ev)}{h1 h2:Ev→R (Bool×Ev)}
noncomputable def Bh (g1 g2:Ev→R (Bool×Ev)):Ev→R (Bool×Ev):=fun ρ=>(g1 ρ).bind fun x=>if x.1=true then g2 x.2 else .ok (false,x.2)
noncomputable def MP (g1 g2:Ev→R (Bool×Ev)):Ev→R (Bool×Ev):=fun ρ=>(g1 ρ).bind fun x=>if x.1=true then .ok (true,x.2) else g2 x.2
noncomputable def Bi (g1:Ev→R (Bool×Ev)):Ev→R (Bool×Ev):=fun ρ=>(g1 ρ).bind fun x=>.ok (!x.1,x.2)
structure DW (X:Cx)(G:Gm)(e:aav)(b:Bool)(g:Ev→R (Bool×Ev)):Prop where
 un:PW X e (Bg X.K G b g)
theorem DW.dt (h:DW X G e b1 h1):DT X G e b1 h1:=⟨PW.pt h.un⟩
theorem CV {Q:Bool→Hp→Prop}(h:Bg X.K G (b1||b2) (Bh h1 h2) σ H Q):M9 (Bg X.K G b1 h1) (Bg X.K G b2 h2) σ H Q:=by
 obtain⟨Z,A,ρ,q,f⟩:=h
 obtain⟨⟨k,ρ1⟩,e1,f⟩:=f.bind
 refine⟨Z,A,ρ,q,?_⟩
 rw[e1]
 intro H1 q1 x1 s1
 cases k with
 |true =>
  rw[if_pos rfl] at f ⊢
  refine⟨Z,A,ρ1,q1,?_⟩
  dsimp only at f
  cases e2:h2 ρ1 with
  |ok y=>rw[e2] at f;exact fun H2 q2 x2 s2=>f H2 q2 (x1.trans x2) (two s1 s2)
  |exc=>rw[e2] at f;exact f.elim
  |stk=>rw[e2] at f;exact f.elim
 |false =>
  rw[if_neg Yq] at f ⊢
  exact f H1 q1 x1 fun z=>s1 (abZ.mp z).1
theorem Gs {Q:Bool→Hp→Prop}(h:Bg X.K G (b1||b2) (MP h1 h2) σ H Q):UG (Bg X.K G b1 h1) (Bg X.K G b2 h2) σ H Q:=by
 obtain⟨Z,A,ρ,q,f⟩:=h
 obtain⟨⟨k,ρ1⟩,e1,f⟩:=f.bind
 refine⟨Z,A,ρ,q,?_⟩
 rw[e1]
 intro H1 q1 x1 s1
 cases k with
 |false =>
  rw[if_neg Yq] at f ⊢
  refine⟨Z,A,ρ1,q1,?_⟩
  dsimp only at f
  cases e2:h2 ρ1 with
  |ok y=>rw[e2] at f;exact fun H2 q2 x2 s2=>f H2 q2 (x1.trans x2) (two s1 s2)
  |exc=>rw[e2] at f;exact f.elim
  |stk=>rw[e2] at f;exact f.elim
 |true =>
  rw[if_pos rfl] at f ⊢
  exact f H1 q1 x1 fun z=>s1 (abZ.mp z).1
theorem tL (ha:DT X G a b1 h1):DW X G (.BoolOp .And [a] pos) b1 h1:=⟨FN ha.un⟩
theorem CW (ha:DT X G a b1 h1):DW X G (.BoolOp .Or [a] pos) b1 h1:=⟨J6 ha.un⟩
theorem xJ (ha:DT X G a b1 h1)(hb:DW X G (.BoolOp .And (b::rest) pos) b2 h2):DW X G (.BoolOp .And (a::b::rest) pos) (b1||b2) (Bh h1 h2):=⟨(J7 ha.un hb.un).to fun _ _ _=>CV⟩
theorem Io (ha:DT X G a b1 h1)(hb:DW X G (.BoolOp .Or (b::rest) pos) b2 h2):DW X G (.BoolOp .Or (a::b::rest) pos) (b1||b2) (MP h1 h2):=⟨(M_ ha.un hb.un).to fun _ _ _=>Gs⟩
theorem CY (ha:DT X G a b1 h1):DT X G (.UnaryOp .Not a pos) b1 (Bi h1):=⟨(Co ha.un).to fun σ H Q h=>by
 obtain⟨Z,A,ρ,q,f⟩:=h
 obtain⟨⟨k,ρ1⟩,e1,f⟩:=f.bind
 refine⟨Z,A,ρ,q,?_⟩
 rw[e1]
 exact fun H1 q1 x1 s1=>f H1 q1 x1 s1⟩
noncomputable def KP (g1 g2:Ev→R (U×Ev)):Ev→R (U×Ev):=fun ρ=>(gB g1 ρ).bind fun x=>if x.1=true then g2 x.2 else .ok (.bl false,x.2)
noncomputable def VM (g1 g2:Ev→R (U×Ev)):Ev→R (U×Ev):=fun ρ=>(gB g1 ρ).bind fun x=>if x.1=true then .ok (.bl true,x.2) else g2 x.2
noncomputable def QK (g1:Ev→R (U×Ev)):Ev→R (U×Ev):=fun ρ=>(gB g1 ρ).bind fun x=>.ok (.bl (!x.1),x.2)
theorem NP {g:Ev→R (U×Ev)}{ρ1:Ev}{k:Bool}(h:gB g ρ=.ok (k,ρ1)):g ρ=.ok (.bl k,ρ1):=by
 unfold gB at h
 cases e:g ρ with
 |ok y =>
  obtain⟨u,ρ2⟩:=y
  rw[e] at h
  cases u<;>simp[R.bind] at h
  obtain⟨rfl,rfl⟩:=h;rfl
 |exc=>rw[e] at h;simp[R.bind] at h
 |stk=>rw[e] at h;simp[R.bind] at h
theorem KQ (hn:m2≠.P:=by decide)(ha:DE X G a b1 m1 g1)(hb:DE X G (.BoolOp .And (b::rest) pos) b2 m2 g2):DE X G (.BoolOp .And (a::b::rest) pos) (b1||b2) .S (KP g1 g2):=⟨(J9 ha.un hb.un).to fun σ H Q h=>by
 obtain⟨Z,A,ρ,q,f⟩:=h
 obtain⟨⟨k,ρ1⟩,e1,f⟩:=f.bind
 refine⟨Z,A,ρ,q,?_⟩
 rw[NP e1]
 intro v H1 q1 x1 s1 vm
 refine⟨k,vm.pk.bl,?_⟩
 cases k with
 |true =>
  rw[if_pos rfl] at f ⊢
  refine⟨Z,A,ρ1,q1,?_⟩
  dsimp only at f
  cases e2:g2 ρ1 with
  |ok y=>rw[e2] at f;exact fun v2 H2 q2 x2 s2 yT=>f v2 H2 q2 (x1.trans x2) (two s1 s2) (yT.rp hn)
  |exc=>rw[e2] at f;exact f.elim
  |stk=>rw[e2] at f;exact f.elim
 |false =>
  rw[if_neg Yq] at f ⊢
  exact f _ H1 q1 x1 (fun z=>s1 (abZ.mp z).1) (u7.ofS iQ)⟩
theorem KR {op}(ha:DE X G a b1 m1 g1):DE X G (.BoolOp op [a] pos) b1 m1 g1:=⟨J8 ha.un⟩
noncomputable def VN (h:Ev→R (Bool×Ev))(g1 g2:Ev→R (U×Ev)):Ev→R (U×Ev):=fun ρ=>(h ρ).bind fun x=>if x.1=true then g1 x.2 else g2 x.2
noncomputable def KS (p p':U→U→R U)(g1 g2 g3:Ev→R (U×Ev)):Ev→R (U×Ev):=fun ρ=>(g1 ρ).bind fun x=>(g2 x.2).bind fun y=>(p x.1 y.1).bind fun z=>match z with
 | .bl k=>if k=true then (g3 y.2).bind fun w=>(p' y.1 w.1).bind fun z'=>.ok (z',w.2) else .ok (.bl false,y.2)
 |_=>.stk
noncomputable def VO (p:U→R U)(g:Ev→R (U×Ev)):Ev→R (U×Ev):=fun ρ=>(g ρ).bind fun x=>(p x.1).bind fun z=>.ok (z,x.2)
noncomputable def ak:Ev→R (List U×Ev):=fun ρ=>.ok ([],ρ)
noncomputable def aa (g:Ev→R (U×Ev))(ga:Ev→R (List U×Ev)):Ev→R (List U×Ev):=fun ρ=>(g ρ).bind fun x=>(ga x.2).bind fun y=>.ok (x.1::y.1,y.2)
variable {ga:Ev→R (List U×Ev)}{p:Bool}
theorem ah:DA X G [] false p ak:=⟨dA.to fun σ H Q ⟨Z,A,ρ,q,f⟩=>f [] H q ej.refl (fun _=>⟨rfl,aH.refl _⟩) (by unfold Gn;split;exact rfl;exact az.nil)⟩
theorem af (ha:DE X G e b1 m1 g1)(hr:DA X G es b2 p ga)(hm:m1=.P→(p=true∧b2=false):=by first|exact fun _=>⟨rfl,rfl⟩|exact fun h=>nomatch h)
  (hs:YF (e::es) X.env=(false,abE e X.env)::YF es X.env:=by rfl):DA X G (e::es) (b1||b2) p (aa g1 ga):=⟨(aL ha.un hr.un hs).to fun σ H Q h=>by
 obtain⟨Z,A,ρ,q,f⟩:=h
 obtain⟨⟨u,ρ1⟩,e1,f⟩:=f.bind
 obtain⟨⟨us,ρ2⟩,e2,f⟩:=f.bind
 refine⟨Z,A,ρ,q,?_⟩
 rw[e1]
 intro v1 H1 q1 x1 s1 qY
 refine⟨Z,A,ρ1,q1,?_⟩
 dsimp only at e2
 rw[e2]
 intro vs H2 q2 x2 s2 yT
 refine f (v1::vs) H2 q2 (x1.trans x2) (two s1 s2) ?_
 unfold Gn at yT ⊢
 cases p with
 |true =>
  rw[if_pos rfl] at yT ⊢
  exact⟨v1,vs,rfl,qY.later q1 x2 s2 (fun z=>(hm z).2),yT⟩
 |false =>
  rw[if_neg Yq] at yT ⊢
  exact az.cons (qY.laterS q1 x2 fun z=>Yq (hm z).1) yT⟩
theorem Gn.pks (h:Gn K p A H us vs):xI K H A us vs:=by
 unfold Gn at h
 cases p with
 |true=>rw[if_pos rfl] at h;exact h
 |false=>rw[if_neg Yq] at h;exact h.pks
theorem Gn.rps (h:Gn K false A H us vs):az K H A us vs:=by
 unfold Gn at h
 rw[if_neg Yq] at h;exact h
noncomputable def cw (ga:Ev→R (List U×Ev)):Ev→R (U×Ev):=fun ρ=>(ga ρ).bind fun x=>if x.1.length≤Yx then .ok (.tup x.1,x.2) else .stk
noncomputable def eL (ga:Ev→R (List U×Ev)):Ev→R (U×Ev):=fun ρ=>(ga ρ).bind fun x=>if x.1.length≤Yx then .ok (.lst x.1,x.2) else .stk
theorem b_ {p:YM}(h:H p=none)(o:HO):aH H (cm H p o):=fun b u q=>by rw[aD (ba q h)];exact q
theorem mq {a:YM}(h:az K H A us vs)(n:H a=none)(l:us.length≤Yx):Rp K (cm H a (.tup vs)) A (.tup us) (.ref a):=by
 unfold Rp
 exact⟨a,vs,rfl,aI,l,h.same (b_ n _)⟩
theorem cH {a:YM}(m:∀b,A b→Mu (H b))(h:az K H A us vs)(n:H a=none)(l:us.length≤Yx):i8 K (cm H a (.lst vs)) (fun b=>A b∨b=a) (.lst us) a :=
 ⟨vs,aI,l,h.re m (ej.same (b_ n _)) fun b z=>by
  rcases z with z|z
  ·exact .inl z
  ·subst z;exact .inr n⟩
theorem eB {x1}(h:DA X G es b1 false ga):DE X G (.Tuple es x1 pos) b1 .S (cw ga):=⟨(Cu h.un).to fun σ H Q h=>by
 obtain⟨Z,A,ρ,q,f⟩:=h
 obtain⟨⟨us,ρ1⟩,e1,f⟩:=f.bind
 refine⟨Z,A,ρ,q,?_⟩
 rw[e1]
 intro vs H1 q1 x1 s1 qY
 dsimp only at f
 split at f
 ·rename_i l
  refine⟨by rw[←qY.rps.length];exact l,fun a n => ?_⟩
  exact f _ _ (q1.same (b_ n _)) (x1.trans (ej.same (b_ n _))) (nX s1 (b_ n _)) (u7.ofS (mq qY.rps n l))
 ·exact f.elim⟩
theorem fV (h:DA X G es b1 false ga):DE X G (.List es pos) b1 .O (eL ga):=⟨(sX h.un).to fun σ H Q h=>by
 obtain⟨Z,A,ρ,q,f⟩:=h
 obtain⟨⟨us,ρ1⟩,e1,f⟩:=f.bind
 refine⟨Z,A,ρ,q,?_⟩
 rw[e1]
 intro vs H1 q1 x1 s1 qY
 dsimp only at f
 split at f
 ·rename_i l
  refine⟨by rw[←qY.rps.length];exact l,fun a n => ?_⟩
  exact f _ _ (q1.same (b_ n _)) (x1.trans (ej.same (b_ n _))) (nX s1 (b_ n _)) (Cc.e q1 (b_ n _) ⟨a,rfl,n,cH q1.mu qY.rps n l⟩)
 ·exact f.elim⟩
noncomputable def iR (p:List U→R U)(ga:Ev→R (List U×Ev)):Ev→R (U×Ev):=fun ρ=>(ga ρ).bind fun x=>(p x.1).bind fun z=>.ok (z,x.2)
noncomputable def mv (K:Yy)(r:List V→Hp→VK→Prop)(m:Md)(p:List U→R U):Prop:=∀A H vs us z Q,xI K H A us vs→(∀a,A a→Mu (H a))→p us=.ok z→(∀v H',aH H H'→Cc K m A H H' z v→Q v H')→r vs H Q
theorem zg {r:List V→Hp→VK→Prop}{f:List U→R U}(hp:mv X.K r mr f){Q:VK}(h:tD X.K G b1 mr (iR f ga) σ H Q):QC r (QJ X.K G b1 p ga) σ H Q:=by
 obtain⟨Z,A,ρ,q,f⟩:=h
 obtain⟨⟨us,ρ1⟩,e1,f⟩:=f.bind
 obtain⟨z,e2,f⟩:=f.bind
 refine⟨Z,A,ρ,q,?_⟩
 rw[e1]
 intro vs H1 q1 x1 s1 qY
 exact hp A H1 vs us z Q qY.pks q1.mu e2 fun v H' sm vm=>f v H' (q1.same sm) (x1.trans (ej.same sm)) (nX s1 sm) (vm.e q1 sm)
theorem bp {id:String}{p1:Pos}{r:List V→Hp→VK→Prop}{f:List U→R U}(hc:dR X (.builtin id) r)(hp:mv X.K r mr f)(hg:Gl X x)(hm:X.mg x=none)(hv:Zr x=some (.builtin id))(ha:DA X G (e::es) b1 true ga)(hn:x≠"__name__":=by decide)(uX:(x==("__debug__":Str))=false:=by decide)
  (he:YF (e::es) X.env=(false,abE e X.env)::YF es X.env:=by rfl) (jR:(aaQ pos (YF es X.env)).any (·.1)=false:=by rfl):DE X G (.Call (.Name x p1) (e::es) [] pos) b1 mr (iR f ga):=⟨(gU hc hg hm hv ha.un hn uX he jR).to fun _ _ _=>zg hp⟩
theorem dJ {T:String}{p1:Pos}{r:List V→Hp→VK→Prop}{f:List U→R U}(hc:dR X (.type T) r)(hp:mv X.K r mr f)(hg:Gl X x)(hm:X.mg x=none)(hv:Zr x=some (.type T))(ha:DA X G (e::es) b1 true ga)(hn:x≠"__name__":=by decide)(uX:(x==("__debug__":Str))=false:=by decide)
  (he:YF (e::es) X.env=(false,abE e X.env)::YF es X.env:=by rfl) (jR:(aaQ pos (YF es X.env)).any (·.1)=false:=by rfl):DE X G (.Call (.Name x p1) (e::es) [] pos) b1 mr (iR f ga):=⟨(gW hc hg hm hv ha.un hn uX he jR).to fun _ _ _=>zg hp⟩
end
end L2
namespace L2
section
variable {A':YM→Prop}{ρ':Ev}{b p:Bool}{m:Md}{α:Type}
theorem i8.mono (n:∀b,A' b→A b)(h:i8 K H A u a):i8 K H A' u a:=by
 cases u<;>(unfold i8 at h ⊢)
 case lst us=>obtain⟨xs,q,l,z⟩:=h;exact⟨xs,q,l,z.mono n⟩
 case dct ks us=>obtain⟨xs,q,l,z⟩:=h;exact⟨xs,q,l,z.mono n⟩
 all_goals exact h.elim
theorem cK {α:Type}{l:List (Option α)}{x:Option α}{y:α}(h:(l.set i x)[j]? = some (some y)):(i=j∧x=some y)∨(i≠j∧l[j]? = some (some y)):=by
 by_cases e:i=j
 ·subst e
  rw[List.getElem?_set_self'] at h
  refine .inl ⟨rfl,?_⟩
  cases q:l[i]? with
  |none=>rw[q] at h;cases h
  |some w=>rw[q] at h;exact Zg h
 ·rw[Zf e] at h
  exact .inr ⟨e,h⟩
theorem oE {α:Type}{l l':List (Option α)}{x:α}{β:Type}{k:List (Option β)}{y:Option β}{z:β}(hl:k.length=l.length)(h:(k.set i y)[i]? = some (some z)):(l.set i (some x))[i]? = some (some x):=by
 have:i<l.length:=by
  have:=(YD.mp h).1
  rw[Z8] at this;lia
 rw[abD this]
theorem cE.set (r:cE K G Z A ρ σ H)(c:G.is i=false)(h:Rp K H A u v):cE K G Z A (ρ.set i (some u)) (σ.set i (some v)) H where
 slot:=fun j w hj=>by
  rcases cK hj with⟨rfl,e⟩|⟨ne,e⟩
  ·cases e
   refine⟨v,oE (l':=σ) r.len hj,?_⟩
   rw[if_neg (by rw[c];exact Yq)];exact h
  ·rw[Zf ne]
   exact r.slot j w e
 dis:=fun j k w w' a cj ck ne hj hk sj sk=>by
  rcases cK hj with⟨rfl,_⟩|⟨n1,e1⟩
  ·rw[c] at cj;cases cj
  ·rcases cK hk with⟨rfl,_⟩|⟨n2,e2⟩
   ·rw[c] at ck;cases ck
   ·rw[Zf n1] at sj
    rw[Zf n2] at sk
    exact r.dis j k w w' a cj ck ne e1 e2 sj sk
 mu:=r.mu
 sup:=r.sup
 out:=r.out
 bas:=r.bas
 io0:=fun h0=>by
  obtain⟨a,b⟩:=r.io0 h0
  refine⟨?_,b⟩
  have:i≠0:=fun z=>by subst z;rw[b] at c;cases c
  rw[Zf this];exact a
 len:=by rw[Z8,Z8];exact r.len
theorem cE.drop (r:cE K G Z A ρ σ H)(i:Nat):cE K G Z A (ρ.set i none) σ H where
 slot:=fun j w hj=>by
  rcases cK hj with⟨rfl,e⟩|⟨ne,e⟩
  ·cases e
  ·exact r.slot j w e
 dis:=fun j k w w' a cj ck ne hj hk sj sk=>by
  rcases cK hj with⟨rfl,e⟩|⟨n1,e1⟩
  ·cases e
  ·rcases cK hk with⟨rfl,e⟩|⟨n2,e2⟩
   ·cases e
   ·exact r.dis j k w w' a cj ck ne e1 e2 sj sk
 mu:=r.mu
 sup:=r.sup
 out:=r.out
 bas:=r.bas
 io0:=r.io0
 len:=by rw[Z8];exact r.len
theorem cE.setO (r:cE K G Z A ρ σ H)(c:G.is i=true)(hi:G.io=true→i≠0)(na:¬A a)(nb:Z.B a=none)(r':cE K G Z (fun b=>A b∨b=a) ρ σ H)(h:i8 K H (fun b=>A b∨b=a) u a) :
  cE K G Z (fun b=>A b∨b=a) (ρ.set i (some u)) (σ.set i (some (.ref a))) H where
 slot:=fun j w hj=>by
  rcases cK hj with⟨rfl,e⟩|⟨ne,e⟩
  ·cases e
   refine⟨.ref a,oE (l':=σ) r.len hj,?_⟩
   rw[if_pos c];exact⟨a,rfl,.inr rfl,nb,.inl fun z=>na (r.sup a z),h⟩
  ·rw[Zf ne]
   exact r'.slot j w e
 dis:=fun j k w w' b cj ck ne hj hk sj sk=>by
  have key:∀k w',G.is k=true→i≠k→ρ[k]? = some (some w')→σ[k]? ≠ some (some (.ref a)):=fun k w' ck _ e q=>by
   obtain⟨b,h1,h2,_⟩:=r.own ck e
   rw[h1] at q;cases q;exact na h2
  rcases cK hj with⟨rfl,e1⟩|⟨n1,e1⟩
  ·rcases cK hk with⟨rfl,_⟩|⟨n2,e2⟩
   ·exact ne rfl
   ·rw[oE (l':=σ) r.len hj] at sj
    cases sj
    rw[Zf n2] at sk
    exact key k w' ck n2 e2 sk
  ·rcases cK hk with⟨rfl,e2⟩|⟨n2,e2⟩
   ·rw[oE (l':=σ) r.len hk] at sk
    cases sk
    rw[Zf n1] at sj
    exact key j w cj n1 e1 sj
   ·rw[Zf n1] at sj
    rw[Zf n2] at sk
    exact r.dis j k w w' b cj ck ne e1 e2 sj sk
 mu:=r'.mu
 sup:=r'.sup
 out:=r'.out
 bas:=r'.bas
 io0:=fun h0=>by
  obtain⟨a,b⟩:=r.io0 h0
  exact⟨by rw[Zf (hi h0)];exact a,b⟩
 len:=by rw[Z8,Z8];exact r.len
theorem cE.free (r:cE K G Z A ρ σ H)(c:G.is i=true)(hi:G.io=true→i≠0)(h:ρ[i]? = some (some u)):∃a A',σ[i]? = some (some (.ref a))∧cE K G Z A' (ρ.set i none) σ H∧Rp K H A' u (.ref a):=by
 obtain⟨a,h1,h2,h3,h4,h5⟩:=r.own c h
 have na:¬Z.A0 a:=by
  rcases h4 with h4|⟨h4,h6⟩
  ·exact h4
  ·exact absurd h6 (hi h4)
 have sub:∀b,(A b∧b≠a)→A b:=fun b z=>z.1
 refine⟨a,fun b=>A b∧b≠a,h1,?_,h5.rp sub fun z=>z.2 rfl⟩
 exact {
  slot:=fun j w hj=>by
   rcases cK hj with⟨rfl,e⟩|⟨ne,e⟩
   ·cases e
   ·obtain⟨v,s1,s2⟩:=r.slot j w e
    refine⟨v,s1,?_⟩
    by_cases cj:G.is j=true
    ·rw[if_pos cj] at s2 ⊢
     obtain⟨b,e1,e2,e3,e4,e5⟩:=s2
     refine⟨b,e1,⟨e2,fun z => ?_⟩,e3,e4,e5.mono sub⟩
     subst z e1
     exact r.dis i j u w b c cj ne h e h1 s1
    ·rw[if_neg cj] at s2 ⊢
     exact s2.mono sub
  dis:=(r.drop i).dis
  mu:=fun b z=>r.mu b z.1
  sup:=fun b z=>⟨r.sup b z,fun e=>na (e▸z)⟩
  out:=fun b z=>r.out b z.1
  bas:=r.bas
  io0:=r.io0
  len:=by rw[Z8];exact r.len}
theorem cE.put (r:cE K G Z A ρ σ H){w:U}(c:G.is i=true)(h:ρ[i]? = some (some u))(ha:σ[i]? = some (some (.ref a)))(e:∀b o,b≠a→H b=some o→H' b=some o)(t:i8 K H' A w a) :
  cE K G Z A (ρ.set i (some w)) σ H':=by
 obtain⟨a',h1,h2,h3,h4,h5⟩:=r.own c h
 rw[ha] at h1;cases h1
 have x:ej A H H':=fun b o nb z=>e b o (fun q=>nb (q▸h2)) z
 exact {
  slot:=fun j y hj=>by
   rcases cK hj with⟨rfl,q⟩|⟨ne,q⟩
   ·cases q
    refine⟨.ref a,ha,?_⟩
    rw[if_pos c]
    exact⟨a,rfl,h2,h3,h4,t⟩
   ·obtain⟨v,s1,s2⟩:=r.slot j y q
    refine⟨v,s1,?_⟩
    by_cases cj:G.is j=true
    ·rw[if_pos cj] at s2 ⊢
     obtain⟨b,e1,e2,e3,e4,e5⟩:=s2
     refine⟨b,e1,e2,e3,e4,e5.re r.mu x (fun b z=>.inl z) fun o z=>e b o (fun q' => ?_) z⟩
     subst q' e1
     exact r.dis i j u y b c cj ne h q ha s1
    ·rw[if_neg cj] at s2 ⊢
     exact s2.re r.mu x fun b z=>.inl z
  dis:=fun j k y y' b cj ck ne hj hk sj sk=>by
   have f:∀j y,(ρ.set i (some w))[j]? = some (some y)→∃y',ρ[j]? = some (some y'):=fun j y hj=>by
    rcases cK hj with⟨rfl,q⟩|⟨ne,q⟩
    ·exact⟨u,h⟩
    ·exact⟨y,q⟩
   obtain⟨y1,hj⟩:=f j y hj
   obtain⟨y2,hk⟩:=f k y' hk
   exact r.dis j k y1 y2 b cj ck ne hj hk sj sk
  mu:=fun b z=>by
   by_cases q:b=a
   ·subst q;exact t.mu
   ·have m:=r.mu b z
    obtain⟨o,z⟩:=m.ex
    rw[e b o q z,←z];exact m
  sup:=r.sup
  out:=r.out
  bas:=fun b o z=>e b o (fun q=>by subst q;rw[h3] at z;cases z) (r.bas b o z)
  io0:=r.io0
  len:=by rw[Z8];exact r.len}
end
noncomputable def Gu (K:Yy)(m:Md)(A:YM→Prop)(H:Hp):R U→VK→Prop
 | .ok u,Q=>∀v H',aH H H'→Cc K m A H H' u v→Q v H'
 |_,_=>False
noncomputable def u9 {α:Type}(n:Nat)(g:List U→R α)(us:List U):R α:=if us.length=n then g us else .stk
noncomputable def iq (K:Yy)(n:Nat)(f:List U→R U)(m:Md):Sp:=fun vs H Q _=>∃us A,az K H A us vs∧(∀a,A a→Mu (H a))∧Gu K m A H (u9 n f us) Q
noncomputable def CZ (K:Yy)(n:Nat)(f:List U→R (U×U)):Sp:=fun vs H Q _=>∃u0 us a0 vs' A,vs=.ref a0::vs'∧A a0∧i8 K H A u0 a0∧az K H A us vs'∧(∀a,A a→Mu (H a))∧match u9 n f (u0::us) with
 | .ok (u,w)=>∀v H',(∀b o,b≠a0→H b=some o→H' b=some o)→i8 K H' A w a0→Rp K H' A u v→Q v H'
 |_=>False
section
variable {e a b:aav}{es rest:List aav}{p1:Pos}{b1 b2 b3:Bool}{m1 m2 m3 mr:Md}{g1 g2 g3:Ev→R (U×Ev)}{h1 h2:Ev→R (Bool×Ev)}{ga:Ev→R (List U×Ev)}
noncomputable def fF (n:Nat)(f:List U→R U)(ga:Ev→R (List U×Ev)):Ev→R (U×Ev):=fun ρ=>(ga ρ).bind fun x=>(u9 n f x.1).bind fun z=>.ok (z,x.2)
theorem aP {f:List U→R U}(F:Fn X.prog X.w X.K X.mg X.base x k ps (iq X.K n f mr))(hr:ez k X.A)(ha:DA X G (e::es) b1 false ga)(hg:Gl X x:=by rfl)(uX:(x==("__debug__":Str))=false:=by decide)(he:YF (e::es) X.env=(false,abE e X.env)::YF es X.env:=by rfl)(jR:(aaQ pos (YF es X.env)).any (·.1)=false:=by rfl):DE X G (.Call (.Name x p1) (e::es) [] pos) b1 mr (fF n f ga):=⟨(vt F hr ha.un hg uX he jR).to fun σ H Q h=>by
 obtain⟨Z,A,ρ,q,f⟩:=h
 obtain⟨⟨us,ρ1⟩,e1,f⟩:=f.bind
 obtain⟨z,e2,f⟩:=f.bind
 refine⟨Z,A,ρ,q,?_⟩
 rw[e1]
 intro vs H1 q1 x1 s1 qY
 show iq _ _ _ _ _ _ _ _
 rw[Zb]
 refine⟨us,A,qY.rps,q1.mu,?_⟩
 dsimp only at e2
 rw[e2]
 exact fun v H' sm vm=>f v H' (q1.same sm) (x1.trans (ej.same sm)) (nX s1 sm) (vm.e q1 sm)⟩
noncomputable def C0 (ρ:Ev)(i:Nat):Bool:=match ρ[i]? with
 |some (some _)=>true
 |_=>false
theorem tM (h:C0 ρ i=true):∃u,ρ[i]? = some (some u):=by
 unfold C0 at h
 split at h
 ·rename_i u hu;exact⟨u,hu⟩
 ·cases h
noncomputable def pF (n i:Nat)(f:List U→R (U×U))(ga:Ev→R (List U×Ev)):Ev→R (U×Ev):=fun ρ=>if C0 ρ i=true then (ga ρ).bind fun x=>match x.2[i]? with
 |some (some u0)=>(u9 n f (u0::x.1)).bind fun z=>.ok (z.1,x.2.set i (some z.2))
 |_=>.stk
 else .stk
theorem cM {y:Str}{f:List U→R (U×U)}(F:Fn X.prog X.w X.K X.mg X.base x k ps (CZ X.K n f))(hr:ez k X.A)(ha:DA X G es b1 false ga)(hN:X.N[i]? = some y:=by rfl)(hv:yZ X.env.scope y:=by first|exact Or.inl rfl|exact Or.inr (Or.inl rfl)|exact Or.inr (Or.inr rfl))(c:G.is i=true:=by rfl)(hd:(y==("__debug__":Str))=false:=by decide)(iP:(y==("__classdict__":Str))=false:=by decide)(hs:YF (.Name y p2::es) X.env=(false,abE (.Name y p2) X.env)::YF es X.env:=by rfl)(hg:Gl X x:=by rfl)(uX:(x==("__debug__":Str))=false:=by decide)(jR:(aaQ pos (YF es X.env)).any (·.1)=false:=by rfl):DE X G (.Call (.Name x p1) (.Name y p2::es) [] pos) true .S (pF n i f ga):=⟨(vt F hr (aL (fq hN hv hd iP) ha.un hs) hg uX hs jR).to fun σ H Q h=>by
 obtain⟨Z,A,ρ,q,f⟩:=h
 unfold pF at f
 split at f
 ·rename_i hl
  obtain⟨u00,hu0⟩:=tM hl
  obtain⟨a0,h0,_⟩:=q.own c hu0
  obtain⟨⟨us,ρ1⟩,e1,f⟩:=f.bind
  dsimp only at f
  split at f
  ·rename_i u0 hu
   obtain⟨⟨z,w⟩,e2,f⟩:=f.bind
   refine⟨.ref a0,h0,Z,A,ρ,q,?_⟩
   rw[e1]
   intro vs H1 q1 x1 s1 qY
   obtain⟨a0',k1,k2,_,_,k3⟩:=q1.own c hu
   rw[h0] at k1;cases k1
   show CZ _ _ _ _ _ _ _
   rw[Zb]
   refine⟨u0,us,a0,vs,A,rfl,k2,k3,qY.rps,q1.mu,?_⟩
   rw[e2]
   intro v H' em tp rp
   exact f v H' (q1.put c hu h0 em tp) (x1.trans fun b o nb z=>em b o (fun y=>nb (y▸k2)) z) (fun z=>nomatch z) rp
  ·exact f.elim
 ·exact f.elim⟩
noncomputable def Gv (K:Yy)(T:String)(r:V→List V→Hp→VK→Prop)(p:U→List U→R (U×U)):Prop:=∀A H a u vs us z w Q,i8 K H A u a→A a→az K H A us vs→(∀a,A a→Mu (H a))→p u us=.ok (z,w) →
 (∀v H',(∀b o,b≠a→H b=some o→H' b=some o)→i8 K H' A w a→Rp K H' A z v→Q v H')→r (.ref a) vs H Q
noncomputable def Bj:U→String→Bool
 | .lst _,T=>T=="list"
 |_,_=>false
theorem KU {a:YM}{T:String}(h:i8 K H A u a)(t:Bj u T=true):QD K T (.ref a) H:=by
 cases u<;>(unfold Bj at t;unfold i8 at h)
 case lst us =>
  obtain⟨xs,q,_⟩:=h
  exact .inl ⟨by simpa using t,xs,.inl (.inl q)⟩
 all_goals cases t
noncomputable def gM (T:String)(i:Nat)(p:U→List U→R (U×U))(ga:Ev→R (List U×Ev)):Ev→R (U×Ev):=fun ρ=>match ρ[i]? with
 |some (some u1)=>if Bj u1 T=true then (ga ρ).bind fun x=>match x.2[i]? with
  |some (some u0)=>(p u0 x.1).bind fun z=>.ok (z.1,x.2.set i (some z.2))
  |_=>.stk
  else .stk
 |_=>.stk
theorem C1 {T:String}{r:V→List V→Hp→VK→Prop}{p:U→List U→R (U×U)}(hp:Gv X.K T r p)(c:G.is i=true){Q:VK}(h:tD X.K G true .S (gM T i p ga) σ H Q) :
  UL X.K T r (FK i) (QJ X.K G b1 false ga) σ H Q:=by
 obtain⟨Z,A,ρ,q,f⟩:=h
 unfold gM at f
 split at f
 ·rename_i u1 qP
  split at f
  ·rename_i ht
   obtain⟨a0,h0,_,_,_,t0⟩:=q.own c qP
   obtain⟨⟨us,ρ1⟩,e1,f⟩:=f.bind
   dsimp only at f
   split at f
   ·rename_i u0 hu
    obtain⟨⟨z,w⟩,e2,f⟩:=f.bind
    refine⟨.ref a0,h0,KU t0 ht,Z,A,ρ,q,?_⟩
    rw[e1]
    intro vs H1 q1 x1 s1 qY
    obtain⟨a0',k1,k2,_,_,k3⟩:=q1.own c hu
    rw[h0] at k1;cases k1
    exact hp A H1 a0 u0 vs us z w Q k3 k2 qY.rps q1.mu e2 fun v H' em tp rp=>f v H' (q1.put c hu h0 em tp) (x1.trans fun b o nb z=>em b o (fun y=>nb (y▸k2)) z) (fun z=>nomatch z) rp
   ·exact f.elim
  ·exact f.elim
 ·exact f.elim
theorem pG {T id:String}{y name:Str}{dw:Pos}{r:V→List V→Hp→VK→Prop}{p:U→List U→R (U×U)}(pa:PlainAttrs T)(slot:Slot T name id)(Rv:typeOf (.builtin id)=pure (.type "method_descriptor"))(hm:Fz X id r)(hp:Gv X.K T r p)(ha:DA X G (e::es) b1 false ga)(hN:X.N[i]? = some y:=by rfl)(hv:yZ X.env.scope y:=by first|exact Or.inl rfl|exact Or.inr (Or.inl rfl)|exact Or.inr (Or.inr rfl))(c:G.is i=true:=by rfl)(hd:(y==("__debug__":Str))=false:=by decide)(iP:(y==("__classdict__":Str))=false:=by decide)(Fi:ac9 (.Name y p2) name X.env (abE (.Name y p2) X.env)=abE (.Name y p2) X.env:=by rfl)(Mj:((aaQ pos (YF (e::es) X.env)).all (fun x => !x.1)&&(backToKw pos (keywordEach [] X.env)).all (fun x=>x.1.isSome)
   && decide ((e::es).length+([]:List adV).length+(if ([]:List adV).isEmpty then 0 else 1)<30))=true:=by rfl)(Fj:(dw.endLine==pos.line)=true:=by rfl)(hs:YF (e::es) X.env=(false,abE e X.env)::YF es X.env:=by rfl)(yQ:(aaQ pos (YF es X.env)).any (·.1)=false:=by rfl) :
  DE X G (.Call (.Attribute (.Name y p2) name dw) (e::es) [] pos) true .S (gM T i p ga):=⟨(CB pa slot Rv hm (fq hN hv hd iP) ha.un Fi Mj Fj hs yQ).to fun _ _ _=>C1 hp c⟩
noncomputable def C2 (K:Yy)(r:V→Option Int→Option Int→Hp→VK→Prop)(m:Md)(p:U→Option Int→Option Int→R U):Prop:=∀A H x u lo hi z Q,Pk K H A u x→(∀a,A a→Mu (H a))→p u lo hi=.ok z→(∀v H',aH H H'→Cc K m A H H' z v→Q v H')→r x lo hi H Q
noncomputable def QL (K:Yy)(G:Gm)(Z:Pkg)(A:YM→Prop)(b:Bool)(ρ:Ev)(σ:St)(H:Hp):R (Option Int×Ev)→(Option Int→Hp→Prop)→Prop
 | .ok (c,ρ'),Q=>∀H',cE K G Z A ρ' σ H'→ej A H H'→(b=false→ρ'=ρ∧aH H H')→Q c H'
 |_,_=>False
noncomputable def VP (K:Yy)(G:Gm)(b:Bool)(g:Ev→R (Option Int×Ev)):TO:=fun σ H Q=>∃Z A ρ,cE K G Z A ρ σ H∧QL K G Z A b ρ σ H (g ρ) Q
structure DO (X:Cx)(G:Gm)(e:Option aav)(b:Bool)(g:Ev→R (Option Int×Ev)):Prop where
 un:PO X e (VP X.K G b g)
noncomputable def cI:Ev→R (Option Int×Ev):=fun ρ=>.ok (none,ρ)
noncomputable def bW (g:Ev→R (U×Ev)):Ev→R (Option Int×Ev):=fun ρ=>(g ρ).bind fun x=>match x.1 with
 | .int i=>.ok (some i,x.2)
 |_=>.stk
theorem PO.to {e:Option aav}{t t':TO}(h:PO X e t)(i:∀σ H Q,t' σ H Q→t σ H Q):PO X e t':=fun pins s σ H Q I q=>h pins s σ H Q I (i _ _ _ q)
theorem dM:DO X G none false cI:=⟨F3.to fun σ H Q ⟨Z,A,ρ,q,f⟩=>f H q ej.refl fun _=>⟨rfl,aH.refl _⟩⟩
theorem cY (h:DE X G e b1 m1 g1):DO X G (some e) b1 (bW g1):=⟨(F4 h.un).to fun σ H Q h00=>by
 obtain⟨Z,A,ρ,q,f⟩:=h00
 refine⟨Z,A,ρ,q,?_⟩
 unfold bW at f
 cases e1:g1 ρ with
 |stk=>rw[e1] at f;exact f.elim
 |exc=>rw[e1] at f;exact f.elim
 |ok x =>
  obtain⟨u,ρ1⟩:=x
  rw[e1] at f
  intro v H1 q1 x1 s1 vm
  cases u with
  |int c=>exact⟨c,vm.pk.int,f H1 q1 x1 s1⟩
  |_=>exact f.elim⟩
noncomputable def kP (p:U→Option Int→Option Int→R U)(g:Ev→R (U×Ev))(lo hi:Ev→R (Option Int×Ev)):Ev→R (U×Ev):=fun ρ=>(g ρ).bind fun x=>(lo x.2).bind fun l=>(hi l.2).bind fun h=>(p x.1 l.1 h.1).bind fun z=>.ok (z,h.2)
theorem cx {r:V→Option Int→Option Int→Hp→VK→Prop}{p:U→Option Int→Option Int→R U}{lo hi:Option aav}{gl gh:Ev→R (Option Int×Ev)}(hr:Cy X r)(hp:C2 X.K r mr p)(he:DE X G e b1 m1 g1)(hl:DO X G lo b2 gl)(hu:DO X G hi b3 gh)(hm:m1=.P→(b2||b3)=false:=by first|exact fun _=>rfl|exact fun h=>nomatch h):DE X G (.Subscript e (.Slice lo hi none p2) pos) (b1||(b2||b3)) mr (kP p g1 gl gh):=⟨(Cz hr he.un hl.un hu.un).to fun σ H Q h=>by
 obtain⟨Z,A,ρ,q,f⟩:=h
 obtain⟨⟨u,ρ1⟩,e1,f⟩:=f.bind
 obtain⟨⟨l,ρ2⟩,e2,f⟩:=f.bind
 obtain⟨⟨h,ρ3⟩,e3,f⟩:=f.bind
 obtain⟨z,e4,f⟩:=f.bind
 dsimp only at e2 e3 e4 f
 refine⟨Z,A,ρ,q,?_⟩
 rw[e1]
 intro v1 H1 q1 x1 s1 qY
 refine⟨Z,A,ρ1,q1,?_⟩
 rw[e2]
 intro H2 q2 x2 s2
 refine⟨Z,A,ρ2,q2,?_⟩
 rw[e3]
 intro H3 q3 x3 s3
 exact hp A H3 v1 u l h z Q (qY.later q1 (x2.trans x3) (two s2 s3) hm) q3.mu e4 fun v H' sm vm=>f v H' (q3.same sm) ((x1.trans (x2.trans x3)).trans (ej.same sm)) (nX (two s1 (two s2 s3)) sm) (vm.e q3 sm)⟩
end
end L2
namespace L2
noncomputable def QM (K:Yy)(G:Gm)(sg:U→Ev→R Ev):TG:=fun v σ H Q=>∃Z A ρ u,cE K G Z A ρ σ H∧Rp K H A u v∧match sg u ρ with
 | .ok ρ'=>∀σ',cE K G Z A ρ' σ' H→(∀i,G.is i=true→σ'[i]? = σ[i]?)→Q σ' H
 |_=>False
structure DG (X:Cx)(G:Gm)(tg:aav)(sg:U→Ev→R Ev):Prop where
 un:PG X tg (QM X.K G sg)
noncomputable def QN (K:Yy)(G:Gm)(sg:List U→Ev→R Ev):FP:=fun vs σ H Q=>∃Z A ρ us,cE K G Z A ρ σ H∧az K H A us vs∧match sg us ρ with
 | .ok ρ'=>∀σ',cE K G Z A ρ' σ' H→(∀i,G.is i=true→σ'[i]? = σ[i]?)→Q σ' H
 |_=>False
structure Px (X:Cx)(G:Gm)(tgs:List aav)(sg:List U→Ev→R Ev):Prop where
 un:Ie X tgs (QN X.K G sg)
noncomputable def cF (i:Nat):U→Ev→R Ev:=fun u ρ=>.ok (ρ.set i (some u))
noncomputable def d_:List U→Ev→R Ev:=fun us ρ=>match us with
 | []=>.ok ρ
 |_=>.stk
noncomputable def aT (s:U→Ev→R Ev)(t:List U→Ev→R Ev):List U→Ev→R Ev:=fun us ρ=>match us with
 |u::r=>(s u ρ).bind fun ρ1=>t r ρ1
 |_=>.stk
noncomputable def ed (n:Nat)(t:List U→Ev→R Ev):U→Ev→R Ev:=fun u ρ=>match u with
 | .tup us=>if us.length=n then t us ρ else .stk
 |_=>.stk
theorem Ie.to {es:List aav}{t t':FP}(h:Ie X es t)(i:∀v σ H Q,t' v σ H Q→t v σ H Q):Ie X es t':=fun pins s σ H v u Q I r q=>h pins s σ H v u Q I r (i _ _ _ _ q)
theorem aM (hN:X.N.Nodup)(hi:X.N[i]? = some x:=by rfl)(hx:Ic X.env.scope x:=by first|exact Or.inl rfl|exact Or.inr rfl)(c:G.is i=false:=by rfl)(hf:X.fn x=true∨X.env.scope.names.lookup x=some .local:=by first|exact .inl rfl|exact .inr rfl|assumption):DG X G (.Name x pos) (cF i):=⟨(FQ hN hi hx hf).to fun v σ H Q ⟨Z,A,ρ,u,q,r,f⟩=>f _ (q.set c r) fun j cj=>by
  have:i≠j:=fun z=>by subst z;rw[c] at cj;cases cj
  rw[Zf this]⟩
theorem gz:Px X G [] d_:=⟨FR.to fun vs σ H Q h00=>by
 obtain⟨Z,A,ρ,us,q,r,f⟩:=h00
 unfold d_ at f
 cases us with
 |nil=>unfold az at r;exact⟨r,f σ q fun _ _=>rfl⟩
 |cons=>exact f.elim⟩
theorem bQ {e:aav}{es:List aav}{s:U→Ev→R Ev}{t:List U→Ev→R Ev}(h1:DG X G e s)(h2:Px X G es t)
  (hs:(abz (e::es) X.env).map (·.2)=assign e X.env::(abz es X.env).map (·.2):=by rfl):Px X G (e::es) (aT s t):=⟨(Cp h1.un h2.un hs).to fun vs σ H Q h00=>by
 obtain⟨Z,A,ρ,us,q,r,f⟩:=h00
 unfold aT at f
 cases us with
 |nil=>exact f.elim
 |cons u us =>
  unfold az at r
  obtain⟨v,vr,rfl,r1,r2⟩:=r
  dsimp only at f
  refine⟨v,vr,rfl,Z,A,ρ,u,q,r1,?_⟩
  cases e1:s u ρ with
  |ok ρ1 =>
   rw[e1] at f
   simp only[R.bind] at f
   intro σ1 q1 o1
   refine⟨Z,A,ρ1,us,q1,r2,?_⟩
   cases e2:t us ρ1 with
   |ok ρ2=>rw[e2] at f;exact fun σ2 q2 o2=>f σ2 q2 fun i c=>(o2 i c).trans (o1 i c)
   |exc=>rw[e2] at f;exact f.elim
   |stk=>rw[e2] at f;exact f.elim
  |exc=>rw[e1] at f;exact f.elim
  |stk=>rw[e1] at f;exact f.elim⟩
theorem i_ {es:List aav}{t:List U→Ev→R Ev}(hc:X.calm=true)(h:Px X G es t)(hn:(abz es X.env).length=n:=by rfl)(fN:(abz es X.env).findIdx? (·.1)=none:=by rfl):DG X G (.Tuple es k pos) (ed n t):=⟨(Kb hc h.un hn fN).to fun v σ H Q h00=>by
 obtain⟨Z,A,ρ,u,q,r,f⟩:=h00
 unfold ed at f
 cases u with
 |tup us =>
  unfold Rp at r
  obtain⟨a,xs,rfl,sq,l,rs⟩:=r
  dsimp only at f
  by_cases hl:us.length=n
  ·rw[if_pos hl] at f
   exact⟨a,xs,rfl,fR.of sq,by rw[←rs.length];exact hl,Z,A,ρ,us,q,rs,f⟩
  ·rw[if_neg hl] at f;exact f.elim
 |_=>exact f.elim⟩
noncomputable def VQ (K:Yy)(Z:Pkg)(m:Md)(H:Hp)(u:U)(v:V):Prop:=match m with
 | .S=>Rp K H Z.A0 u v
 | .O=>∃a,v=.ref a∧Z.B a=none∧¬Z.A0 a∧i8 K H (fun b=>Z.A0 b∨b=a) u a
 | .P=>False
noncomputable def pH (K:Yy)(G:Gm)(Z:Pkg)(m:Md):SR→j3→Prop
 | .nx ρ',D=>∀A' σ' H',cE K G Z A' ρ' σ' H'→D.nx σ' H'
 | .bk ρ',D=>∀A' σ' H',cE K G Z A' ρ' σ' H'→D.bk σ' H'
 | .ct ρ',D=>∀A' σ' H',cE K G Z A' ρ' σ' H'→D.ct σ' H'
 | .rt u ρ',D=>∀A' σ' H' v,cE K G Z A' ρ' σ' H'→VQ K Z m H' u v→D.rt v H'
 | .exc _ _,_=>∀H',(∀a o,Z.B a=some o→H' a=some o)→G.W H'
 | .stk,_=>False
noncomputable def KW (K:Yy)(G:Gm)(m:Md)(g:Ev→SR):TS:=fun D σ H=>∃Z A ρ,cE K G Z A ρ σ H∧pH K G Z m (g ρ) D
structure DS (X:Cx)(G:Gm)(m:Md)(st:adh)(g:Ev→SR):Prop where
 un:PS X st (KW X.K G m g)
structure xm (X:Cx)(G:Gm)(m:Md)(st:List adh)(g:Ev→SR):Prop where
 un:mV X st (KW X.K G m g)
noncomputable def dO:Ev→SR:=.nx
noncomputable def aN (g1 g2:Ev→SR):Ev→SR:=fun ρ=>match g1 ρ with
 | .nx ρ'=>g2 ρ'
 |r=>r
noncomputable def SR.of {α:Type}:R α→(α→SR)→SR
 | .ok a,f=>f a
 |_,_=>.stk
section
variable {m:Md}{α:Type}
theorem pH.of {x:R α}{k:α→SR}{D:j3}(f:pH K G Z m (SR.of x k) D):∃a,x=.ok a∧pH K G Z m (k a) D:=by
 cases x with
 |ok a=>exact⟨a,rfl,f⟩
 |exc=>exact f.elim
 |stk=>exact f.elim
end
section
variable {e a b:aav}{Mh rest:List adh}{es:List aav}{p1:Pos}{b1 b2 b3:Bool}{m m1 m2 m3 mr:Md}{g1 g2 g3:Ev→R (U×Ev)}{h1 h2:Ev→R (Bool×Ev)}{ga:Ev→R (List U×Ev)}{s1 s2:Ev→SR}
theorem cy:xm X G m [] dO:=⟨oz.to fun D σ H ⟨Z,A,ρ,q,f⟩=>f A σ H q⟩
theorem ar (h:DS X G m st s1):xm X G m [st] s1:=⟨ir h.un⟩
theorem ai (ha:DS X G m st s1)(hb:xm X G m rest s2):xm X G m (st::rest) (aN s1 s2):=⟨(eo ha.un hb.un).to fun D σ H h00=>by
 obtain⟨Z,A,ρ,q,f⟩:=h00
 refine⟨Z,A,ρ,q,?_⟩
 unfold aN at f
 cases e:s1 ρ with
 |nx ρ1=>rw[e] at f;exact fun A1 σ1 H1 q1=>⟨Z,A1,ρ1,q1,f⟩
 |rt=>rw[e] at f;exact f
 |bk=>rw[e] at f;exact f
 |ct=>rw[e] at f;exact f
 |exc=>rw[e] at f;exact f
 |stk=>rw[e] at f;exact f⟩
noncomputable def KY:Ev→SR:=.bk
noncomputable def NQ:Ev→SR:=.ct
noncomputable def gZ (g:Ev→R (U×Ev)):Ev→SR:=fun ρ=>SR.of (g ρ) fun x=>.nx x.2
theorem oF (h:DE X G e b1 m1 g1)(hs:adj e none pos.line X.env=pure false:=by rfl):DS X G m (.Expr e pos) (gZ g1):=⟨(FO h.un hs).to fun D σ H h00=>by
 obtain⟨Z,A,ρ,q,f⟩:=h00
 obtain⟨⟨u,ρ1⟩,e1,f⟩:=f.of
 refine⟨Z,A,ρ,q,?_⟩
 rw[e1]
 exact fun v H1 q1 _ _ _=>f A σ H1 q1⟩
noncomputable def cz (g:Ev→R (U×Ev)):Ev→SR:=fun ρ=>SR.of (g ρ) fun x=>.rt x.1 x.2
theorem bz (h:DE X G e b1 m1 g1)(hn:m1≠.P:=by decide):DS X G .S (.Return (some e) pos) (cz g1):=⟨(j4 h.un).to fun D σ H h00=>by
 obtain⟨Z,A,ρ,q,f⟩:=h00
 obtain⟨⟨u,ρ1⟩,e1,f⟩:=f.of
 refine⟨Z,A,ρ,q,?_⟩
 rw[e1]
 exact fun v H1 q1 _ _ vm=>f A σ H1 v q1 ((vm.rp hn).mono q1.sup)⟩
theorem tN (h:DE X G e b1 .O g1):DS X G .O (.Return (some e) pos) (cz g1):=⟨(j4 h.un).to fun D σ H h00=>by
 obtain⟨Z,A,ρ,q,f⟩:=h00
 obtain⟨⟨u,ρ1⟩,e1,f⟩:=f.of
 refine⟨Z,A,ρ,q,?_⟩
 rw[e1]
 intro v H1 q1 _ _ vm
 obtain⟨a,rfl,na,nb,_,t⟩:=vm
 exact f A σ H1 _ q1 ⟨a,rfl,nb,fun z=>na (q1.sup a z),t.mono fun b z=>z.imp (q1.sup b) id⟩⟩
theorem zh (hm:m≠.P:=by decide)(hi:G.io=true→i≠0)(hN:X.N[i]? = some x:=by rfl)(hv:yZ X.env.scope x:=by first|exact Or.inl rfl|exact Or.inr (Or.inl rfl)|exact Or.inr (Or.inr rfl))(hd:(x==("__debug__":Str))=false:=by decide)(iP:(x==("__classdict__":Str))=false:=by decide)(c:G.is i=true:=by rfl):DS X G m (.Return (some (.Name x p1)) pos) (cz (ae i)):=⟨(j4 (fq hN hv hd iP)).to fun D σ H h00=>by
 obtain⟨Z,A,ρ,q,f⟩:=h00
 obtain⟨⟨u,ρ1⟩,e1,f⟩:=f.of
 unfold ae at e1
 split at e1
 ·rename_i u' hu
  cases e1
  obtain⟨a,h1,h2,h3,h4,h5⟩:=q.own c hu
  have na:¬Z.A0 a:=by
   rcases h4 with h4|⟨h4,h6⟩
   ·exact h4
   ·exact absurd h6 (hi h4)
  refine⟨.ref a,h1,f A σ H _ q ?_⟩
  cases m with
  |S=>exact h5.rp q.sup na
  |O=>exact⟨a,rfl,h3,na,h5.mono fun b z=>by
    rcases z with z|z
    ·exact q.sup b z
    ·subst z;exact h2⟩
  |P=>exact absurd rfl hm
 ·cases e1⟩
noncomputable def bj (i:Nat)(g:Ev→R (U×Ev)):Ev→SR:=fun ρ=>SR.of (g ρ) fun x=>.nx (x.2.set i (some x.1))
theorem C3 (c:G.is i=false)(hn:m1≠.P)(hi:∀σ H Q,tD X.K G b1 m1 g1 σ H Q→te σ H Q){D:j3}(h:KW X.K G m (bj i g1) D σ H):FT te (y4 i) D σ H:=by
 obtain⟨Z,A,ρ,q,f⟩:=h
 obtain⟨⟨u,ρ1⟩,e1,f⟩:=f.of
 refine hi _ _ _ ⟨Z,A,ρ,q,?_⟩
 rw[e1]
 exact fun v H1 q1 _ _ vm=>f A _ H1 (q1.set c (vm.rp hn))
theorem Bk (c:G.is i=true)(h0:G.io=true→i≠0)(hi:∀σ H Q,tD X.K G b1 .O g1 σ H Q→te σ H Q){D:j3}(h:KW X.K G m (bj i g1) D σ H):FT te (y4 i) D σ H:=by
 obtain⟨Z,A,ρ,q,f⟩:=h
 obtain⟨⟨u,ρ1⟩,e1,f⟩:=f.of
 refine hi _ _ _ ⟨Z,A,ρ,q,?_⟩
 rw[e1]
 intro v H1 q1 _ _ vm
 obtain⟨a,rfl,na,nb,r,t⟩:=vm
 exact f _ _ H1 (q1.setO c h0 na nb r t)
theorem bb (hN:X.N.Nodup)(h:DE X G e b1 m1 g1)(hi:X.N[i]? = some x:=by rfl)(hx:Ic X.env.scope x:=by first|exact Or.inl rfl|exact Or.inr rfl)(c:G.is i=false:=by rfl)(hn:m1≠.P:=by decide)(hs:adj e (some (.Name x p1)) pos.line X.env=pure false:=by rfl)(hf:X.fn x=true∨X.env.scope.names.lookup x=some .local:=by first|exact .inl rfl|exact .inr rfl|assumption):DS X G m (.Assign [.Name x p1] e pos) (bj i g1):=⟨(oY hN hi hx h.un hs hf).to fun _ _ _=>C3 c hn fun _ _ _ h=>h⟩
theorem eC (hN:X.N.Nodup)(h:DE X G e b1 .O g1)(h0:G.io=true→i≠0:=by decide)(hi:X.N[i]? = some x:=by rfl)(hx:Ic X.env.scope x:=by first|exact Or.inl rfl|exact Or.inr rfl)(c:G.is i=true:=by rfl)(hs:adj e (some (.Name x p1)) pos.line X.env=pure false:=by rfl)(hf:X.fn x=true∨X.env.scope.names.lookup x=some .local:=by first|exact .inl rfl|exact .inr rfl|assumption):DS X G m (.Assign [.Name x p1] e pos) (bj i g1):=⟨(oY hN hi hx h.un hs hf).to fun _ _ _=>Bk c h0 fun _ _ _ h=>h⟩
noncomputable def vy (i j:Nat):Ev→SR:=fun ρ=>match ρ[j]? with
 |some (some u)=>.nx ((ρ.set j none).set i (some u))
 |_=>.stk
theorem Gw {y:Str}(hN:X.N.Nodup)(h0:G.io=true→j≠0:=by decide)(hj:X.N[j]? = some y:=by rfl)(hv:yZ X.env.scope y:=by first|exact Or.inl rfl|exact Or.inr (Or.inl rfl)|exact Or.inr (Or.inr rfl))(hd:(y==("__debug__":Str))=false:=by decide)(iP:(y==("__classdict__":Str))=false:=by decide)(cj:G.is j=true:=by rfl)(hi:X.N[i]? = some x:=by rfl)(hx:Ic X.env.scope x:=by first|exact Or.inl rfl|exact Or.inr rfl)(c:G.is i=false:=by rfl)(hs:adj (.Name y p2) (some (.Name x p1)) pos.line X.env=pure false:=by rfl)(hf:X.fn x=true∨X.env.scope.names.lookup x=some .local:=by first|exact .inl rfl|exact .inr rfl|assumption):DS X G m (.Assign [.Name x p1] (.Name y p2) pos) (vy i j):=⟨(oY hN hi hx (fq hj hv hd iP) hs hf).to fun D σ H h00=>by
 obtain⟨Z,A,ρ,q,f⟩:=h00
 unfold vy at f
 split at f
 ·rename_i u hu
  obtain⟨a,A',h1,r,p⟩:=q.free cj h0 hu
  exact⟨.ref a,h1,f A' _ H (r.set c p)⟩
 ·exact f.elim⟩
noncomputable def QO (sg:U→Ev→R Ev)(g:Ev→R (U×Ev)):Ev→SR:=fun ρ=>SR.of (g ρ) fun x=>SR.of (sg x.1 x.2) .nx
noncomputable def Bl (i j:Nat)(ga:Ev→R (List U×Ev)):Ev→SR:=fun ρ=>SR.of (ga ρ) fun x=>match x.1 with
 | [u,w]=>.nx ((x.2.set i (some u)).set j (some w))
 |_=>.stk
theorem C4 {y:Str}{a b:aav}{px py pt:Pos}{kt k2 pt2}(hc:X.calm=true)(hN:X.N.Nodup)(ha:DA X G [a,b] b1 false ga)(hi:X.N[i]? = some x:=by rfl)(hj:X.N[j]? = some y:=by rfl)(rE:i≠j:=by decide)(hx:X.env.scope.names.lookup x=some .local:=by rfl)(hy:X.env.scope.names.lookup y=some .local:=by rfl)(ci:G.is i=false:=by rfl)(cj:G.is j=false:=by rfl)(hw:swappedStores [.Tuple [.Name x px,.Name y py] kt pt] (.Tuple [a,b] k2 pt2) X.env=pure (some [x,y]):=by rfl)(hs:swapsWithSole [.Tuple [.Name x px,.Name y py] kt pt] (.Tuple [a,b] k2 pt2) pos.line X.env=pure false:=by rfl) :
  DS X G m (.Assign [.Tuple [.Name x px,.Name y py] kt pt] (.Tuple [a,b] k2 pt2) pos) (Bl i j ga):=⟨(Ke hc hN hi hj rE hx hy ha.un hw hs).to fun D σ H h00=>by
 obtain⟨Z,A,ρ,q,f⟩:=h00
 obtain⟨⟨us,ρ1⟩,e1,f⟩:=f.of
 refine⟨Z,A,ρ,q,?_⟩
 rw[e1]
 intro vs H1 q1 _ _ vm
 dsimp only at f
 split at f
 ·rename_i u w
  have r:=vm.rps
  unfold az at r
  obtain⟨v,vr,rfl,r1,r2⟩:=r
  unfold az at r2
  obtain⟨v2,vr2,rfl,r3,r4⟩:=r2
  unfold az at r4
  subst r4
  exact⟨v,v2,rfl,f A _ H1 ((q1.set ci r1).set cj r3)⟩
 ·exact f.elim⟩
noncomputable def qW (h:Ev→R (Bool×Ev))(s1 s2:Ev→SR):Ev→SR:=fun ρ=>SR.of (h ρ) fun x=>if x.1=true then s1 x.2 else s2 x.2
theorem ff {a b:List adh}(hc:DT X G c b1 h1)(ha:xm X G m a s1)(hb:xm X G m b s2):DS X G m (.If c a b pos) (qW h1 s1 s2):=⟨(y3 hc.un ha.un hb.un).to fun D σ H h00=>by
 obtain⟨Z,A,ρ,q,f⟩:=h00
 obtain⟨⟨k,ρ1⟩,e1,f⟩:=f.of
 refine⟨Z,A,ρ,q,?_⟩
 rw[e1]
 intro H1 q1 _ _
 cases k with
 |true=>rw[if_pos rfl] at f ⊢;exact⟨Z,A,ρ1,q1,f⟩
 |false=>rw[if_neg Yq] at f ⊢;exact⟨Z,A,ρ1,q1,f⟩⟩
noncomputable def ft (h:Ev→R (Bool×Ev))(s:Ev→SR):Nat→Ev→SR
 |0,_=>.stk
 |n+1,ρ=>SR.of (h ρ) fun x=>if x.1=true then match s x.2 with
   | .nx ρ2=>ft h s n ρ2
   | .ct ρ2=>ft h s n ρ2
   | .bk ρ2=>.nx ρ2
   |r=>r
  else .nx x.2
theorem vz (hp:aeh (Y7 X.prog X.w) X.A X.env X.xe)(hc:DT X G c b1 h1)(hb:xm X G m body s1):DS X G m (.While c body [] pos) (ft h1 s1 n):=⟨(Cq hp hc.un hb.un).to fun D σ H h00=>by
 obtain⟨Z,A,ρ,q,f⟩:=h00
 refine⟨fun k σ H=>∃A ρ,cE X.K G Z A ρ σ H∧pH X.K G Z m (ft h1 s1 k ρ) D,⟨n,A,ρ,q,f⟩,?_⟩
 rintro k σ H ⟨A,ρ,q,f⟩
 cases k with
 |zero=>exact f.elim
 |succ k =>
  unfold ft at f
  obtain⟨⟨t,ρ1⟩,e1,f⟩:=f.of
  refine⟨Z,A,ρ,q,?_⟩
  rw[e1]
  intro H1 q1 _ _
  cases t with
  |false=>rw[if_neg Yq] at f ⊢;exact f A σ H1 q1
  |true =>
   rw[if_pos rfl] at f ⊢
   refine⟨fun σ H=>∃A ρ,cE X.K G Z A ρ σ H∧pH X.K G Z m (ft h1 s1 k ρ) D,fun σ' H' z=>⟨k,Nat.lt_succ_self k,z⟩,Z,A,ρ1,q1,?_⟩
   dsimp only at f
   cases e2:s1 ρ1 with
   |nx ρ2=>rw[e2] at f;exact fun A2 σ2 H2 q2=>⟨A2,ρ2,q2,f⟩
   |ct ρ2=>rw[e2] at f;exact fun A2 σ2 H2 q2=>⟨A2,ρ2,q2,f⟩
   |bk ρ2=>rw[e2] at f;exact f
   |rt=>rw[e2] at f;exact f
   |exc=>rw[e2] at f;exact f
   |stk=>rw[e2] at f;exact f⟩
end
end L2
namespace L2
noncomputable def Wk (K:Yy)(p:Bool)(A:YM→Prop)(us:List U)(J:It)(H1:Hp):Prop:=us.length≤Yx ∧
 ∀H A',(if p=true then aH H1 H else ej A H1 H)→(∀b,A' b→A b∨H1 b=none)→(∀(i:Nat) (u:U),us[i]? = some u→J.go i H∧∀x H',J.yld i H x H'→aH H H'∧Rp K H' A' u x)∧J.stop us.length H
noncomputable def Py (K:Yy)(G:Gm)(b p:Bool)(gi:Ev→R (List U×Ev)):TI:=fun σ H R=>∃Z A ρ,cE K G Z A ρ σ H∧match gi ρ with
 | .ok (us,ρ')=>∀J H1,cE K G Z A ρ' σ H1→ej A H H1→(b=false→ρ'=ρ∧aH H H1)→Wk K p A us J H1→R J H1
 |_=>False
structure DI (X:Cx)(G:Gm)(tg iter:aav)(b p:Bool)(gi:Ev→R (List U×Ev)):Prop where
 un:PI X tg iter (Py X.K G b p gi)
section
variable {e a b:aav}{es:List aav}{p1:Pos}{b1 b2 b3:Bool}{m m1 m2 m3 mr:Md}{g1 g2 g3:Ev→R (U×Ev)}{h1 h2:Ev→R (Bool×Ev)}{ga:Ev→R (List U×Ev)}{s1 s2:Ev→SR}
theorem PI.to {t t':TI}(h:PI X tg e t)(i:∀σ H Q,t' σ H Q→t σ H Q):PI X tg e t':=fun pins s σ H Q I q=>h pins s σ H Q I (i _ _ _ q)
theorem PI.or {t t':TI}(h:PI X tg e t)(h':PI X tg e t'):PI X tg e (fun σ H R=>t σ H R∨t' σ H R):=fun pins s σ H Q I q=>by
 rcases q with q|q
 ·exact h pins s σ H Q I q
 ·exact h' pins s σ H Q I q
noncomputable def NR:Md→Bool
 | .P=>true
 |_=>false
noncomputable def g7 (g:Ev→R (U×Ev)):Ev→R (List U×Ev):=fun ρ=>(g ρ).bind fun x=>match x.1 with
 | .lst us=>.ok (us,x.2)
 | .tup us=>.ok (us,x.2)
 | .scr us=>.ok (us,x.2)
 |_=>.stk
theorem Gx (q:cE K G Z A ρ σ H1)(h:u7 K G Z m1 A ρ σ H1 (.lst us) v):∃a,v=.ref a∧(∃xs,fE K H1 a xs)∧Wk K (NR m1) A us (Pt K a) H1:=by
 have hp:=h.pk
 unfold Pk at hp
 obtain⟨a,xs,rfl,rd,l,rs⟩:=hp
 refine⟨a,rfl,⟨xs,fE.of rd⟩,l,fun H A' hs ha => ?_⟩
 have st:H a=some (.lst xs)∧∀(i:Nat) (u:U),us[i]? = some u→∃x,xs[i]? = some x∧Rp K H A' u x:=by
  cases hm:NR m1 with
  |true =>
   rw[hm,if_pos rfl] at hs
   refine⟨hs a _ rd,fun i u hu => ?_⟩
   obtain⟨x,h1,h2⟩:=rs.get hu
   exact⟨x,h1,h2.re q.mu (ej.same hs) ha⟩
  |false =>
   rw[hm,if_neg Yq] at hs
   have hn:m1≠.P:=fun z=>by subst z;cases hm
   have hr:=h.rp hn
   unfold Rp at hr
   obtain⟨a',xs',e,na,rd',_,rs'⟩:=hr
   cases e
   refine⟨hs a _ na rd,fun i u hu => ?_⟩
   obtain⟨x,h1,h2⟩:=rs.get hu
   exact⟨x,h1,h2.re q.mu hs ha⟩
 obtain⟨rd2,get⟩:=st
 refine⟨fun i u hu => ?_,⟨xs,fE.of rd2,by rw[←rs.length];exact YC _⟩⟩
 obtain⟨x,h1,h2⟩:=get i u hu
 refine⟨⟨xs,x,fE.of rd2,h1⟩,fun y H' yl => ?_⟩
 obtain⟨e,yl⟩:=yl
 have e2:=yl xs (fE.of rd2)
 rw[h1] at e2
 cases e2
 subst e
 exact⟨aH.refl _,h2⟩
theorem KZ {p:Bool}(q:cE K G Z A ρ σ H1)(h:Pk K H1 A (.tup us) v):∃a,v=.ref a∧(∃xs,fR K H1 a xs)∧Wk K p A us (Qr K a) H1:=by
 unfold Pk at h
 obtain⟨a,xs,rfl,sq,l,rs⟩:=h
 refine⟨a,rfl,⟨xs,fR.of sq⟩,l,fun H A' hs ha => ?_⟩
 have ex:ej A H1 H:=by
  cases p with
  |true=>rw[if_pos rfl] at hs;exact ej.same hs
  |false=>rw[if_neg Yq] at hs;exact hs
 have Mv:fR K H a xs:=fR.of (ex a _ (fun z=>by have:=q.mu a z;rw[sq] at this;exact this) sq)
 refine⟨fun i u hu => ?_,⟨xs,Mv,by rw[←rs.length];exact YC _⟩⟩
 obtain⟨x,h1,h2⟩:=rs.get hu
 refine⟨⟨xs,x,Mv,h1⟩,fun y H' yl => ?_⟩
 obtain⟨e,yl⟩:=yl
 have e2:=yl xs Mv
 rw[h1] at e2
 cases e2
 subst e
 exact⟨aH.refl _,h2.re q.mu ex ha⟩
theorem K0 {p:Bool}(q:cE K G Z A ρ σ H1)(h:Pk K H1 A (.scr us) v):∃a,v=.ref a∧(∃xs,fE K H1 a xs)∧Wk K p A us (Pt K a) H1:=by
 unfold Pk at h
 obtain⟨a,xs,rfl,sq,l,rs⟩:=h
 refine⟨a,rfl,⟨xs,sq.sq⟩,l,fun H A' hs ha => ?_⟩
 have ex:ej A H1 H:=by
  cases p with
  |true=>rw[if_pos rfl] at hs;exact ej.same hs
  |false=>rw[if_neg Yq] at hs;exact hs
 have Mv:fE K H a xs:=(sq.to fun o y w=>ex a _ (fun z=>by have:=q.mu a z;rw[w] at this;exact this) w).sq
 refine⟨fun i u hu => ?_,⟨xs,Mv,by rw[←rs.length];exact YC _⟩⟩
 obtain⟨x,h1,h2⟩:=rs.get hu
 refine⟨⟨xs,x,Mv,h1⟩,fun y H' yl => ?_⟩
 obtain⟨e,yl⟩:=yl
 have e2:=yl xs Mv
 rw[h1] at e2
 cases e2
 subst e
 exact⟨aH.refl _,h2.re q.mu ex ha⟩
theorem fu (h:DE X G e b1 m1 g1):DI X G tg e b1 (NR m1) (g7 g1):=⟨((FU h.un).or (Kh h.un)).to fun σ H RR h00=>by
 obtain⟨Z,A,ρ,q,f⟩:=h00
 unfold g7 at f
 cases e1:g1 ρ with
 |stk=>rw[e1] at f;exact f.elim
 |exc=>rw[e1] at f;exact f.elim
 |ok y =>
  obtain⟨u,ρ1⟩:=y
  rw[e1] at f
  cases u with
  |lst us =>
   refine .inl ⟨Z,A,ρ,q,?_⟩
   rw[e1]
   intro v H1 q1 x1 s1 vm
   obtain⟨a,e,l,wk⟩:=Gx q1 vm
   exact⟨a,e,l,f _ H1 q1 x1 s1 wk⟩
  |tup us =>
   refine .inr ⟨Z,A,ρ,q,?_⟩
   rw[e1]
   intro v H1 q1 x1 s1 vm
   obtain⟨a,e,l,wk⟩:=KZ (p:=NR m1) q1 vm.pk
   exact⟨a,e,l,f _ H1 q1 x1 s1 wk⟩
  |scr us =>
   refine .inl ⟨Z,A,ρ,q,?_⟩
   rw[e1]
   intro v H1 q1 x1 s1 vm
   obtain⟨a,e,l,wk⟩:=K0 (p:=NR m1) q1 vm.pk
   exact⟨a,e,l,f _ H1 q1 x1 s1 wk⟩
  |_=>exact f.elim⟩
noncomputable def aF (lo:Int)(n:Nat):List U:=(ZA n).map fun i=>.int (lo+(i:Nat))
theorem C5 {lo:Int}{p:Bool}(h:n≤Yx):Wk K p A (aF lo n) (Pu lo n) H1:=by
 have hl:(aF lo n).length=n:=by unfold aF;rw[Yp,Z2]
 refine⟨by rw[hl];exact h,fun H A' _ _=>⟨fun i u hu => ?_,by rw[hl];exact YC _⟩⟩
 unfold aF at hu
 rw[YH] at hu
 cases e:(ZA n)[i]? with
 |none=>rw[e] at hu;cases hu
 |some j =>
  rw[e] at hu
  obtain⟨l1,l2⟩:=YD.mp e
  rw[Z2] at l1
  rw[List.getElem_range] at l2
  subst l2
  cases hu
  refine⟨l1,fun x H' y => ?_⟩
  obtain⟨rfl,rfl⟩:=y
  exact⟨aH.refl _,eA⟩
noncomputable def g8 (ga:Ev→R (List U×Ev)):Ev→R (List U×Ev):=fun ρ=>(ga ρ).bind fun x=>match x.1 with
 | [.int j]=>if -1000000≤j∧j≤1000000 then .ok (aF 0 j.toNat,x.2) else .stk
 |_=>.stk
theorem fP {a:aav}(ha:DA X G [a] b1 false ga)(hm:X.mg "range"=none)(hg:Gl X "range":=by rfl)(hs:YF [a] X.env=[(false,abE a X.env)]:=by rfl):DI X G tg (.Call (.Name "range" p1) [a] [] pos) b1 false (g8 ga):=⟨(AV hg hm ha.un hs).to fun σ H RR h00=>by
 obtain⟨Z,A,ρ,q,f⟩:=h00
 unfold g8 at f
 cases e1:ga ρ with
 |stk=>rw[e1] at f;exact f.elim
 |exc=>rw[e1] at f;exact f.elim
 |ok y =>
  obtain⟨us,ρ1⟩:=y
  rw[e1] at f
  dsimp only[L2.R.bind] at f
  refine⟨Z,A,ρ,q,?_⟩
  rw[e1]
  intro vs H1 q1 x1 s1 vm
  split at f
  ·rename_i JS ρ' e2
   split at e2
   ·rename_i j
    split at e2
    ·rename_i hl
     cases e2
     have r:=vm.rps
     unfold az at r
     obtain⟨v,vr,rfl,r1,r2⟩:=r
     unfold az at r2
     subst r2
     unfold Rp at r1
     subst r1
     exact⟨j,rfl,by lia,by lia,f _ H1 q1 x1 s1 (C5 (by have:Yx=16777216:=rfl;lia))⟩
    ·cases e2
   ·cases e2
  ·exact f.elim⟩
noncomputable def eM (sg:U→Ev→R Ev)(s:Ev→SR):List U→Ev→SR
 | [],ρ=>.nx ρ
 |u::us,ρ=>SR.of (sg u ρ) fun ρ1=>match s ρ1 with
   | .nx ρ2=>eM sg s us ρ2
   | .ct ρ2=>eM sg s us ρ2
   | .bk ρ2=>.nx ρ2
   |r=>r
noncomputable def fG (gi:Ev→R (List U×Ev))(sg:U→Ev→R Ev)(s:Ev→SR):Ev→SR:=fun ρ=>SR.of (gi ρ) fun x=>eM sg s x.1 x.2
open Classical in
noncomputable def Pkg.lp (Z:Pkg)(A:YM→Prop)(H:Hp):Pkg:={Z with B:=fun b=>if A b∧Z.B b=none then none else H b}
theorem tP {b:YM}(h1:A b)(h2:Z.B b=none):(Z.lp A H).B b=none:=by
 unfold Pkg.lp
 dsimp only
 exact if_pos ⟨h1,h2⟩
theorem kQ {b:YM}(h:¬(A b∧Z.B b=none)):(Z.lp A H).B b=H b:=by
 unfold Pkg.lp
 dsimp only
 exact if_neg h
theorem xK {b:YM}(h:(Z.lp A H).B b=none):(A b∧Z.B b=none)∨H b=none:=by
 by_cases c:A b∧Z.B b=none
 ·exact .inl c
 ·rw[kQ c] at h;exact .inr h
theorem cE.lp (q:cE K G Z A ρ σ H):cE K G (Z.lp A H) A ρ σ H where
 slot:=fun i u h=>by
  obtain⟨v,h1,h2⟩:=q.slot i u h
  refine⟨v,h1,?_⟩
  by_cases c:G.is i=true
  ·rw[if_pos c] at h2 ⊢
   obtain⟨a,e1,e2,e3,e4,e5⟩:=h2
   exact⟨a,e1,e2,tP e2 e3,e4,e5⟩
  ·rw[if_neg c] at h2 ⊢;exact h2
 dis:=q.dis
 mu:=q.mu
 sup:=q.sup
 out:=fun a h=>(q.out a h).imp id fun z=>tP h z
 bas:=fun a o h=>by
  by_cases c:A a∧Z.B a=none
  ·rw[tP c.1 c.2] at h;cases h
  ·rw[kQ c] at h;exact h
 io0:=q.io0
 len:=q.len
theorem cE.unlp {A':YM→Prop}{ρ':Ev}{σ':St}(q:cE K G Z A ρ σ H)(q':cE K G (Z.lp A H) A' ρ' σ' H'):cE K G Z A' ρ' σ' H':=by
 have sub:∀a,(Z.lp A H).B a=none→Z.B a=none:=fun a h=>by
  rcases xK h with z|h
  ·exact z.2
  ·cases e:Z.B a with
   |none=>rfl
   |some o=>rw[q.bas a o e] at h;cases h
 exact {
  slot:=fun i u h=>by
   obtain⟨v,h1,h2⟩:=q'.slot i u h
   refine⟨v,h1,?_⟩
   by_cases c:G.is i=true
   ·rw[if_pos c] at h2 ⊢
    obtain⟨a,e1,e2,e3,e4,e5⟩:=h2
    exact⟨a,e1,e2,sub a e3,e4,e5⟩
   ·rw[if_neg c] at h2 ⊢;exact h2
  dis:=q'.dis
  mu:=q'.mu
  sup:=q'.sup
  out:=fun a h=>(q'.out a h).imp id (sub a)
  bas:=fun a o h=>q'.bas a o (by
   rw[kQ (fun z=>by rw[h] at z;exact nomatch z.2)]
   exact q.bas a o h)
  io0:=q'.io0
  len:=q'.len}
theorem pH.lp {r:SR}{D:j3}(q:cE K G Z A ρ σ H)(f:pH K G Z m r D):pH K G (Z.lp A H) m r D:=by
 cases r with
 |nx=>exact fun A' σ' H' q'=>f A' σ' H' (q.unlp q')
 |bk=>exact fun A' σ' H' q'=>f A' σ' H' (q.unlp q')
 |ct=>exact fun A' σ' H' q'=>f A' σ' H' (q.unlp q')
 |rt u ρ' =>
  intro A' σ' H' v q' vm
  refine f A' σ' H' v (q.unlp q') ?_
  cases m with
  |S=>exact vm
  |P=>exact vm
  |O =>
   obtain⟨a,e,nb,na,t⟩:=vm
   refine⟨a,e,?_,na,t⟩
   rcases xK nb with z|h
   ·exact z.2
   ·cases e:Z.B a with
    |none=>rfl
    |some o=>rw[q.bas a o e] at h;cases h
 |exc=>exact fun H' hb=>f H' fun a o h=>hb a o (by
   rw[kQ (fun z=>by rw[h] at z;exact nomatch z.2)]
   exact q.bas a o h)
 |stk=>exact f.elim
theorem dC {gi:Ev→R (List U×Ev)}(hp:aeh (Y7 X.prog X.w) X.A X.env X.xe)(hc:X.calm=true)(hi:DI X G tg iter b1 false gi)(hg:DG X G tg sg)(hb:xm X G m body s1)(hs:∀x,abg iter X.env x=pure x:=by intro _;rfl):DS X G m (.For tg iter body [] pos) (fG gi sg s1):=⟨(Ge hp hc hi.un hg.un hb.un hs).to fun D σ H h00=>by
 obtain⟨Z,A,ρ,q,f⟩:=h00
 obtain⟨⟨us,ρ1⟩,e1,f⟩:=f.of
 refine⟨Z,A,ρ,q,?_⟩
 rw[e1]
 intro J H1 q1 x1 yU wk
 dsimp only at f
 obtain⟨hz,wk⟩:=wk
 refine⟨fun i k σ H=>i+k=us.length∧∃A' ρ',cE X.K G (Z.lp A H1) A' ρ' σ H∧pH X.K G (Z.lp A H1) m (eM sg s1 (us.drop i) ρ') D,⟨us.length,by lia,A,ρ1,q1.lp,by rw[acR];exact f.lp q1⟩,?_⟩
 rintro i k σ H ⟨hk,A',ρ',q',f'⟩
 have ex:ej A H1 H:=fun b o nb z=>q'.bas b o (by
  rw[kQ (fun y=>nb y.1)];exact z)
 have nw:∀b,A' b→A b∨H1 b=none:=fun b z=>by
  rcases q'.out b z with y|y
  ·exact .inl (q1.sup b y)
  ·rcases xK y with w|h
   ·exact .inl w.1
   ·exact .inr h
 obtain⟨w1,w2⟩:=wk H A' (by rw[if_neg Yq];exact ex) nw
 by_cases xc:i<us.length
 ·have eu:us[i]? = some us[i]:=Ys xc
  obtain⟨go,yl⟩:=w1 i _ eu
  rw[aac xc] at f'
  unfold eM at f'
  obtain⟨ρ2,e2,f2⟩:=f'.of
  refine .inr ⟨go,fun σ H=>∃A' ρ',cE X.K G (Z.lp A H1) A' ρ' σ H∧pH X.K G (Z.lp A H1) m (eM sg s1 (us.drop (i+1)) ρ') D,fun σ' H' z=>⟨k - 1,by lia,by lia,z⟩,fun x H' y => ?_⟩
  obtain⟨sm,rp⟩:=yl x H' y
  refine⟨Z.lp A H1,A',ρ',us[i],q'.same sm,rp,?_⟩
  rw[e2]
  intro σ2 q2 _
  refine⟨Z.lp A H1,A',ρ2,q2,?_⟩
  cases e3:s1 ρ2 with
  |nx ρ3=>rw[e3] at f2;exact fun A3 σ3 H3 q3=>⟨A3,ρ3,q3,f2⟩
  |ct ρ3=>rw[e3] at f2;exact fun A3 σ3 H3 q3=>⟨A3,ρ3,q3,f2⟩
  |bk ρ3=>rw[e3] at f2;exact f2
  |rt=>rw[e3] at f2;exact f2
  |exc=>rw[e3] at f2;exact f2
  |stk=>rw[e3] at f2;exact f2
 ·have e:i=us.length:=by lia
  subst e
  rw[aby] at f'
  exact .inl ⟨w2,f' A' σ H q'⟩⟩
end
end L2
namespace L2
noncomputable def iy (js:List (Option Nat))(ρ:Ev):Ev:=js.map fun o=>match o with
 |none=>none
 |some j=>match ρ[j]? with
  |some v=>v
  |none=>none
noncomputable def tQ (G:Gm)(js:List (Option Nat)):Gm:=⟨js.map fun o=>match o with
 |none=>false
 |some j=>G.is j,false,fun _=>False⟩
noncomputable def nY:List (Option Nat)→Bool
 | []=>true
 |none::r=>nY r
 |some j::r => !(r.contains (some j))&&nY r
theorem pJ:∀{js:List (Option Nat)} {i k j:Nat},nY js=true→js[i]? = some (some j)→js[k]? = some (some j)→i=k
 | [],_,_,_,_,h,_=>by simp at h
 |none::r,i,k,j,ok,h1,h2=>by
  unfold nY at ok
  cases i with
  |zero=>simp at h1
  |succ i =>
   cases k with
   |zero=>simp at h2
   |succ k=>exact congrArg (·+1) (pJ (j:=j) ok (by simpa using h1) (by simpa using h2))
 |some j'::r,i,k,j,ok,h1,h2=>by
  unfold nY at ok
  rw[YG] at ok
  have nm:∀n:Nat,r[n]? ≠ some (some j'):=fun n h=>by
   have:=Z4 h
   simp at ok
   exact ok.1 this
  cases i with
  |zero =>
   cases k with
   |zero=>rfl
   |succ k=>simp at h1 h2;subst h1;exact absurd h2 (nm k)
  |succ i =>
   cases k with
   |zero=>simp at h1 h2;subst h2;exact absurd h1 (nm i)
   |succ k=>exact congrArg (·+1) (pJ (j:=j) ok.2 (by simpa using h1) (by simpa using h2))
theorem kR (h:(iy js ρ)[i]? = some (some u)):∃j,js[i]? = some (some j)∧ρ[j]? = some (some u):=by
 unfold iy at h
 rw[YH] at h
 cases e:js[i]? with
 |none=>rw[e] at h;cases h
 |some o =>
  rw[e] at h
  cases o with
  |none=>cases h
  |some j =>
   refine⟨j,rfl,?_⟩
   have h:=Zg h
   dsimp only at h
   split at h
   ·rename_i v hv;rw[hv,h]
   ·cases h
theorem kS (h:js[i]? = some (some j))(hv:σ[j]? = some (some v)):(rP js σ)[i]? = some (some v):=by
 unfold rP
 rw[YH,h]
 dsimp only[Option.map]
 rw[hv]
theorem pK (h:js[i]? = some (some j)):(tQ G js).is i=G.is j:=by
 unfold tQ Gm.is
 dsimp only
 rw[List.getD,YH,h]
 rfl
theorem zj (js:List (Option Nat))(ρ:Ev)(σ:St):(iy js ρ).length=(rP js σ).length:=by
 unfold iy rP;rw[Yp,Yp]
section
variable {ρi:Ev}
theorem zk (q:cE K G Z A ρ σ H)(ok:nY js=true):cE K (tQ G js) ⟨fun _=>False,fun _=>none,0⟩ A (iy js ρ) (rP js σ) H where
 slot:=fun i u h=>by
  obtain⟨j,h1,h2⟩:=kR h
  obtain⟨v,h3,h4⟩:=q.slot j u h2
  refine⟨v,kS h1 h3,?_⟩
  rw[pK h1]
  by_cases c:G.is j=true
  ·rw[if_pos c] at h4 ⊢
   obtain⟨a,e1,e2,_,_,e5⟩:=h4
   exact⟨a,e1,e2,rfl,.inl id,e5⟩
  ·rw[if_neg c] at h4 ⊢;exact h4
 dis:=fun i k u w a ci ck ne hi hk si sk=>by
  obtain⟨j,h1,h2⟩:=kR hi
  obtain⟨j',Mt,JR⟩:=kR hk
  rw[pK h1] at ci
  rw[pK Mt] at ck
  obtain⟨b,e1,_⟩:=q.own ci h2
  obtain⟨b',e1',_⟩:=q.own ck JR
  rw[kS h1 e1] at si
  rw[kS Mt e1'] at sk
  cases si
  cases sk
  exact q.dis j j' u w a ci ck (fun z=>ne (by subst z;exact pJ ok h1 Mt)) h2 JR e1 e1'
 mu:=q.mu
 sup:=fun _ h=>h.elim
 out:=fun _ _=>.inr rfl
 bas:=fun _ _ h=>by cases h
 io0:=fun h=>by cases h
 len:=zj js ρ σ
noncomputable def Gy (G:Gm)(js:List (Option Nat))(ρ:Ev)(σ:St)(a:YM):Prop:=∃(i j:Nat) (u:U),js[i]? = some (some j)∧G.is j=true∧ρ[j]? = some (some u)∧σ[j]? = some (some (.ref a))
open Classical in
noncomputable def K1 (G:Gm)(js:List (Option Nat))(A:YM→Prop)(ρ:Ev)(σ:St)(H:Hp):Pkg:=⟨fun a=>A a∧¬Gy G js ρ σ a,fun a=>if Gy G js ρ σ a then none else H a,0⟩
theorem pL (h:Gy G js ρ σ a):(K1 G js A ρ σ H).B a=none:=by
 unfold K1;dsimp only;exact if_pos h
theorem kW (h:¬Gy G js ρ σ a):(K1 G js A ρ σ H).B a=H a:=by
 unfold K1;dsimp only;exact if_neg h
theorem K2 (q:cE K G Z A ρ σ H)(ok:nY js=true):cE K (tQ G js) (K1 G js A ρ σ H) A (iy js ρ) (rP js σ) H where
 slot:=fun i u h=>by
  obtain⟨j,h1,h2⟩:=kR h
  obtain⟨v,h3,h4⟩:=q.slot j u h2
  refine⟨v,kS h1 h3,?_⟩
  rw[pK h1]
  by_cases c:G.is j=true
  ·rw[if_pos c] at h4 ⊢
   obtain⟨a,e1,e2,_,_,e5⟩:=h4
   subst e1
   have cp:Gy G js ρ σ a:=⟨i,j,u,h1,c,h2,h3⟩
   exact⟨a,rfl,e2,pL cp,.inl fun z=>z.2 cp,e5⟩
  ·rw[if_neg c] at h4 ⊢;exact h4
 dis:=(zk q ok).dis
 mu:=q.mu
 sup:=fun _ h=>h.1
 out:=fun a h=>by
  by_cases c:Gy G js ρ σ a
  ·exact .inr (pL c)
  ·exact .inl ⟨h,c⟩
 bas:=fun a o h=>by
  by_cases c:Gy G js ρ σ a
  ·rw[pL c] at h;cases h
  ·rw[kW c] at h;exact h
 io0:=fun h=>by cases h
 len:=zj js ρ σ
noncomputable def ja:List (Option Nat)→Nat→Option Nat
 | [],_=>none
 |o::r,j=>if o=some j then some 0 else (ja r j).map (·+1)
theorem rS:∀{js:List (Option Nat)} {i j:Nat},ja js j=some i→js[i]? = some (some j)
 | [],_,_,h=>by cases h
 |o::r,i,j,h=>by
  unfold ja at h
  split at h
  ·rename_i e;cases h;rw[e];rfl
  ·cases e:ja r j with
   |none=>rw[e] at h;cases h
   |some k =>
    rw[e] at h
    cases h
    rw[aar]
    exact rS e
theorem pM:∀{js:List (Option Nat)} {i j:Nat},ja js j=none→js[i]? ≠ some (some j)
 | [],_,_,_=>by simp
 |o::r,i,j,h=>by
  unfold ja at h
  split at h
  ·cases h
  ·rename_i ne
   cases e:ja r j with
   |some k=>rw[e] at h;cases h
   |none =>
    cases i with
    |zero=>intro z;exact ne (Zg z)
    |succ i=>rw[aar];exact pM e
noncomputable def wb (G:Gm)(js:List (Option Nat))(ρi ρ:Ev):Ev:=ρ.mapIdx fun j x=>if (G.is j&&x.isSome)=true then (match ja js j with
 |some i=>(ρi[i]?).getD none
 |none=>x) else x
theorem xM (h:(wb G js ρi ρ)[j]? = some (some u)):∃u0,ρ[j]? = some (some u0)∧((G.is j=true∧∃i,ja js j=some i∧ρi[i]? = some (some u))∨(u0=u∧(G.is j=false∨ja js j=none))):=by
 unfold wb at h
 rw[List.getElem?_mapIdx] at h
 cases e:ρ[j]? with
 |none=>rw[e] at h;cases h
 |some x =>
  rw[e] at h
  have h:=Zg h
  cases x with
  |none=>simp at h
  |some u0 =>
   refine⟨u0,rfl,?_⟩
   dsimp only at h
   by_cases c:G.is j=true
   ·rw[if_pos (by rw[c];rfl)] at h
    split at h
    ·rename_i i hi
     refine .inl ⟨c,i,hi,?_⟩
     cases e2:ρi[i]? with
     |none=>rw[e2] at h;cases h
     |some y=>rw[e2] at h;simp at h;rw[h]
    ·rename_i hi
     exact .inr ⟨Zg h,.inr hi⟩
   ·have c:G.is j=false:=acJ.mpr c
    rw[if_neg (by rw[c];exact Yq)] at h
    exact .inr ⟨Zg h,.inl c⟩
theorem cE.wb {σ4:St}(q:cE K G Z A ρ σ H)(ok:nY js=true)(q':cE K (tQ G js) (K1 G js A ρ σ H) A ρi σ4 H')(ho:∀i,(tQ G js).is i=true→σ4[i]? = (rP js σ)[i]?):cE K G Z A (L2.wb G js ρi ρ) σ H'∧ej A H H':=by
 have O3:∀a,Gy G js ρ σ a→A a∧Z.B a=none:=fun a h00=>by
  obtain⟨i,j,u,h1,h2,h3,h4⟩:=h00
  obtain⟨b,e1,e2,e3,_⟩:=q.own h2 h3
  rw[h4] at e1;cases e1;exact⟨e2,e3⟩
 have ex:ej A H H':=fun b o nb z=>q'.bas b o (by rw[kW fun c=>nb (O3 b c).1];exact z)
 refine⟨{
  slot:=fun j u h => ?_
  dis:=fun i k u w a ci ck ne hi hk si sk=>by
   obtain⟨u1,h1,_⟩:=xM hi
   obtain⟨u2,h2,_⟩:=xM hk
   exact q.dis i k u1 u2 a ci ck ne h1 h2 si sk
  mu:=q'.mu
  sup:=q.sup
  out:=q.out
  bas:=fun a o h=>q'.bas a o (by
   rw[kW fun c=>by rw[(O3 a c).2] at h;cases h]
   exact q.bas a o h)
  io0:=q.io0
  len:=by unfold L2.wb;rw[List.length_mapIdx];exact q.len},ex⟩
 obtain⟨u0,h0,hh⟩:=xM h
 rcases hh with⟨c,i,hi,hu⟩|⟨rfl,hc⟩
 ·have hj:=rS hi
  obtain⟨a,e1,e2,e3,e4,_⟩:=q.own c h0
  have ci:(tQ G js).is i=true:=by rw[pK hj];exact c
  obtain⟨a',k1,k2,_,_,k5⟩:=q'.own ci hu
  rw[ho i ci,kS hj e1] at k1
  cases k1
  refine⟨.ref a,e1,?_⟩
  rw[if_pos c]
  exact⟨a,rfl,e2,e3,e4,k5⟩
 ·obtain⟨v,h1,h2⟩:=q.slot j u0 h0
  refine⟨v,h1,?_⟩
  by_cases c:G.is j=true
  ·rw[if_pos c] at h2 ⊢
   obtain⟨a,rfl,e2,e3,e4,e5⟩:=h2
   have hc:ja js j=none:=by
    rcases hc with hc|hc
    ·rw[c] at hc;cases hc
    ·exact hc
   have nc:¬Gy G js ρ σ a:=fun h00=>by
    obtain⟨i,j',u,z1,z2,z3,z4⟩:=h00
    have ne:j≠j':=fun z=>by subst z;exact pM hc z1
    exact q.dis j j' u0 u a c z2 ne h0 z3 h1 z4
   exact⟨a,rfl,e2,e3,e4,e5.re q.mu ex (fun b z=>.inl z) fun o z=>q'.bas a o (by rw[kW nc];exact z)⟩
  ·rw[if_neg c] at h2 ⊢
   exact h2.re q.mu ex fun b z=>.inl z
end
noncomputable def xn (f:U→R (Option U)):List U→R (List U)
 | []=>.ok []
 |u::us=>(f u).bind fun o=>(xn f us).bind fun r=>.ok (match o with
  |some y=>y::r
  |none=>r)
noncomputable def zm (js:List (Option Nat))(sg:U→Ev→R Ev)(gt:Ev→R (Bool×Ev))(ge:Ev→R (U×Ev))(ρ:Ev)(u:U):R (Option U) :=
 (sg u (iy js ρ)).bind fun ρi=>(gt ρi).bind fun c=>if c.1=true then (ge ρi).bind fun y=>.ok (some y.1) else .ok none
noncomputable def jO (gi:Ev→R (List U×Ev))(js:List (Option Nat))(sg:U→Ev→R Ev)(gt:Ev→R (Bool×Ev))(ge:Ev→R (U×Ev)):Ev→R (U×Ev):=fun ρ =>
 (gi ρ).bind fun x=>(xn (zm js sg gt ge x.2) x.1).bind fun ys=>.ok (.lst ys,x.2)
noncomputable def nZ (G:Gm)(js:List (Option Nat))(sg:U→Ev→R Ev)(gt:Ev→R (Bool×Ev))(ge:Ev→R (U×Ev)):List U→Ev→R (List U×Ev)
 | [],ρ=>.ok ([],ρ)
 |u::us,ρ=>(sg u (iy js ρ)).bind fun ρi=>(gt ρi).bind fun c=>if c.1=true then (ge c.2).bind fun y=>(nZ G js sg gt ge us (wb G js y.2 ρ)).bind fun r=>.ok (y.1::r.1,r.2) else nZ G js sg gt ge us (wb G js c.2 ρ)
noncomputable def C6 (G:Gm)(gi:Ev→R (List U×Ev))(js:List (Option Nat))(sg:U→Ev→R Ev)(gt:Ev→R (Bool×Ev))(ge:Ev→R (U×Ev)):Ev→R (U×Ev):=fun ρ =>
 (gi ρ).bind fun x=>(nZ G js sg gt ge x.1 x.2).bind fun y=>.ok (.lst y.1,y.2)
theorem R.bind_ok {α β:Type}{x:R α}{k:α→R β}{b:β}(h:x.bind k=.ok b):∃a,x=.ok a∧k a=.ok b:=by
 cases x with
 |ok a=>exact⟨a,rfl,h⟩
 |exc=>cases h
 |stk=>cases h
section
variable {e yR:aav}{b1 b2 b3 p:Bool}{m me:Md}{gi:Ev→R (List U×Ev)}{gt:Ev→R (Bool×Ev)}{ge:Ev→R (U×Ev)}
theorem C7 (ok:nY js=true)(hn:me≠.P){Q:VK}(h:tD X.K G b1 .O (jO gi js sg gt ge) σ H Q) :
  QH (Py X.K G b1 p gi) js (fun _=>QM X.K (tQ G js) sg) (fun _=>Bg X.K (tQ G js) false gt) (fun _=>tD X.K (tQ G js) false me ge) σ H Q:=by
 obtain⟨Z,A,ρ,q,f⟩:=h
 obtain⟨⟨us,ρ1⟩,e1,f⟩:=f.bind
 obtain⟨all,e2,f⟩:=f.bind
 refine⟨Z,A,ρ,q,?_⟩
 rw[e1]
 intro J H1 q1 x1 s1 ⟨hz,wk⟩ Y
 dsimp only at e2 f
 refine⟨fun i k ys H2=>i+k=us.length∧aH H1 H2∧∃done rest,xn (zm js sg gt ge ρ1) (us.drop i)=.ok rest∧done++rest=all∧az X.K H2 A done ys∧done.length≤i,
  ⟨us.length,by lia,aH.refl _,[],all,by rw[acR];exact e2,rfl,az.nil,YC _⟩,?_⟩
 rintro i k ys H2 ⟨hk,sm,done,rest,e3,e4,rs,hd⟩
 have q2:=q1.same sm
 obtain⟨w1,w2⟩:=wk H2 A (by split;exact sm;exact ej.same sm) fun b z=>.inl z
 by_cases xc:i<us.length
 ·have eu:us[i]? = some us[i]:=Ys xc
  obtain⟨go,yl⟩:=w1 i _ eu
  rw[aac xc] at e3
  unfold xn at e3
  obtain⟨o,e5,e3⟩:=R.bind_ok e3
  obtain⟨r,e6,e3⟩:=R.bind_ok e3
  unfold zm at e5
  obtain⟨ρi,e7,e5⟩:=R.bind_ok e5
  obtain⟨⟨c,ρc⟩,e8,e5⟩:=R.bind_ok e5
  refine .inr ⟨go,by rw[←rs.length];lia,fun JT H'=>aH H1 H'∧∃done,done++r=all∧az X.K H' A done JT∧done.length≤i+1,fun JT H' ⟨z1,dn,z2,z3,z4⟩=>⟨k - 1,by lia,by lia,z1,dn,r,e6,z2,z3,z4⟩,fun x H3 y => ?_⟩
  obtain⟨sm3,rp⟩:=yl x H3 y
  refine⟨_,A,iy js ρ1,us[i],(zk (q2.same sm3) ok),rp,?_⟩
  rw[e7]
  intro σ4 q4 _
  refine⟨_,A,ρi,q4,?_⟩
  rw[e8]
  intro H5 q5 x5 s5
  obtain⟨rfl,sm5⟩:=s5 rfl
  cases c with
  |false =>
   rw[if_neg Yq] at e5 ⊢
   cases e5
   cases e3
   exact⟨(sm.trans sm3).trans sm5,done,e4,(rs.same sm3).same sm5,by lia⟩
  |true =>
   rw[if_pos rfl] at e5 ⊢
   obtain⟨⟨y1,ρy⟩,e9,e5⟩:=R.bind_ok e5
   cases e5
   cases e3
   refine⟨_,A,ρc,q5,?_⟩
   rw[e9]
   intro v H6 q6 x6 s6 vm
   obtain⟨rfl,sm6⟩:=s6 rfl
   have Vd:=sm3.trans (sm5.trans sm6)
   exact⟨sm.trans Vd,done++[y1],by rw[YW];exact e4,(rs.same Vd).append (az.cons (vm.rp hn) az.nil),by rw[Yu];simp;lia⟩
 ·have e:i=us.length:=by lia
  subst e
  rw[aby] at e3
  cases e3
  rw[Zb] at e4
  subst e4
  refine .inl ⟨w2,fun a na => ?_⟩
  have sn:=b_ na (.lst ys)
  exact f _ _ (q2.same sn) ((x1.trans (ej.same sm)).trans (ej.same sn)) (nX (nX s1 sm) sn) (Cc.e q2 sn ⟨a,rfl,na,cH q2.mu rs na (by lia)⟩)
theorem C8 (ok:nY js=true)(hn:me≠.P){Q:VK}(h:tD X.K G true .O (C6 G gi js sg gt ge) σ H Q) :
  QH (Py X.K G b1 false gi) js (fun _=>QM X.K (tQ G js) sg) (fun _=>Bg X.K (tQ G js) b2 gt) (fun _=>tD X.K (tQ G js) b3 me ge) σ H Q:=by
 obtain⟨Z,A,ρ,q,f⟩:=h
 obtain⟨⟨us,ρ1⟩,e1,f⟩:=f.bind
 obtain⟨⟨all,ρe⟩,e2,f⟩:=f.bind
 refine⟨Z,A,ρ,q,?_⟩
 rw[e1]
 intro J H1 q1 x1 s1 ⟨hz,wk⟩ Y
 dsimp only at e2 f
 refine⟨fun i k ys H2=>i+k=us.length∧ej A H1 H2∧∃ρ2 done rest,cE X.K G Z A ρ2 σ H2∧nZ G js sg gt ge (us.drop i) ρ2=.ok (rest,ρe)∧done++rest=all∧az X.K H2 A done ys∧done.length≤i,
  ⟨us.length,by lia,ej.refl,ρ1,[],all,q1,by rw[acR];exact e2,rfl,az.nil,YC _⟩,?_⟩
 rintro i k ys H2 ⟨hk,ex,ρ2,done,rest,q2,e3,e4,rs,hd⟩
 obtain⟨w1,w2⟩:=wk H2 A (by rw[if_neg Yq];exact ex) fun b z=>.inl z
 by_cases xc:i<us.length
 ·have eu:us[i]? = some us[i]:=Ys xc
  obtain⟨go,yl⟩:=w1 i _ eu
  rw[aac xc] at e3
  unfold nZ at e3
  obtain⟨ρi,e7,e3⟩:=R.bind_ok e3
  obtain⟨⟨c,ρc⟩,e8,e3⟩:=R.bind_ok e3
  refine .inr ⟨go,by rw[←rs.length];lia,fun JT H'=>ej A H1 H'∧∃ρ2 done rest,cE X.K G Z A ρ2 σ H'∧nZ G js sg gt ge (us.drop (i+1)) ρ2=.ok (rest,ρe)∧done++rest=all∧az X.K H' A done JT∧done.length≤i+1,fun JT H' z=>⟨k - 1,by lia,by lia,z⟩,fun x H3 y => ?_⟩
  obtain⟨sm3,rp⟩:=yl x H3 y
  have q3:=q2.same sm3
  refine⟨K1 G js A ρ2 σ H3,A,iy js ρ2,us[i],K2 q3 ok,rp,?_⟩
  rw[e7]
  intro σ4 q4 o4
  refine⟨_,A,ρi,q4,?_⟩
  rw[e8]
  intro H5 q5 x5 s5
  dsimp only at e3
  cases c with
  |false =>
   rw[if_neg Yq] at e3 ⊢
   obtain⟨q6,x6⟩:=q3.wb ok q5 o4
   exact⟨ex.trans ((ej.same sm3).trans x6),_,done,rest,q6,e3,e4,(rs.same sm3).re q3.mu x6 (fun b z=>.inl z),by lia⟩
  |true =>
   rw[if_pos rfl] at e3 ⊢
   obtain⟨⟨y1,ρy⟩,e9,e3⟩:=R.bind_ok e3
   obtain⟨⟨r,ρr⟩,e10,e3⟩:=R.bind_ok e3
   cases e3
   refine⟨_,A,ρc,q5,?_⟩
   rw[e9]
   intro v H6 q6 x6 s6 vm
   obtain⟨q7,x7⟩:=q3.wb ok q6 o4
   exact⟨ex.trans ((ej.same sm3).trans x7),_,done++[y1],r,q7,e10,by rw[YW];exact e4,((rs.same sm3).re q3.mu x7 (fun b z=>.inl z)).append (az.cons (vm.rp hn) az.nil),by rw[Yu];simp;lia⟩
 ·have e:i=us.length:=by lia
  subst e
  rw[aby] at e3
  cases e3
  rw[Zb] at e4
  subst e4
  refine .inl ⟨w2,fun a na => ?_⟩
  have sn:=b_ na (.lst ys)
  exact f _ _ (q2.same sn) ((x1.trans ex).trans (ej.same sn)) (fun z=>nomatch z) (Cc.e q2 sn ⟨a,rfl,na,cH q2.mu rs na (by lia)⟩)
structure K3 (X:Cx)(G:Gm)(xo:List aav)(b:Bool)(h:Ev→R (Bool×Ev)):Prop where
 un:Gd X xo (Bg X.K G b h)
noncomputable def eO:Ev→R (Bool×Ev):=fun ρ=>.ok (true,ρ)
theorem dU:K3 X G [] false eO:=⟨fun pins s σ H Q I ⟨Z,A,ρ,q,f⟩=>CJ pins s σ H Q I (f H q ej.refl fun _=>⟨rfl,aH.refl _⟩)⟩
theorem jb (nN:Scope)(NX N:List Str)(js:List (Option Nat))(hc:X.calm=true)(hi:DI X G tg iter b1 p gi)(B_:∀Y:tm,DG (eZ X scope N Y) (tQ G js) tg sg∧K3 (eZ X scope N Y) (tQ G js) xo false gt∧DE (eZ X scope N Y) (tQ G js) yR false me ge)(hn:me≠.P:=by decide)(ok:nY js=true:=by rfl)(qO:X.env.scope=nN:=by rfl)(OZ:X.N=NX:=by rfl)(hS:xB nN NX scope N js=true:=by decide +kernel)(hs:∀x,abg iter X.env x=pure x:=by intro _;rfl):DE X G (.ListComp yR [⟨tg,iter,xo,0⟩] scope pos) b1 .O (jO gi js sg gt ge):=⟨(Ik nN NX N js hc hi.un (fun Y=>⟨(B_ Y).1.un,(B_ Y).2.1.un,(B_ Y).2.2.un⟩) qO OZ hS hs).to fun _ _ _=>C7 ok hn⟩
theorem C9 (nN:Scope)(NX N:List Str)(js:List (Option Nat))(hc:X.calm=true)(hi:DI X G tg iter b1 false gi)(B_:∀Y:tm,DG (eZ X scope N Y) (tQ G js) tg sg∧K3 (eZ X scope N Y) (tQ G js) xo b2 gt∧DE (eZ X scope N Y) (tQ G js) yR b3 me ge)(hn:me≠.P:=by decide)(ok:nY js=true:=by rfl)(qO:X.env.scope=nN:=by rfl)(OZ:X.N=NX:=by rfl)(hS:xB nN NX scope N js=true:=by decide +kernel)(hs:∀x,abg iter X.env x=pure x:=by intro _;rfl):DE X G (.ListComp yR [⟨tg,iter,xo,0⟩] scope pos) true .O (C6 G gi js sg gt ge):=⟨(Ik nN NX N js hc hi.un (fun Y=>⟨(B_ Y).1.un,(B_ Y).2.1.un,(B_ Y).2.2.un⟩) qO OZ hS hs).to fun _ _ _=>C8 ok hn⟩
variable {uW pos2:Pos}
end
end L2
namespace L2
noncomputable def cA (n:Nat)(us:List U):Ev:=us.map some++Zh (n - us.length) none
noncomputable def eP (m:Md)(n:Nat)(s:Ev→SR):List U→R U:=fun us=>match s (cA n us) with
 | .rt u _=>.ok u
 | .nx _=>if m=.S then .ok .non else .stk
 | .exc c u=>.exc c u
 |_=>.stk
noncomputable def xN (n:Nat)(s:Ev→SR):List U→R (U×U):=fun us=>match s (cA n us) with
 | .rt u ρ=>match ρ[0]? with
  |some (some w)=>.ok (u,w)
  |_=>.stk
 | .nx ρ=>match ρ[0]? with
  |some (some w)=>.ok (.non,w)
  |_=>.stk
 | .exc c u=>.exc c u
 |_=>.stk
theorem iz (h:(cA n us)[i]? = some (some u)):us[i]? = some u:=by
 unfold cA at h
 by_cases c:i<(us.map some).length
 ·rw[Z7 c,YH] at h
  cases e:us[i]? with
  |none=>rw[e] at h;cases h
  |some w=>rw[e] at h;simp at h;rw[h]
 ·rw[ZR (by lia),aco] at h
  split at h
  ·cases h
  ·cases h
theorem g9 (h:vs[i]? = some v):(dB N vs)[i]? = some (some v):=by
 unfold dB
 have c:i<(vs.map some).length:=by rw[Yp];exact (YD.mp h).1
 rw[Z7 c,YH,h]
 rfl
theorem tR (h:us.length=vs.length):(cA N.length us).length=(dB N vs).length:=by
 unfold cA dB
 rw[Yu,Yu,Yp,Yp,aaj,aaj,h]
theorem pN (G:Gm)(m:Md)(s:Ev→SR)(Ce:G.io=false)(ku:∀i,i<ps.length→G.is i=false)(fi:∀(f:YM) (aY:Yv) (A:Zw) (outer:List Env) (s0:YK) (H:Hp) (E:XK),ez k (A.deeper (aa0 x (ag st) s0.heap.objs.size f aY)) →
   xm (iV s_ P w K mg base N x (ag st) f aY A outer s0 H E).nox G m (ao st) s) :
  (∀vs H Q E,iq K ps.length (eP m N.length s) m vs H Q E→vs.length=ps.length)∧∀(f:YM) (aY:Yv) (A:Zw) (outer:List Env) (s0:YK) (H:Hp) (vs:List V) (Q:VK) (E:XK),ez k (A.deeper (aa0 x (ag st) s0.heap.objs.size f aY))→iq K ps.length (eP m N.length s) m vs H Q E →
   ∃t,mV (iV s_ P w K mg base N x (ag st) f aY A outer s0 H E).nox (ao st) t∧t {nx:=fun _ H'=>Q .non H',rt:=Q} (dB N vs) H:=by
 have hl:∀(us:List U) (A:YM→Prop) (H:Hp) (Q:VK),Gu K m A H (u9 ps.length (eP m N.length s) us) Q→us.length=ps.length:=fun us A H Q h=>by
  unfold u9 at h
  split at h
  ·assumption
  ·exact h.elim
 refine⟨fun vs H Q E ⟨us,A,r,_,h⟩=>by rw[←r.length];exact hl us A H Q h,fun f aY A outer s0 H vs Q E hr ⟨us,A0,r,mu,h⟩=>⟨_,(fi f aY A outer s0 H E hr).un,?_⟩⟩
 have l:=hl us A0 H Q h
 unfold u9 at h
 rw[if_pos l] at h
 refine⟨⟨A0,H,0⟩,A0,cA N.length us,?_,?_⟩
 ·exact {
   slot:=fun i u hu=>by
    have hu:=iz hu
    obtain⟨v,h1,h2⟩:=r.get hu
    refine⟨v,g9 h1,?_⟩
    rw[if_neg (by rw[ku i (by rw[←l];exact (YD.mp hu).1)];exact Yq)]
    exact h2
   dis:=fun i j u w a ci cj ne hi hj si sj=>by
    rw[ku i (by rw[←l];exact (YD.mp (iz hi)).1)] at ci;cases ci
   mu:=mu
   sup:=fun a h=>h
   out:=fun a h=>.inl h
   bas:=fun a o h=>h
   io0:=fun h=>by rw[Ce] at h;cases h
   len:=tR r.length}
 ·unfold eP at h
  cases e:s (cA N.length us) with
  |nx ρ' =>
   rw[e] at h
   dsimp only at h
   intro A' σ' H' q
   split at h
   ·rename_i hm
    subst hm
    exact h _ H' q.bas (show Rp K H' A0 .non .non from tK)
   ·exact h.elim
  |rt u ρ' =>
   rw[e] at h
   intro A' σ' H' v q vm
   refine h v H' q.bas ?_
   cases m with
   |S=>exact vm
   |P=>exact vm.elim
   |O =>
    obtain⟨a,e1,e2,e3,e4⟩:=vm
    exact⟨a,e1,e2,e4⟩
  |bk=>rw[e] at h;exact h.elim
  |ct=>rw[e] at h;exact h.elim
  |exc=>rw[e] at h;exact h.elim
  |stk=>rw[e] at h;exact h.elim
theorem Df.fnD (G:Gm)(m:Md)(s:Ev→SR)(d:Df K mg x st)(S:aV N ps (ag st))(hb:∀(kV dv pm:Yv) (an:Option YM) (aY ct:Yv) (us:List Yv),us.length=ps.length→aag (YI x x (av st) (ao st) (ag st) .none kV dv pm an aY ct) ⟨us,[]⟩=pure (ps.zip us))(Ce:G.io=false)(ku:∀i,i<ps.length→G.is i=false)(fi:∀(f:YM) (aY:Yv) (A:Zw) (outer:List Env) (s0:YK) (H:Hp) (E:XK),ez k (A.deeper (aa0 x (ag st) s0.heap.objs.size f aY)) →
   xm (iV s_ P w K mg base N x (ag st) f aY A outer s0 H E).nox G m (ao st) s):Fn P w K mg base x (k+1) ps (iq K ps.length (eP m N.length s) m) :=
 d.fn S hb (pN G m s Ce ku fi).1 (pN G m s Ce ku fi).2
theorem FA.okD (G:Gm)(m:Md)(s:Ev→SR)(F:FA K x x st f fd)(S:aV N ps (ag st))(Ce:G.io=false)(ku:∀i,i<ps.length→G.is i=false)(fi:∀(f:YM) (aY:Yv) (A:Zw) (outer:List Env) (s0:YK) (H:Hp) (E:XK),ez k (A.deeper (aa0 x (ag st) s0.heap.objs.size f aY)) →
   xm (iV s_ P w K mg base N x (ag st) f aY A outer s0 H E).nox G m (ao st) s):iU P w K mg base s_ (k+1) f fd ps (iq K ps.length (eP m N.length s) m) :=
 F.ok S (pN G m s Ce ku fi).1 ((pN G m s Ce ku fi).2 f)
noncomputable def vA (K:Yy):Sp:=fun vs H Q _=>∃(a:YM) (ns:List Int),vs=[.ref a]∧Gi K H a (ns.map V.int)∧ns.length≤63∧∀H',Q (.bl true) H'
theorem K4 (hO:F9 H)(h:fE K H a xs):Gi K H a xs:=by
 rcases h with (h|h)|h
 ·rcases hO a with z|⟨o,ys,z⟩
  ·rw[h] at z;cases z
  ·rw[h] at z;cases z
 ·exact .inl h
 ·exact .inr h
theorem vB {H:Hp}{A:YM→Prop}:∀(ns:List Int),az K H A (ns.map .int) (ns.map V.int)
 | []=>az.nil
 |n::ns=>az.cons eA (vB ns)
theorem K5 {f:List U→R U}{fa:YM}(F:iU P w K mg base s_ k fa fd ["script"] (iq K 1 f .S))(h:∀ns:List Int,ns.length≤63→f [.scr (ns.map .int)]=.ok (.bl true)):iU P w K mg base s_ k fa fd ["script"] (vA K):=by
 refine F.imp fun vs H Q E ⟨a,ns,e,sc,l,q⟩ => ?_
 subst e
 have hl:(ns.map U.int).length≤Yx:=by rw[Yp];have:Yx=16777216:=rfl;lia
 refine⟨[.scr (ns.map .int)],fun _=>False,az.cons ?_ az.nil,fun _ h=>h.elim,?_⟩
 ·unfold Rp
  exact⟨a,_,rfl,sc,hl,vB ns⟩
 ·have e:u9 1 f [.scr (ns.map .int)]=.ok (.bl true):=(if_pos rfl).trans (h ns l)
  rw[e]
  intro v H' sm vm
  have vm:Rp K H' (fun _=>False) (.bl true) v:=vm
  unfold Rp at vm
  subst vm
  exact q H'
theorem Df.fnI (G:Gm)(s:Ev→SR)(d:Df K mg x st)(S:aV N ps (ag st))(hb:∀(kV dv pm:Yv) (an:Option YM) (aY ct:Yv) (us:List Yv),us.length=ps.length→aag (YI x x (av st) (ao st) (ag st) .none kV dv pm an aY ct) ⟨us,[]⟩=pure (ps.zip us))(Ce:G.io=true)(h0:G.is 0=true)(ku:∀i,i<ps.length→i≠0→G.is i=false)(fi:∀(f:YM) (aY:Yv) (A:Zw) (outer:List Env) (s0:YK) (H:Hp) (E:XK),ez k (A.deeper (aa0 x (ag st) s0.heap.objs.size f aY)) →
   xm (iV s_ P w K mg base N x (ag st) f aY A outer s0 H E).nox G .S (ao st) s):Fn P w K mg base x (k+1) ps (CZ K ps.length (xN N.length s)):=by
 refine d.fn S hb ?_ ?_
 ·rintro vs H Q E ⟨u0,us,a0,vs',A,rfl,_,_,r,_,h⟩
  unfold u9 at h
  split at h
  ·rename_i e
   split at e
   ·rename_i l
    rw[YN,←r.length,←l];rfl
   ·cases e
  ·exact h.elim
 ·rintro f aY A outer s0 H vs Q E hr ⟨u0,us,a0,vs',A0,rfl,ha,t0,r,mu,h⟩
  refine⟨_,(fi f aY A outer s0 H E hr).un,?_⟩
  have l:(u0::us).length=ps.length:=by
   unfold u9 at h
   by_cases c:(u0::us).length=ps.length
   ·exact c
   ·rw[if_neg c] at h;exact h.elim
  unfold u9 at h
  rw[if_pos l] at h
  let Z:Pkg:=⟨A0,fun b=>if b=a0 then none else H b,a0⟩
  have zb:∀b o,b≠a0→H b=some o→Z.B b=some o:=fun b o nb z=>by
   show (if b=a0 then none else H b)=some o
   rw[if_neg nb];exact z
  have rel:cE K G Z A0 (cA N.length (u0::us)) (dB N (.ref a0::vs')) H:={
   slot:=fun i u hu=>by
    have hu:=iz hu
    cases i with
    |zero =>
     simp at hu;subst hu
     refine⟨.ref a0,g9 (by simp),?_⟩
     rw[if_pos h0]
     exact⟨a0,rfl,ha,by show (if a0=a0 then none else H a0)=none;rw[if_pos rfl],.inr ⟨Ce,rfl⟩,t0⟩
    |succ i =>
     have hl:=(YD.mp hu).1
     rw[aar] at hu
     obtain⟨v,h1,h2⟩:=r.get hu
     refine⟨v,g9 (by rw[aar];exact h1),?_⟩
     rw[if_neg (by rw[ku (i+1) (by rw[←l];exact hl) (by lia)];exact Yq)]
     exact h2
   dis:=fun i j u w a ci cj ne hi hj si sj=>by
    have hi:=(YD.mp (iz hi)).1
    have hj:=(YD.mp (iz hj)).1
    by_cases e:i=0
    ·rw[ku j (by rw[←l];exact hj) (by lia)] at cj;cases cj
    ·rw[ku i (by rw[←l];exact hi) e] at ci;cases ci
   mu:=mu
   sup:=fun a h=>h
   out:=fun a h=>.inl h
   bas:=fun a o h=>by
    by_cases c:a=a0
    ·have h:(if a=a0 then none else H a)=some o:=h
     rw[if_pos c] at h;cases h
    ·have h:(if a=a0 then none else H a)=some o:=h
     rw[if_neg c] at h;exact h
   io0:=fun _=>⟨g9 (vs:=.ref a0::vs') (i:=0) (v:=.ref a0) rfl,h0⟩
   len:=tR (by rw[YN,YN,r.length])}
  have fin:∀(A':YM→Prop) (ρ':Ev) (σ':St) (H':Hp) (w:U),cE K G Z A' ρ' σ' H'→ρ'[0]? = some (some w)→(∀b o,b≠a0→H b=some o→H' b=some o)∧i8 K H' A0 w a0:=fun A' ρ' σ' H' w q hw=>by
   obtain⟨a,e1,e2,e3,e4,e5⟩:=q.own h0 hw
   rw[(q.io0 Ce).1] at e1
   cases e1
   exact⟨fun b o nb z=>q.bas b o (zb b o nb z),e5.mono q.sup⟩
  refine⟨Z,A0,_,rel,?_⟩
  unfold xN at h
  cases e:s (cA N.length (u0::us)) with
  |nx ρ' =>
   rw[e] at h
   dsimp only at h
   intro A' σ' H' q
   split at h
   ·rename_i hm
    split at hm
    ·rename_i w hw
     cases hm
     obtain⟨z1,z2⟩:=fin A' ρ' σ' H' _ q hw
     exact h _ H' z1 z2 tK
    ·cases hm
   ·exact h.elim
  |rt u ρ' =>
   rw[e] at h
   dsimp only at h
   intro A' σ' H' v q vm
   split at h
   ·rename_i hm
    split at hm
    ·rename_i w hw
     cases hm
     obtain⟨z1,z2⟩:=fin A' ρ' σ' H' _ q hw
     exact h _ H' z1 z2 vm
    ·cases hm
   ·exact h.elim
  |bk=>rw[e] at h;exact h.elim
  |ct=>rw[e] at h;exact h.elim
  |exc=>rw[e] at h;exact h.elim
  |stk=>rw[e] at h;exact h.elim
section
variable {e e2:aav}{p1:Pos}{y:Str}{b1 b2:Bool}{m m1 m2:Md}{g1 g2:Ev→R (U×Ev)}
noncomputable def zo (i:Nat)(gv gk:Ev→R (U×Ev)):Ev→SR:=fun ρ=>SR.of (gv ρ) fun x=>if C0 x.2 i=true then SR.of (gk x.2) fun y=>match y.1 with
 | .int k=>match y.2[i]? with
  |some (some (.lst us))=>match Ca us.length k with
   |some j=>.nx (y.2.set i (some (.lst (us.set j x.1))))
   |none=>.stk
  |_=>.stk
 |_=>.stk
 else .stk
theorem zp (he:DE X G e b1 m1 g1)(hk:DE X G e2 b2 m2 g2)(hn:m1≠.P:=by decide)(hN:X.N[i]? = some y:=by rfl)(hv:yZ X.env.scope y:=by first|exact Or.inl rfl|exact Or.inr (Or.inl rfl)|exact Or.inr (Or.inr rfl))(c:G.is i=true:=by rfl)(hd:(y==("__debug__":Str))=false:=by decide)(iP:(y==("__classdict__":Str))=false:=by decide)(ha:∀v,assign (.Subscript (.Name y p1) e2 p2) X.env v=(do
   let ov ←adi [v] (abE (.Name y p1) X.env)
   let iv ←adi [v,ov] (abE e2 X.env)
   standAt p2
   adi [v,ov,iv] (setItem ov iv v)
   release [v,ov,iv] []):=by intro _;rfl)(hs:swapsWithSole [.Subscript (.Name y p1) e2 p2] e pos.line X.env=pure false:=by rfl)(hw:swappedStores [.Subscript (.Name y p1) e2 p2] e X.env=pure none:=by rfl)(h1:(abz [.Subscript (.Name y p1) e2 p2] X.env).map (·.2)=[assign (.Subscript (.Name y p1) e2 p2) X.env]:=by rfl):DS X G m (.Assign [.Subscript (.Name y p1) e2 p2] e pos) (zo i g1 g2):=⟨(Kd he.un (Kc (fq hN hv hd iP) hk.un CA ha) hs hw h1).to fun D σ H h00=>by
 obtain⟨Z,A,ρ,q,f⟩:=h00
 obtain⟨⟨u,ρ1⟩,e1,f⟩:=f.of
 refine⟨Z,A,ρ,q,?_⟩
 rw[e1]
 intro v H1 q1 x1 s1 vm
 dsimp only at f
 split at f
 ·rename_i hl
  obtain⟨u00,hu0⟩:=tM hl
  obtain⟨a0,h0,_⟩:=q1.own c hu0
  obtain⟨⟨k,ρ2⟩,e2,f⟩:=f.of
  refine⟨.ref a0,h0,Z,A,ρ1,q1,?_⟩
  rw[e2]
  intro v2 H2 q2 x2 s2 yT
  dsimp only at f
  cases k with
  |int kk =>
   dsimp only at f
   split at f
   ·rename_i us hu
    split at f
    ·rename_i j hj
     obtain⟨a0',k1,k2,_,_,k5⟩:=q2.own c hu
     rw[h0] at k1;cases k1
     obtain⟨xs,t1,t2,t3⟩:=k5
     refine⟨a0,xs,kk,j,rfl,yT.pk.int,t1,by rw[←t3.length];exact hj,?_⟩
     have em:∀b o,b≠a0→H2 b=some o→cm H2 a0 (.lst (xs.set j v)) b=some o:=fun b o nb z=>by rw[aD nb];exact z
     have ex:ej A H2 (cm H2 a0 (.lst (xs.set j v))):=fun b o nb z=>em b o (fun y=>nb (y▸k2)) z
     refine f A σ _ (q2.put c hu h0 em ⟨xs.set j v,aI,by rw[Z8];exact t2,?_⟩)
     exact (t3.re q2.mu ex fun b z=>.inl z).set j (((vm.rp hn).re q1.mu x2 fun b z=>.inl z).re q2.mu ex fun b z=>.inl z)
    ·exact f.elim
   ·exact f.elim
  |_=>exact f.elim
 ·exact f.elim⟩
noncomputable def QP (i:Nat)(p:U→U→R U)(g:Ev→R (U×Ev)):Ev→SR:=fun ρ=>match ρ[i]? with
 |some (some u)=>SR.of (g ρ) fun y=>SR.of (p u y.1) fun z=>.nx (y.2.set i (some z))
 |_=>.stk
end
end L2
namespace L2
noncomputable def C_:R2:=fun x y H Q=>∃l b xs zs,x=.ref l∧y=.ref b∧H l=some (.lst xs)∧H b=some (.lst zs)∧xs.length+zs.length≤Yx∧∀p,H p=none→Q (.ref p) (cm H p (.lst (xs++zs)))
theorem Gz:j5 X (abI .Add) C_:=by
 intro pins s σ H x y v u Q I rx ry h
 obtain⟨l,b,xs,zs,rfl,rfl,hH,hB,hz,q⟩:=h
 cases rx
 cases ry
 obtain⟨z,aq,n,r,hl,e⟩:=I.lstM hH
 obtain⟨z2,its2,n2,r2,Fp,e2⟩:=I.lstM hB
 refine PySem.P.add_list e e2 ?_ (by rw[YB,YB];lia)
 have ea:aq.toArray++its2.toArray=(aq++its2).toArray:=by simp
 rw[ea]
 exact⟨.ref _,_,I.lnew (t':=s.toks) (r.append r2) (by rw[Yu];lia),rfl,q _ I.fresh⟩
noncomputable def bR:U→U→R U:=fun u w=>match u,w with
 | .int i,.int j=>.ok (.int (i+j))
 | .tup a,.tup b=>if a.length+b.length≤Yx then .ok (.tup (a++b)) else .stk
 | .lst a,.lst b=>if a.length+b.length≤Yx then .ok (.lst (a++b)) else .stk
 |_,_=>.stk
noncomputable def K6:U→U→R U:=fun u w=>match u,w with
 | .lst a,.lst b=>if a.length+b.length≤Yx then .ok (.lst (a++b)) else .stk
 |_,_=>.stk
noncomputable def Iq:R2:=fun x y H Q=>(AX fun i j=>.int (i+j)) x y H Q∨CS x y H Q∨C_ x y H Q
theorem br:j5 X (abI .Add) Iq:=Kl.or (CT.or Gz)
theorem GA:fU K C_ .O K6:=fun A H x y u w z Q hx hy mu e q=>by
 unfold K6 at e
 split at e
 ·split at e
  ·rename_i hl
   cases e
   unfold Pk at hx hy
   obtain⟨a,xs,rfl,h1,l1,r1⟩:=hx
   obtain⟨b,ys,rfl,h2,l2,r2⟩:=hy
   exact⟨a,b,xs,ys,rfl,rfl,h1,h2,by rw[←r1.length,←r2.length];exact hl,fun p hp=>q _ _ (b_ hp _) ⟨p,rfl,hp,cH mu (r1.append r2) hp (by rw[Yu];exact hl)⟩⟩
  ·cases e
 ·cases e
theorem bu:fU K Iq .S bR:=fun A H x y u w z Q hx hy mu e q=>by
 unfold bR at e
 split at e
 ·cases e;exact .inl ⟨_,_,hx.int,hy.int,q _ H (aH.refl _) (show Rp K H A _ _ from eA)⟩
 ·split at e
  ·rename_i hl
   cases e
   unfold Pk at hx hy
   obtain⟨a,xs,rfl,h1,l1,r1⟩:=hx
   obtain⟨b,ys,rfl,h2,l2,r2⟩:=hy
   refine .inr (.inl ⟨a,b,xs,ys,rfl,rfl,h1,h2,by rw[←r1.length,←r2.length];exact hl,fun r H' sm hr=>q _ H' sm (show Rp K H' A _ _ from ?_)⟩)
   unfold Rp
   exact⟨r,_,rfl,hr,by rw[Yu];exact hl,(r1.append r2).same sm⟩
  ·cases e
 ·refine .inr (.inr (GA A H x y _ _ z Q hx hy mu (show K6 (.lst _) (.lst _)=_ from e) fun v H' sm vm=>q v H' sm ?_))
  obtain⟨a,rfl,na,t⟩:=vm
  exact t.rp (fun b h=>.inl h) fun h=>by have:=mu a h;rw[na] at this;exact this
 ·cases e
noncomputable def pI (c:Int→Int→Bool)(f:Int→Int→Int):U→U→R U:=fun u w=>match u,w with
 | .int i,.int j=>if c i j=true then .ok (.int (f i j)) else .stk
 |_,_=>.stk
theorem zq {C:Int→Int→Prop}{c:Int→Int→Bool}{f:Int→Int→Int}(h:∀i j,c i j=true→C i j):fU K (rI C fun i j=>.int (f i j)) .S (pI c f):=fun A H x y u w z Q hx hy mu e q=>by
 unfold pI at e
 split at e
 ·rename_i i j
  split at e
  ·rename_i hc
   cases e
   exact⟨i,j,hx.int,hy.int,h i j hc,q _ H (aH.refl _) (show Rp K H A _ _ from eA)⟩
  ·cases e
 ·cases e
noncomputable def GB:U→U→R U:=fun u w=>match u,w with
 | .int i,.int j=>.ok (.int (i - j))
 |_,_=>.stk
theorem GC:fU K (AX fun i j=>.int (i - j)) .S GB:=fun A H x y u w z Q hx hy mu e q=>by
 unfold GB at e
 split at e
 ·cases e;exact⟨_,_,hx.int,hy.int,q _ H (aH.refl _) (show Rp K H A _ _ from eA)⟩
 ·cases e
noncomputable def kX (i j:Int):Bool:=(decide (-(2 ^ 64)<i)&&decide (i<2 ^ 64))||(decide (-(2 ^ 64)<j)&&decide (j<2 ^ 64))
noncomputable def gA:U→U→R U:=pI kX (·*·)
theorem fH:fU K (rI FV fun i j=>.int (i*j)) .S gA:=zq fun i j h=>by
 unfold kX at h
 simp only[aaV,YG,decide_eq_true_eq] at h
 exact h
noncomputable def vC (_ j:Int):Bool:=decide (0<j)&&decide (j<18446744073709551616)
noncomputable def jT:U→U→R U:=pI vC (· / ·)
theorem jc:fU K (rI CO fun i j=>.int (i / j)) .S jT:=zq fun i j h=>by
 unfold vC at h
 simp only[YG,decide_eq_true_eq] at h
 exact h
noncomputable def n6:U→U→R U:=pI (fun _ j=>decide (0<j)) (· % ·)
theorem gD:fU K (rI (fun _ j=>0<j) fun i j=>.int (i % j)) .S n6:=zq fun i j h=>of_decide_eq_true h
noncomputable def GD (i j:Int):Bool:=decide (0≤j)&&decide (j≤1000000)&&decide (i.natAbs<2 ^ 64)
noncomputable def GF:U→U→R U:=pI GD fun i j=>i ^ j.toNat
theorem zu:fU K (rI Nm fun i j=>.int (i ^ j.toNat)) .S GF:=zq fun i j h=>by
 unfold GD at h
 simp only[YG,decide_eq_true_eq] at h
 exact⟨h.1.1,h.1.2,h.2⟩
noncomputable def QQ:U→R U:=fun u=>match u with
 | .int i=>.ok (.int (-i))
 |_=>.stk
noncomputable def pC (f:Int→Int→Bool):U→U→R U:=fun u w=>match u,w with
 | .int i,.int j=>.ok (.bl (f i j))
 |_,_=>.stk
theorem Dd {f:Int→Int→Bool}:fU K (AX fun i j=>.bl (f i j)) .S (pC f):=fun A H x y u w z Q hx hy mu e q=>by
 unfold pC at e
 split at e
 ·cases e;exact⟨_,_,hx.int,hy.int,q _ H (aH.refl _) (show Rp K H A _ _ from iQ)⟩
 ·cases e
noncomputable def NS:U→U→R U:=pC fun i j=>decide (i<j)
noncomputable def VR:U→U→R U:=pC fun i j=>decide (i≤j)
noncomputable def GG:U→U→R U:=pC fun i j=>decide (j<i)
noncomputable def QR:U→U→R U:=pC fun i j=>decide (j≤i)
mutual
noncomputable def zw:U→Option D
 | .non=>some .non
 | .bl b=>some (.bl b)
 | .int i=>some (.int i)
 | .str x=>some (.str x)
 | .tup us=>(tS us).map .tup
 | .lst us=>(tS us).map .lst
 | .dct _ _=>none
 | .scr _=>none
noncomputable def tS:List U→Option (List D)
 | []=>some []
 |u::us=>(zw u).bind fun d=>(tS us).map fun ds=>d::ds
end
mutual
theorem K7 {H:Hp}{A:YM→Prop}:∀{u:U} {v:V} {d:D},Rp K H A u v→zw u=some d→xk K H d v
 | .non,v,d,h,e=>by unfold zw at e;cases e;unfold Rp at h;unfold xk;exact h
 | .bl b,v,d,h,e=>by unfold zw at e;cases e;unfold Rp at h;unfold xk;exact h
 | .int b,v,d,h,e=>by unfold zw at e;cases e;unfold Rp at h;unfold xk;exact h
 | .str b,v,d,h,e=>by unfold zw at e;cases e;unfold Rp at h;unfold xk;exact h
 | .tup us,v,d,h,e=>by
  unfold zw at e
  cases e2:tS us with
  |none=>rw[e2] at e;cases e
  |some ds =>
   rw[e2] at e;cases e
   unfold Rp at h;unfold xk
   obtain⟨a,xs,r,q,l,z⟩:=h
   exact⟨a,xs,r,fR.of q,tU z e2⟩
 | .lst us,v,d,h,e=>by
  unfold zw at e
  cases e2:tS us with
  |none=>rw[e2] at e;cases e
  |some ds =>
   rw[e2] at e;cases e
   unfold Rp at h;unfold xk
   obtain⟨a,xs,r,_,q,l,z⟩:=h
   exact⟨a,xs,r,fE.of q,tU z e2⟩
 | .dct _ _,v,d,h,e=>by unfold zw at e;cases e
 | .scr _,v,d,h,e=>by unfold zw at e;cases e
theorem tU {H:Hp}{A:YM→Prop}:∀{us:List U} {vs:List V} {ds:List D},az K H A us vs→tS us=some ds→q0 K H ds vs
 | [],vs,ds,h,e=>by unfold tS at e;cases e;unfold az at h;unfold q0;exact h
 |u::us,vs,ds,h,e=>by
  unfold tS at e
  cases e1:zw u with
  |none=>rw[e1] at e;cases e
  |some d =>
   cases e2:tS us with
   |none=>rw[e1,e2] at e;cases e
   |some ds' =>
    rw[e1,e2] at e;cases e
    unfold az at h;unfold q0
    obtain⟨x,r,q,p,z⟩:=h
    exact⟨x,r,q,K7 p e1,tU z e2⟩
end
noncomputable def NT (u w:U):R Bool:=match zw u,zw w with
 |some d,some d'=>if KD d≤30 then .ok (Il d d') else .stk
 |_,_=>.stk
noncomputable def VS (f:Bool→Bool):U→U→R U:=fun u w=>(NT u w).bind fun b=>.ok (.bl (f b))
noncomputable def Ir:U→Bool
 | .non=>true
 |_=>false
noncomputable def QS (f:Bool→Bool):U→U→R U:=fun u w=>match w with
 | .non=>.ok (.bl (f (Ir u)))
 |_=>.stk
noncomputable def QT (f:Bool→Bool):U→U→R U:=fun u w=>match u,w with
 | .bl a,.bl b=>.ok (.bl (f (decide (a=b))))
 |_,_=>.stk
theorem xO {i:Int}{z:U}(r:az K H A us xs)(e:kG us i=some z):∃v,kG xs i=some v∧Rp K H A z v:=by
 unfold kG at e ⊢
 rw[←r.length]
 cases h:Ca us.length i with
 |none=>rw[h] at e;cases e
 |some j =>
  rw[h] at e
  obtain⟨v,h1,h2⟩:=r.get (show us[j]? = some z from e)
  exact⟨v,h1,h2⟩
noncomputable def u_:U→U→R U:=fun u w=>match u,w with
 | .lst us,.int i=>match kG us i with
  |some z=>.ok z
  |none=>.stk
 | .tup us,.int i=>match kG us i with
  |some z=>.ok z
  |none=>.stk
 | .scr us,.int i=>match kG us i with
  |some z=>.ok z
  |none=>.stk
 | .str x,.int i=>match kG x.cps.toList i with
  |some c=>if x.length≤Yx then .ok (.str ⟨#[c]⟩) else .stk
  |none=>.stk
 |_,_=>.stk
theorem fW:fU K (UK K) .S u_:=fun A H x y u w z Q hx hy mu e q=>by
 unfold u_ at e
 split at e
 ·split at e
  ·rename_i z' hz
   cases e
   unfold Pk at hx
   obtain⟨a,xs,rfl,h1,l1,r1⟩:=hx
   obtain⟨v,h2,h3⟩:=xO r1 hz
   exact .inl ⟨a,xs,_,v,rfl,hy.int,fE.of h1,h2,q _ H (aH.refl _) h3⟩
  ·cases e
 ·split at e
  ·rename_i z' hz
   cases e
   unfold Pk at hx
   obtain⟨a,xs,rfl,h1,l1,r1⟩:=hx
   obtain⟨v,h2,h3⟩:=xO r1 hz
   exact .inr (.inl ⟨a,xs,_,v,rfl,hy.int,fR.of h1,h2,q _ H (aH.refl _) h3⟩)
  ·cases e
 ·split at e
  ·rename_i z' hz
   cases e
   unfold Pk at hx
   obtain⟨a,xs,rfl,h1,l1,r1⟩:=hx
   obtain⟨v,h2,h3⟩:=xO r1 hz
   exact .inl ⟨a,xs,_,v,rfl,hy.int,h1.sq,h2,q _ H (aH.refl _) h3⟩
  ·cases e
 ·split at e
  ·rename_i z' hz
   split at e
   ·rename_i hl
    cases e
    exact .inr (.inr ⟨_,_,z',hx.str,hy.int,hl,hz,q _ H (aH.refl _) (show Rp K H A _ _ from CU)⟩)
   ·cases e
  ·cases e
 ·cases e
noncomputable def g_ {α:Type}(xs:List α)(lo hi:Option Int):List α:=(xs.drop (HT.sIx xs.length 0 lo)).take (HT.sIx xs.length xs.length hi - HT.sIx xs.length 0 lo)
theorem jd {α:Type}(xs:List α)(lo hi:Option Int):(g_ xs lo hi).length≤xs.length:=by
 unfold g_
 rw[YJ,Y1]
 lia
theorem tV (r:az K H A us xs)(lo hi:Option Int):az K H A (g_ us lo hi) (o_ xs lo hi):=by
 unfold g_ o_
 rw[←r.length]
 exact (r.drop _).take _
theorem cB:Cy X (fun x lo hi H Q=>F6 X.K x lo hi H Q∨CQ X.K x lo hi H Q):=F7.or Gg
noncomputable def jU:U→Option Int→Option Int→R U:=fun u lo hi=>match u with
 | .lst us=>.ok (.lst (g_ us lo hi))
 | .scr us=>.ok (.lst (g_ us lo hi))
 | .tup us=>.ok (.tup (g_ us lo hi))
 |_=>.stk
noncomputable def NU:U→Option Int→Option Int→R U:=fun u lo hi=>match u with
 | .lst us=>.ok (.lst (g_ us lo hi))
 | .scr us=>.ok (.lst (g_ us lo hi))
 |_=>.stk
theorem zx:C2 K (F6 K) .O NU:=fun A H x u lo hi z Q hx mu e q=>by
 unfold NU at e
 split at e
 ·cases e
  unfold Pk at hx
  obtain⟨a,xs,rfl,h1,l1,r1⟩:=hx
  exact⟨a,xs,rfl,fE.of h1,fun p hp=>q _ _ (b_ hp _) ⟨p,rfl,hp,cH mu (tV r1 lo hi) hp (Zd (jd _ _ _) l1)⟩⟩
 ·cases e
  unfold Pk at hx
  obtain⟨a,xs,rfl,h1,l1,r1⟩:=hx
  exact⟨a,xs,rfl,h1.sq,fun p hp=>q _ _ (b_ hp _) ⟨p,rfl,hp,cH mu (tV r1 lo hi) hp (Zd (jd _ _ _) l1)⟩⟩
 ·cases e
theorem Iu (mu:∀a,A a→Mu (H a))(vm:Cc K .O A H H' u v):Rp K H' A u v:=by
 obtain⟨a,rfl,na,t⟩:=vm
 exact t.rp (fun b h=>.inl h) fun h=>by have:=mu a h;rw[na] at this;exact this
theorem eD:C2 K (fun x lo hi H Q=>F6 K x lo hi H Q∨CQ K x lo hi H Q) .S jU:=fun A H x u lo hi z Q hx mu e q=>by
 unfold jU at e
 split at e
 ·cases e;exact .inl (zx A H x _ lo hi _ Q hx mu rfl fun v H' sm vm=>q v H' sm (Iu mu vm))
 ·cases e;exact .inl (zx A H x _ lo hi _ Q hx mu rfl fun v H' sm vm=>q v H' sm (Iu mu vm))
 ·cases e
  unfold Pk at hx
  obtain⟨a,xs,rfl,h1,l1,r1⟩:=hx
  refine .inr ⟨a,xs,rfl,h1,fun r H' sm hr=>q _ H' sm (show Rp K H' A _ _ from ?_)⟩
  unfold Rp
  exact⟨r,_,rfl,hr,Zd (jd _ _ _) l1,(tV r1 lo hi).same sm⟩
 ·cases e
end L2
namespace L2
section
theorem xI.one (h:xI K H A [u] vs):∃v,vs=[v]∧Pk K H A u v:=by
 unfold xI at h
 obtain⟨x,r,rfl,p,q⟩:=h
 unfold xI at q
 subst q
 exact⟨x,rfl,p⟩
theorem xI.two {w:U}(h:xI K H A [u,w] vs):∃v v',vs=[v,v']∧Pk K H A u v∧Pk K H A w v':=by
 unfold xI at h
 obtain⟨x,r,rfl,p,q⟩:=h
 obtain⟨v,rfl,q'⟩:=xI.one q
 exact⟨x,v,rfl,p,q'⟩
noncomputable def iA:List U→R U:=fun us=>match us with
 | [.lst xs]=>.ok (.int xs.length)
 | [.tup xs]=>.ok (.int xs.length)
 | [.scr xs]=>.ok (.int xs.length)
 | [.str x]=>if x.length≤Yx then .ok (.int x.length) else .stk
 |_=>.stk
theorem eW:mv K (fun xs H Q=>∃x n,xs=[x]∧Nr K x H n∧Q (.int n) H) .S iA:=fun A H vs us z Q h mu e q=>by
 unfold iA at e
 split at e
 ·rename_i xs
  cases e
  obtain⟨v,rfl,p⟩:=h.one
  unfold Pk at p
  obtain⟨a,ys,rfl,h1,l1,r1⟩:=p
  exact⟨_,xs.length,rfl,.inl ⟨ys,fE.of h1,r1.length⟩,q _ H (aH.refl _) (show Rp K H A _ _ from eA)⟩
 ·rename_i xs
  cases e
  obtain⟨v,rfl,p⟩:=h.one
  unfold Pk at p
  obtain⟨a,ys,rfl,h1,l1,r1⟩:=p
  exact⟨_,xs.length,rfl,.inr ⟨ys,fR.of h1,r1.length⟩,q _ H (aH.refl _) (show Rp K H A _ _ from eA)⟩
 ·rename_i xs
  cases e
  obtain⟨v,rfl,p⟩:=h.one
  unfold Pk at p
  obtain⟨a,ys,rfl,h1,l1,r1⟩:=p
  exact⟨_,xs.length,rfl,.inl ⟨ys,h1.sq,r1.length⟩,q _ H (aH.refl _) (show Rp K H A _ _ from eA)⟩
 ·rename_i x
  split at e
  ·rename_i hl
   cases e
   obtain⟨v,rfl,p⟩:=h.one
   have:=p.str
   subst this
   exact⟨_,x.length,rfl,⟨hl,rfl⟩,q _ H (aH.refl _) (show Rp K H A _ _ from eA)⟩
  ·cases e
 ·cases e
noncomputable def Iv:List U→R U:=fun us=>match us with
 | [.lst xs]=>.ok (.lst xs)
 | [.tup xs]=>.ok (.lst xs)
 |_=>.stk
noncomputable def fw:List U→R U:=fun us=>match us with
 | [.lst xs]=>.ok (.tup xs)
 | [.tup xs]=>.ok (.tup xs)
 |_=>.stk
theorem ef:mv K (fun xs H Q=>∃p ys,xs=[.ref p]∧((fE K H p ys∧∀l,H l=none→Q (.ref l) (cm H l (.tup ys)))∨(fR K H p ys∧Q (.ref p) H))) .S fw:=fun A H vs us z Q h mu e q=>by
 unfold fw at e
 split at e
 ·rename_i xs
  cases e
  obtain⟨v,rfl,p⟩:=h.one
  unfold Pk at p
  obtain⟨a,ys,rfl,h1,l1,r1⟩:=p
  exact⟨a,ys,rfl,.inl ⟨fE.of h1,fun l hl=>q _ _ (b_ hl _) (mq r1 hl l1)⟩⟩
 ·rename_i xs
  cases e
  obtain⟨v,rfl,p⟩:=h.one
  have p':=p
  unfold Pk at p
  obtain⟨a,ys,rfl,h1,l1,r1⟩:=p
  refine⟨a,ys,rfl,.inr ⟨fR.of h1,q _ H (aH.refl _) (show Rp K H A _ _ from ?_)⟩⟩
  unfold Rp;unfold Pk at p';exact p'
 ·cases e
noncomputable def vD:List U→R U:=fun us=>match us with
 | [.int i]=>.ok (.int (if i<0 then -i else i))
 |_=>.stk
theorem oG:mv K (fun xs H Q=>∃i,xs=[.int i]∧Q (.int (if i<0 then -i else i)) H) .S vD:=fun A H vs us z Q h mu e q=>by
 unfold vD at e
 split at e
 ·cases e
  obtain⟨v,rfl,p⟩:=h.one
  exact⟨_,by rw[p.int],q _ H (aH.refl _) (show Rp K H A _ _ from eA)⟩
 ·cases e
noncomputable def vE:List U→R U:=fun us=>match us with
 | [.int i,.int j]=>.ok (.int (if j>i then j else i))
 |_=>.stk
theorem De:mv K (fun xs H Q=>∃i j,xs=[.int i,.int j]∧Q (.int (if j>i then j else i)) H) .S vE:=fun A H vs us z Q h mu e q=>by
 unfold vE at e
 split at e
 ·cases e
  obtain⟨v,w,rfl,p,p'⟩:=h.two
  exact⟨_,_,by rw[p.int,p'.int],q _ H (aH.refl _) (show Rp K H A _ _ from eA)⟩
 ·cases e
noncomputable def rT:List U→R U:=fun us=>match us with
 | [.int i,.int j]=>.ok (.int (if j<i then j else i))
 |_=>.stk
theorem vF:mv K (fun xs H Q=>∃i j,xs=[.int i,.int j]∧Q (.int (if j<i then j else i)) H) .S rT:=fun A H vs us z Q h mu e q=>by
 unfold rT at e
 split at e
 ·cases e
  obtain⟨v,w,rfl,p,p'⟩:=h.two
  exact⟨_,_,by rw[p.int,p'.int],q _ H (aH.refl _) (show Rp K H A _ _ from eA)⟩
 ·cases e
noncomputable def dW:List U→Option (List Int)
 | []=>some []
 | .int i::us=>(dW us).map (i::·)
 |_::_=>none
noncomputable def je:List U→Option (List Bool)
 | []=>some []
 | .bl i::us=>(je us).map (i::·)
 |_::_=>none
theorem iB:∀{us:List U} {ns:List Int},dW us=some ns→us=ns.map .int
 | [],ns,h=>by unfold dW at h;cases h;rfl
 |u::us,ns,h=>by
  cases u<;>unfold dW at h<;>try cases h
  rename_i i
  cases e:dW us with
  |none=>rw[e] at h;cases h
  |some ms=>rw[e] at h;cases h;rw[iB e];rfl
theorem vG:∀{us:List U} {ns:List Bool},je us=some ns→us=ns.map .bl
 | [],ns,h=>by unfold je at h;cases h;rfl
 |u::us,ns,h=>by
  cases u<;>unfold je at h<;>try cases h
  rename_i i
  cases e:je us with
  |none=>rw[e] at h;cases h
  |some ms=>rw[e] at h;cases h;rw[vG e];rfl
theorem Bm (ns:List Bool):je (ns.map .bl)=some ns:=by
 induction ns with
 |nil=>rfl
 |cons n ns ih=>rw[Yw];unfold je;rw[ih];rfl
theorem az.toI {H:Hp}{A:YM→Prop}:∀{ns:List Int} {vs:List V},az K H A (ns.map .int) vs→vs=ns.map V.int
 | [],vs,h=>by rw[ZM] at h;unfold az at h;exact h
 |n::ns,vs,h=>by
  rw[Yw] at h
  unfold az at h
  obtain⟨x,r,rfl,p,q⟩:=h
  unfold Rp at p
  rw[p,az.toI q];rfl
theorem az.toB {H:Hp}{A:YM→Prop}:∀{ns:List Bool} {vs:List V},az K H A (ns.map .bl) vs→vs=ns.map V.bl
 | [],vs,h=>by rw[ZM] at h;unfold az at h;exact h
 |n::ns,vs,h=>by
  rw[Yw] at h
  unfold az at h
  obtain⟨x,r,rfl,p,q⟩:=h
  unfold Rp at p
  rw[p,az.toB q];rfl
theorem kY {H:Hp}{A:YM→Prop}:∀(ns:List Int),az K H A (ns.map .int) (ns.map V.int)
 | []=>az.nil
 |n::ns=>az.cons eA (kY ns)
noncomputable def Dg:List U→R U:=fun us=>match us with
 | [.lst xs]=>match je xs with
  |some bs=>.ok (.bl (bs.all id))
  |none=>.stk
 |_=>.stk
theorem GH:mv K (fun xs H Q=>∃(p:YM) (bs:List Bool),xs=[.ref p]∧fE K H p (bs.map V.bl)∧Q (.bl (bs.all id)) H) .S Dg:=fun A H vs us z Q h mu e q=>by
 unfold Dg at e
 split at e
 ·rename_i xs
  split at e
  ·rename_i bs hb
   cases e
   obtain⟨v,rfl,p⟩:=h.one
   unfold Pk at p
   obtain⟨a,ys,rfl,h1,l1,r1⟩:=p
   rw[vG hb] at r1
   rw[r1.toB] at h1
   exact⟨a,bs,rfl,fE.of h1,q _ H (aH.refl _) (show Rp K H A _ _ from iQ)⟩
  ·cases e
 ·cases e
noncomputable def rV (ns:List Int):List Int:=ns.mergeSort fun a b=>decide (a≤b)
theorem pO (ns:List Int):(rV ns).Perm ns:=List.mergeSort_perm _ _
theorem Dh (ns:List Int):(rV ns).Pairwise (·≤·):=by
 have:=List.pairwise_mergeSort (le:=fun a b:Int=>decide (a≤b)) (fun a b c h1 h2=>by simp only[decide_eq_true_eq] at *;lia) (fun a b=>by simp only[aaV,decide_eq_true_eq];lia) ns
 exact this.imp fun h=>by simpa using h
noncomputable def xP:List U→R U:=fun us=>match us with
 | [.lst xs]=>match dW xs with
  |some ns=>if ns.length<64 then .ok (.lst ((rV ns).map .int)) else .stk
  |none=>.stk
 | [.tup xs]=>match dW xs with
  |some ns=>if ns.length<64 then .ok (.lst ((rV ns).map .int)) else .stk
  |none=>.stk
 |_=>.stk
theorem Bn:mv K (fun xs H Q=>∃(p:YM) (ns:List Int),xs=[.ref p]∧(fE K H p (ns.map V.int)∨fR K H p (ns.map V.int))∧ns.length<64 ∧
  ∀(l:YM) (sQ:List Int),H l=none→sQ.Perm ns→sQ.Pairwise (·≤·)→Q (.ref l) (cm H l (.lst (sQ.map V.int)))) .O xP:=fun A H vs us z Q h mu e q=>by
 have fin:∀(ns:List Int),ns.length<64→z=.lst ((rV ns).map .int)→∀(l:YM) (sQ:List Int),H l=none→sQ.Perm ns→sQ.Pairwise (·≤·)→Q (.ref l) (cm H l (.lst (sQ.map V.int))):=fun ns hl hz l sQ hn hp hw=>by
  have e:sQ=rV ns:=PySem.W.ksm_same (hp.trans (pO ns).symm) hw (Dh ns)
  subst e hz
  refine q _ _ (b_ hn _) ⟨l,rfl,hn,cH mu (kY _) hn ?_⟩
  have:Yx=16777216:=rfl
  rw[Yp,(pO ns).length_eq];lia
 unfold xP at e
 split at e
 ·rename_i xs
  split at e
  ·rename_i ns hb
   split at e
   ·rename_i hl
    cases e
    obtain⟨v,rfl,p⟩:=h.one
    unfold Pk at p
    obtain⟨a,ys,rfl,h1,l1,r1⟩:=p
    rw[iB hb] at r1
    rw[r1.toI] at h1
    exact⟨a,ns,rfl,.inl (fE.of h1),hl,fin ns hl rfl⟩
   ·cases e
  ·cases e
 ·rename_i xs
  split at e
  ·rename_i ns hb
   split at e
   ·rename_i hl
    cases e
    obtain⟨v,rfl,p⟩:=h.one
    unfold Pk at p
    obtain⟨a,ys,rfl,h1,l1,r1⟩:=p
    rw[iB hb] at r1
    rw[r1.toI] at h1
    exact⟨a,ns,rfl,.inr (fR.of h1),hl,fin ns hl rfl⟩
   ·cases e
  ·cases e
 ·cases e
noncomputable def QU (ks:List U):String:=match ks with
 | .tup _::_=>"script"
 |_=>"dict"
noncomputable def Bo:U→String
 | .non=>"NoneType"
 | .bl _=>"bool"
 | .int _=>"int"
 | .str _=>"str"
 | .tup _=>"tuple"
 | .lst _=>"list"
 | .dct ks _=>QU ks
 | .scr _=>"script"
theorem Iw (h:Pk K H A u v)(hs:Bo u≠"script"):q9 K H v (Bo u):=by
 cases u<;>unfold Pk at h
 case scr=>exact absurd rfl hs
 case non=>subst h;exact .non
 case bl=>subst h;exact .bl _
 case int=>subst h;exact .int _
 case str=>subst h;exact .str _
 case tup=>obtain⟨a,xs,rfl,h1,_⟩:=h;exact .tup h1
 case lst =>
  obtain⟨a,xs,rfl,h1,_⟩:=h
  exact .lst h1
 case dct =>
  obtain⟨a,xs,rfl,h1,_⟩:=h
  rcases h1 with⟨k,h1,e,_⟩|⟨k,n,h1,e,_⟩
  ·have:QU (k.map fun p=>kU p.1)="dict":=by
    cases k with
    |nil=>rfl
    |cons p k =>
     obtain⟨p1,p2⟩:=p
     cases p1<;>rfl
   show q9 K H _ (QU _)
   rw[e,this]
   exact .dK h1
  ·refine absurd e fun e => ?_
   cases k with
   |nil=>exact n rfl
   |cons p k=>rw[e] at hs;exact hs rfl
variable {e:aav}{p1:Pos}{b1:Bool}{m1:Md}{g1:Ev→R (U×Ev)}
noncomputable def jV (T:String)(g:Ev→R (U×Ev)):Ev→R (U×Ev):=fun ρ=>(g ρ).bind fun x=>if Bo x.1="script" then .stk else .ok (.bl (d9 (Bo x.1) T),x.2)
theorem iC {T:String}(hT:T∈["bool","int","str","list","tuple","dict"])(he:DE X G e b1 m1 g1)(zi:X.mg "isinstance"=none)(zt:X.mg x=none)(bt:Zr x=some (.type T))(hg:Gl X "isinstance":=by rfl)(ht:Gl X x:=by rfl)(hn:x≠"__name__":=by decide)(hd:(x==("__debug__":Str))=false:=by decide)(hs:YF [e,.Name x p2] X.env=(false,abE e X.env)::YF [.Name x p2] X.env:=by rfl)(nO:YF [.Name x p2] X.env=(false,abE (.Name x p2) X.env)::YF [] X.env:=by rfl)(jR:(aaQ pos (YF [.Name x p2] X.env)).any (·.1)=false:=by rfl) :
  DE X G (.Call (.Name "isinstance" p1) [e,.Name x p2] [] pos) b1 .S (jV T g1):=⟨(gU (vo (m:=T) hT) hg zi eV (aL he.un (aL (oy (v:=.ty T) ht zt bt rfl hn hd) dA nO) hs) (by decide) (by decide) hs jR).to fun σ H Q h=>by
 obtain⟨Z,A,ρ,q,f⟩:=h
 obtain⟨⟨u,ρ1⟩,e1,f⟩:=f.bind
 refine⟨Z,A,ρ,q,?_⟩
 rw[e1]
 intro v H1 q1 x1 s1 vm
 dsimp only at f
 split at f
 ·exact f.elim
 ·rename_i hn
  exact⟨v,_,rfl,Iw vm.pk hn,f _ H1 q1 x1 s1 (u7.ofS iQ)⟩⟩
noncomputable def vH (i j:Int):Bool:=decide (-1000000≤i)&&decide (i≤1000000)&&decide (-1000000≤j)&&decide (j≤1000000)
noncomputable def Di (g:Ev→R (List U×Ev)):Ev→R (U×Ev):=fun ρ=>(g ρ).bind fun x=>match x.1 with
 | [.int j]=>if vH 0 j=true then .ok (.lst (aF 0 (j - 0).toNat),x.2) else .stk
 |_=>.stk
noncomputable def Dj (g:Ev→R (List U×Ev)):Ev→R (U×Ev):=fun ρ=>(g ρ).bind fun x=>match x.1 with
 | [.int j]=>if vH 0 j=true then .ok (.tup (aF 0 (j - 0).toNat),x.2) else .stk
 |_=>.stk
theorem rW (lo:Int)(n:Nat):az K H A (aF lo n) ((ZA n).map fun i=>V.int (lo+(i:Nat))):=by
 unfold aF
 have e1:(ZA n).map (fun i=>U.int (lo+(i:Nat)))=((ZA n).map fun i=>lo+(i:Nat)).map U.int:=by rw[Zc];rfl
 have e2:(ZA n).map (fun i=>V.int (lo+(i:Nat)))=((ZA n).map fun i=>lo+(i:Nat)).map V.int:=by rw[Zc];rfl
 rw[e1,e2]
 exact kY _
theorem bA (lo:Int)(n:Nat):(aF lo n).length=n:=by unfold aF;rw[Yp,Z2]
variable {ga:Ev→R (List U×Ev)}{a:aav}{p3 p4:Pos}
theorem GI (hc:X.calm=true)(ha:DA X G [a] b1 false ga)(zl:X.mg "list"=none)(zr:X.mg "range"=none)(hg:Gl X "list":=by rfl)(RI:Gl X "range":=by rfl)
  (hs:YF [.Call (.Name "range" p3) [a] [] p4] X.env=(false,abE (.Call (.Name "range" p3) [a] [] p4) X.env)::YF [] X.env:=by rfl) (nO:YF [a] X.env=(false,abE a X.env)::YF [] X.env:=by rfl)
  (jR:(aaQ pos (YF [] X.env)).any (·.1)=false:=by rfl) (Fs:(aaQ p4 (YF [] X.env)).any (·.1)=false:=by rfl):DE X G (.Call (.Name "list" p1) [.Call (.Name "range" p3) [a] [] p4] [] pos) b1 .O (Di ga):=⟨(gW (q_ hc) hg zl oD (aL (gW mY RI zr vp ha.un (by decide) (by decide) nO Fs) dA hs) (by decide) (by decide) hs jR).to fun σ H Q h=>by
 obtain⟨Z,A,ρ,q,f⟩:=h
 obtain⟨⟨us,ρ1⟩,e1,f⟩:=f.bind
 refine⟨Z,A,ρ,q,?_⟩
 rw[e1]
 intro vs H1 q1 x1 s1 vm
 dsimp only at f
 split at f
 ·rename_i j
  split at f
  ·rename_i hj
   have r:=vm.rps
   unfold az at r
   obtain⟨v,vr,rfl,r1,r2⟩:=r
   unfold az at r2
   subst r2
   unfold Rp at r1
   subst r1
   unfold vH at hj
   simp only[YG,decide_eq_true_eq] at hj
   refine⟨j,rfl,fun p hp=>⟨p,0,j,rfl,aI,by lia,by lia,fun l hl => ?_⟩⟩
   have sp:=b_ hp (.rng 0 j)
   have sl:=b_ hl (.lst ((ZA (j - 0).toNat).map fun i=>V.int (0+(i:Nat))))
   exact f _ _ ((q1.same sp).same sl) (x1.trans (ej.same (sp.trans sl))) (nX s1 (sp.trans sl)) (Cc.e (q1.same sp) sl ⟨l,rfl,hl,cH (q1.same sp).mu (rW 0 _) hl (by rw[bA];have:Yx=16777216:=rfl;lia)⟩)
  ·exact f.elim
 ·exact f.elim⟩
theorem GJ (hc:X.calm=true)(ha:DA X G [a] b1 false ga)(zl:X.mg "tuple"=none)(zr:X.mg "range"=none)(hg:Gl X "tuple":=by rfl)(RI:Gl X "range":=by rfl)
  (hs:YF [.Call (.Name "range" p3) [a] [] p4] X.env=(false,abE (.Call (.Name "range" p3) [a] [] p4) X.env)::YF [] X.env:=by rfl) (nO:YF [a] X.env=(false,abE a X.env)::YF [] X.env:=by rfl)
  (jR:(aaQ pos (YF [] X.env)).any (·.1)=false:=by rfl) (Fs:(aaQ p4 (YF [] X.env)).any (·.1)=false:=by rfl):DE X G (.Call (.Name "tuple" p1) [.Call (.Name "range" p3) [a] [] p4] [] pos) b1 .S (Dj ga):=⟨(gW (pq hc) hg zl dc (aL (gW mY RI zr vp ha.un (by decide) (by decide) nO Fs) dA hs) (by decide) (by decide) hs jR).to fun σ H Q h=>by
 obtain⟨Z,A,ρ,q,f⟩:=h
 obtain⟨⟨us,ρ1⟩,e1,f⟩:=f.bind
 refine⟨Z,A,ρ,q,?_⟩
 rw[e1]
 intro vs H1 q1 x1 s1 vm
 dsimp only at f
 split at f
 ·rename_i j
  split at f
  ·rename_i hj
   have r:=vm.rps
   unfold az at r
   obtain⟨v,vr,rfl,r1,r2⟩:=r
   unfold az at r2
   subst r2
   unfold Rp at r1
   subst r1
   unfold vH at hj
   simp only[YG,decide_eq_true_eq] at hj
   refine⟨j,rfl,fun p hp=>⟨p,0,j,rfl,aI,by lia,by lia,fun l hl => ?_⟩⟩
   have sp:=b_ hp (.rng 0 j)
   have sl:=b_ hl (.tup ((ZA (j - 0).toNat).map fun i=>V.int (0+(i:Nat))))
   exact f _ _ ((q1.same sp).same sl) (x1.trans (ej.same (sp.trans sl))) (nX s1 (sp.trans sl)) (u7.ofS (mq (rW 0 _) hl (by rw[bA];have:Yx=16777216:=rfl;lia)))
  ·exact f.elim
 ·exact f.elim⟩
theorem jg {a:YM}(o:HO):∀b u,b≠a→H b=some u→cm H a o b=some u:=fun b u nb z=>by rw[aD nb];exact z
theorem tW {a:YM}(mu:∀a,A a→Mu (H a))(ha:A a)(r:az K H A us xs)(l:us.length≤Yx):i8 K (cm H a (.lst xs)) A (.lst us) a :=
 ⟨xs,aI,l,r.re mu (fun b o nb z=>jg _ b o (fun y=>nb (y▸ha)) z) fun b z=>.inl z⟩
noncomputable def vI:V→List V→Hp→VK→Prop:=fun x vs H Q=>∃l b xs zs,x=.ref l∧vs=[.ref b]∧H l=some (.lst xs)∧H b=some (.lst zs)∧xs.length+zs.length≤Yx∧Q .non (cm H l (.lst (xs++zs)))
theorem xQ:Fz X "list.extend" vI:=by
 intro pins s σ H x vs v us Q I rx rv h
 obtain⟨l,b,xs,zs,rfl,rfl,hH,hB,hz,q⟩:=h
 cases rx
 obtain⟨u,rfl,ru⟩:=rv.one
 cases ru
 obtain⟨z,aq,n,r,hl,e⟩:=I.lstM hH
 obtain⟨z2,its2,n2,r2,Fp,e2⟩:=I.lstM hB
 have hsz:aq.toArray.size+its2.toArray.size≤Yx:=by rw[YB,YB];lia
 have xb:¬(!aq.toArray.isEmpty&&aaJ (aq.toArray.size+its2.toArray.size))=true:=by
  rw[kH hsz,Bool.and_false]
  exact Yq
 refine acI adJ ⟨_,e,rfl⟩ ado (ac6 _ _)
  (PySem.AutoSeq1.list_extend_list_list_0 l aq.toArray n b its2.toArray n2 xb (by rw[YB];lia) (by lia)) ⟨e,e2,?_⟩
 refine⟨.non,_,I.lset (its':=aq++its2) hH e (by simp) (r.append r2) ?_,rfl,q⟩
 rw[Yu]
 lia
noncomputable def Iy:V→List V→Hp→VK→Prop:=fun x vs H Q=>vI x vs H Q∨vq x vs H Q
theorem oH:Fz X "list.extend" Iy:=xQ.or xF
noncomputable def cZ:U→List U→R (U×U):=fun u us=>match u,us with
 | .lst xs,[.lst ys]=>if xs.length+ys.length≤Yx then .ok (.non,.lst (xs++ys)) else .stk
 | .lst xs,[.tup ys]=>if xs.length+ys.length≤Yx then .ok (.non,.lst (xs++ys)) else .stk
 |_,_=>.stk
theorem iD:Gv K "list" Iy cZ:=fun A H a u vs us z w Q t ha r mu e q=>by
 unfold cZ at e
 split at e
 ·rename_i xs ys
  split at e
  ·rename_i hl
   cases e
   obtain⟨zs,h1,l1,r1⟩:=t
   unfold az at r
   obtain⟨v,vr,rfl,p,r2⟩:=r
   unfold az at r2
   subst r2
   unfold Rp at p
   obtain⟨b,ws,rfl,nb,h2,l2,r3⟩:=p
   exact .inl ⟨a,b,zs,ws,rfl,rfl,h1,h2,by rw[←r1.length,←r3.length];exact hl,q _ _ (jg _) (tW mu ha (r1.append r3) (by rw[Yu];exact hl)) tK⟩
  ·cases e
 ·rename_i xs ys
  split at e
  ·rename_i hl
   cases e
   obtain⟨zs,h1,l1,r1⟩:=t
   unfold az at r
   obtain⟨v,vr,rfl,p,r2⟩:=r
   unfold az at r2
   subst r2
   unfold Rp at p
   obtain⟨b,ws,rfl,h2,l2,r3⟩:=p
   exact .inr ⟨a,b,zs,ws,rfl,rfl,h1,h2,by rw[←r1.length,←r3.length];exact hl,q _ _ (jg _) (tW mu ha (r1.append r3) (by rw[Yu];exact hl)) tK⟩
  ·cases e
 ·cases e
noncomputable def mw:U→List U→R (U×U):=fun u us=>match u,us with
 | .lst xs,[.int i]=>if -9223372036854775808≤i∧i<9223372036854775808 then (match ad8 i xs.length with
  |some k=>match xs[k]? with
   |some y=>.ok (y,.lst (xs.eraseIdx k))
   |none=>.stk
  |none=>.stk) else .stk
 |_,_=>.stk
theorem az.erase {H:Hp}{A:YM→Prop}:∀{us:List U} {vs:List V} (n:Nat),az K H A us vs→az K H A (us.eraseIdx n) (vs.eraseIdx n)
 | [],vs,n,h=>by unfold az at h;subst h;exact az.nil
 |u::us,vs,0,h=>by
  unfold az at h
  obtain⟨x,r,rfl,p,q⟩:=h
  exact q
 |u::us,vs,n+1,h=>by
  unfold az at h
  obtain⟨x,r,rfl,p,q⟩:=h
  exact az.cons p (az.erase n q)
theorem Bp:Gv K "list" CC mw:=fun A H a u vs us z w Q t ha r mu e q=>by
 unfold mw at e
 split at e
 ·rename_i xs i
  split at e
  ·rename_i hi
   split at e
   ·rename_i k hk
    split at e
    ·rename_i y hy
     cases e
     obtain⟨zs,h1,l1,r1⟩:=t
     unfold az at r
     obtain⟨v,vr,rfl,p,r2⟩:=r
     unfold az at r2
     subst r2
     unfold Rp at p
     subst p
     obtain⟨v,h2,h3⟩:=r1.get hy
     exact⟨a,zs,i,k,v,rfl,rfl,h1,by have:=hi.1;lia,by have:=hi.2;lia,by rw[←r1.length];exact hk,h2,q _ _ (jg _) (tW mu ha (r1.erase k) (Zd (List.length_eraseIdx_le _ _) l1)) (h3.re mu (fun b o nb z=>jg _ b o (fun y=>nb (y▸ha)) z) fun b z=>.inl z)⟩
    ·cases e
   ·cases e
  ·cases e
 ·cases e
end
end L2
namespace L2
section
variable {m:Md}
theorem xR:fU K (AX fun i j=>.bl (decide (i<j))) .S NS:=Dd
theorem pP:fU K (AX fun i j=>.bl (decide (j<i))) .S GG:=Dd
theorem K8:fU K (AX fun i j=>.bl (decide (j≤i))) .S QR:=Dd
theorem GK {Mh:List adh}:xm X G m Mh (fun _=>.stk):=⟨fun pins s σ H D I h=>by
 obtain⟨Z,A,ρ,q,f⟩:=h
 exact f.elim⟩
noncomputable def K9:Ev→R (U×Ev):=fun ρ=>.ok (.dct [] [],ρ)
theorem jh:DE X G (.Dict [] [] pos) false .O K9:=⟨CI.to fun σ H Q h=>by
 obtain⟨Z,A,ρ,q,f⟩:=h
 intro a na
 have sn:=b_ na (.dK [])
 exact f _ _ (q.same sn) (ej.same sn) (fun _=>⟨rfl,sn⟩) (Cc.e q sn ⟨a,rfl,na,[],.inl ⟨[],aI,rfl,rfl⟩,Nat.zero_le _,az.nil⟩)⟩
end
end L2
namespace L2
noncomputable def K_ (H:Hp)(a:YM)(y:V)(o:Option V):Prop:=Ga H a y o∨∃es k b,fT H a es∧y=.ref b∧rg H k b∧o=iX es k
noncomputable def Pz (H:Hp)(a:YM)(y v:V)(C:Hp→Prop):Prop:=(∃H',NG H a y v H'∧C H')∨∃es k b,fT H a es∧y=.ref b∧rg H k b∧es.length≤Yx∧∀ep,C (cm H a (DN a ep (gL es k b v)))
noncomputable def La (H:Hp)(a:YM):Prop:=UM H a∨∃es,fT H a es
section
variable {d:V}{u r:Yv}{o:Option V}{A:Zw}
theorem Dk (I:aw X pins σ H s)(g:K_ H a y o):s.TypeIs (.ref a) "dict":=by
 rcases g with g|⟨es,k,b,g,_⟩
 ·exact vn I g
 ·exact g.typeIs I
theorem NV (I:aw X pins σ H s)(d:La H a):s.TypeIs (.ref a) "dict"∧(∀b,Value.ref a=.ref b→∃ob,s.heap.get? b=some ob∧ob.dict=none):=by
 rcases d with d|⟨es,d⟩
 ·obtain⟨x,y,_⟩:=KA I d;exact⟨x,y⟩
 ·exact⟨d.typeIs I,d.noDict I⟩
theorem Bq (hu:A.units+64<abp)(I:aw X pins σ H s)(g:K_ H a y (some v))(ry:aO y u)(h:∀w' s',aw X pins σ H s'→aO v w'→Q w' s') :
  YR (Y7 X.prog X.w) A (adm (.ref a) u) Q E s:=by
 rcases g with g|⟨es,k,b,g,rfl,kb,e⟩
 ·exact A_ (by lia) I g ry h
 ·cases ry;exact Be hu I g kb e.symm h
theorem Lb (hu:A.units+64<abp)(I:aw X pins σ H s)(g:K_ H a y o)(ry:aO y u)(rd:aO d r)(h:∀w' s',aw X pins σ H s'→aO (o.getD d) w'→Q w' s') :
  YR (Y7 X.prog X.w) A (call (.builtin "dict.get") [.ref a,u,r]) Q E s:=by
 rcases g with g|⟨es,k,b,g,rfl,kb,e⟩
 ·exact KC (by lia) I g ry rd h
 ·cases ry;subst e;exact KN hu I g kb rd h
theorem Br {C:Hp→Prop}{Q:Unit→YK→Prop}(hu:A.units+64<abp)(I:aw X pins σ H s)(g:Pz H a y v C)(ry:aO y u)(rv:aO v r)(h:∀H' s',C H'→aw X pins σ H' s'→Q () s') :
  YR (Y7 X.prog X.w) A (setItem (.ref a) u r) Q E s:=by
 rcases g with⟨H',g,c⟩|⟨es,k,b,g,rfl,kb,hz,e⟩
 ·exact Ba (by lia) I g ry rv fun s'=>h H' s' c
 ·cases ry;exact Bf hu I g kb hz rv fun ep s'=>h _ s' (e ep)
end
noncomputable def NW (td ty:TE):TE:=fun σ H Q=>td σ H fun x H1=>ty σ H1 fun y H2=>∃a v,x=.ref a∧K_ H2 a y (some v)∧Q v H2
noncomputable def Lc (td ty tx:TE):TE:=fun σ H Q=>td σ H fun x H1=>∃a,x=.ref a∧La H1 a∧ty σ H1 fun y H2=>tx σ H2 fun z H3=>∃o,K_ H3 a y o∧Q (o.getD z) H3
noncomputable def NY (td ty tv:TE):TS:=fun D σ H=>tv σ H fun v H1=>td σ H1 fun x H2=>ty σ H2 fun y H3=>∃a,x=.ref a∧Pz H3 a y v fun H4=>D.nx σ H4
section
variable {o i e f value:aav}{uW dw cpos:Pos}{td ty tv tx:TE}
theorem GL (hu:X.A.units+64<abp)(ho:PE X o td)(hi:PE X i ty)(hs:Ky i):PE X (.Subscript o i pos) (NW td ty):=by
 intro pins s σ H Q I h
 refine Gb PySem.F.slot_dict_getitem.lookup hs (dz (ho pins s σ H _ I h) fun u s1 ⟨x,H1,I1,rx,q1⟩=>dz (hi pins s1 σ H1 _ I1 q1) fun iv s2 ⟨y,H2,I2,ry,a,v,ex,g,q2⟩ => ?_)
 subst ex
 obtain rfl:u=Value.ref a:=rx
 exact⟨Dk I2 g,Bq hu I2 g ry fun w' s3 I3 xf=>⟨v,H2,I3,xf,q2⟩⟩
theorem Dl (hu:X.A.units+64<abp)(ho:PE X o td)(he:PE X e ty)(hf:PE X f tx)(m:M2 X o "get" dw e f cpos):PE X (.Call (.Attribute o "get" dw) [e,f] [] cpos) (Lc td ty tx):=by
 intro pins s σ H Q I h
 refine acL m.base m.few m.line abv abP PySem.F.type_dict_get (dz (ho pins s σ H _ I h) fun u s1 ⟨x,H1,I1,rx,a,ex,d,q1⟩ => ?_)
 subst ex
 obtain rfl:u=Value.ref a:=rx
 obtain⟨t1,t2⟩:=NV I1 d
 refine⟨t1,t2,?_⟩
 rw[m.trees]
 refine aaY rfl (ac5 (adH (dz (he pins s1 σ H1 _ I1 q1) fun iv s2 ⟨y,H2,I2,ry,q2⟩ =>
  adH (dz (hf pins s2 σ H2 _ I2 q2) fun fv s3 ⟨z,H3,I3,rz,ov,g,q3⟩=>Calls.spliced_nil ?_))))
 exact Lb hu I3 g ry rz fun w' s4 I4 xf=>⟨_,H3,I4,xf,q3⟩
theorem GN (hu:X.A.units+64<abp)(ho:PE X o td)(hi:PE X i ty)(hv:PE X value tv)(hs:adj value (some (.Subscript o i uW)) pos.line X.env=pure false) :
  PS X (.Assign [.Subscript o i uW] value pos) (NY td ty tv):=by
 intro pins s σ H D I h
 refine wpAny_Assign_Subscript (dz (hv pins s σ H _ I h) fun r s1 ⟨v,H1,I1,rv,q1⟩=>dz (ho pins s1 σ H1 _ I1 q1) fun u s2 ⟨x,H2,I2,rx,q2⟩=>dz (hi pins s2 σ H2 _ I2 q2) fun iv s3 ⟨y,H3,I3,ry,a,ex,g⟩ => ?_) hs
 subst ex
 obtain rfl:u=Value.ref a:=rx
 exact Br hu I3 g ry rv fun H4 s4 q3 I4=>⟨σ,H4,I4,q3⟩
end
noncomputable def Dm:U→Bool
 | .int _=>true
 | .str _=>true
 |_=>false
mutual
noncomputable def tX:U→Bool
 | .int _=>true
 | .tup us=>vJ us
 |_=>false
noncomputable def vJ:List U→Bool
 | []=>true
 |u::us=>tX u&&vJ us
end
noncomputable def Bs:U→Bool
 | .tup us=>vJ us&&decide (rf us≤6)
 |_=>false
noncomputable def GO:U→Bool
 | .tup _=>true
 |_=>false
noncomputable def kZ (ks:List U)(k:U):Bool:=(Dm k&&ks.all Dm)||(Bs k&&ks.all GO)
noncomputable def gu:List U→List U→U→Option U
 |k'::ks,u::us,k=>if k'=k then some u else gu ks us k
 |_,_,_=>none
noncomputable def fg (ks us:List U)(k v:U):List U:=if k∈ks then aaT (fun k' u=>if k'=k then v else u) ks us else us++[v]
noncomputable def gE (ks:List U)(k:U):List U:=if k∈ks then ks else ks++[k]
mutual
theorem NZ:∀{u:U} {v:V},tX u=true→Rp K H A u v→KH H u v
 | .int i,v,_,h=>by unfold Rp at h;unfold KH;exact h
 | .tup us,v,k,h=>by
  unfold tX at k
  unfold Rp at h;unfold KH
  obtain⟨a,xs,r,q,l,z⟩:=h
  exact⟨a,xs,r,q,l,xS k z⟩
 | .non,v,k,h=>by unfold tX at k;cases k
 | .bl _,v,k,h=>by unfold tX at k;cases k
 | .str _,v,k,h=>by unfold tX at k;cases k
 | .lst _,v,k,h=>by unfold tX at k;cases k
 | .dct _ _,v,k,h=>by unfold tX at k;cases k
 | .scr _,v,k,h=>by unfold tX at k;cases k
theorem xS:∀{us:List U} {vs:List V},vJ us=true→az K H A us vs→pA H us vs
 | [],vs,_,h=>by unfold az at h;unfold pA;exact h
 |u::us,vs,k,h=>by
  unfold vJ at k
  rw[YG] at k
  unfold az at h;unfold pA
  obtain⟨x,r,q,p,z⟩:=h
  exact⟨x,r,q,NZ k.1 p,xS k.2 z⟩
end
theorem vK (k:Bs (.tup us)=true)(h:Rp K H A (.tup us) v):∃b,v=.ref b∧rg H us b:=by
 unfold Bs at k
 rw[YG] at k
 unfold Rp at h
 obtain⟨a,xs,r,q,l,z⟩:=h
 exact⟨a,r,of_decide_eq_true k.2,xs,q,l,xS k.1 z⟩
theorem Iz (k:Dm u=true)(h:Rp K H A u v):∃q:Key,u=kU q∧v=kV q:=by
 cases u<;>first|(cases k;done)|skip
 ·unfold Rp at h;exact⟨.inl _,rfl,h⟩
 ·unfold Rp at h;exact⟨.inr _,rfl,h⟩
theorem xT {a b:Key}(h:kU a=kU b):a=b:=by
 cases a<;>cases b<;>unfold kU at h<;>first|(cases h;rfl)|cases h
theorem xU {k:Key}:∀{aJ:List (Key×V)} {us:List U},az K H A us (aJ.map (·.2))→(∀u,gu (aJ.map fun p=>kU p.1) us (kU k)=some u→∃v,nW aJ k=some v∧Rp K H A u v)∧(gu (aJ.map fun p=>kU p.1) us (kU k)=none→nW aJ k=none)
 | [],us,r=>⟨(fun u h=>by unfold gu at h;cases h),fun _=>rfl⟩
 |p::aJ,us,r=>by
  cases us with
  |nil=>unfold az at r;cases r
  |cons u us =>
   unfold az at r
   obtain⟨x,rr,e,h1,h2⟩:=r
   cases e
   rw[Yw]
   unfold gu
   by_cases c:p.1=k
   ·rw[if_pos (by rw[c]),kJ c]
    exact⟨fun w h=>by cases h;exact⟨_,rfl,h1⟩,fun h=>by cases h⟩
   ·rw[if_neg (fun z=>c (xT z)),kK c]
    exact xU h2
theorem tY {k:List U}:∀{es:List (List U×YM×V)} {us:List U},az K H A us (es.map (·.2.2))→(∀u,gu (es.map fun p=>.tup p.1) us (.tup k)=some u→∃v,iX es k=some v∧Rp K H A u v)∧(gu (es.map fun p=>.tup p.1) us (.tup k)=none→iX es k=none)
 | [],us,r=>⟨(fun u h=>by unfold gu at h;cases h),fun _=>rfl⟩
 |p::es,us,r=>by
  cases us with
  |nil=>unfold az at r;cases r
  |cons u us =>
   unfold az at r
   obtain⟨x,rr,e,h1,h2⟩:=r
   cases e
   rw[Yw]
   unfold gu iX
   rw[Z9]
   by_cases c:p.1=k
   ·rw[if_pos (by rw[c]),decide_eq_true c]
    exact⟨fun w h=>by cases h;exact⟨_,rfl,h1⟩,fun h=>by cases h⟩
   ·rw[if_neg (fun z=>c (kN.mp z)),decide_eq_false c]
    exact tY h2
theorem Dn {k:U}(d:tG H a ks xs)(r:az K H A us xs)(f:kZ ks k=true)(hk:Rp K H A k y) :
  ∃o,K_ H a y o∧(∀u,gu ks us k=some u→∃v,o=some v∧Rp K H A u v)∧(gu ks us k=none→o=none):=by
 unfold kZ at f
 rw[aaV,YG,YG] at f
 rcases d with⟨aJ,h,e1,e2⟩|⟨es,n,h,e1,e2⟩
 ·rcases f with⟨f1,f2⟩|⟨f1,f2⟩
  ·obtain⟨q,rfl,rfl⟩:=Iz f1 hk
   subst e1 e2
   exact⟨_,.inl (.inl ⟨aJ,q,.inl h,rfl,rfl⟩),(xU r).1,(xU r).2⟩
  ·cases aJ with
   |nil =>
    subst e1 e2
    cases k<;>first|(cases f1;done)|skip
    rename_i kk
    obtain⟨b,rfl,kt⟩:=vK f1 hk
    exact⟨none,.inr ⟨[],kk,b,⟨.inr ⟨rfl,h⟩,abA,(fun e he=>by cases he)⟩,rfl,kt,rfl⟩,(fun u z=>by unfold gu at z;cases z),fun _=>rfl⟩
   |cons p aJ =>
    exfalso
    subst e1
    rw[Yw,ZX,YG] at f2
    obtain⟨p1,p2⟩:=p
    cases p1<;>cases f2.1
 ·rcases f with⟨f1,f2⟩|⟨f1,f2⟩
  ·exfalso
   subst e1
   cases es with
   |nil=>exact n rfl
   |cons p es=>rw[Yw,ZX,YG] at f2;cases f2.1
  ·subst e1 e2
   cases k<;>first|(cases f1;done)|skip
   rename_i kk
   obtain⟨b,rfl,kt⟩:=vK f1 hk
   exact⟨_,.inr ⟨es,kk,b,h,rfl,kt,rfl⟩,(tY r).1,(tY r).2⟩
end L2
namespace L2
theorem az.snoc (h:az K H A us vs)(p:Rp K H A u v):az K H A (us++[u]) (vs++[v]):=h.append (az.cons p az.nil)
theorem N0 {k:Key}(aJ:List (Key×V)):(aJ.any fun kv=>decide (kv.1=k))=decide (kU k∈aJ.map fun p=>kU p.1):=by
 rw[aap,List.any_eq_true,decide_eq_true_eq,Y9]
 constructor
 ·rintro⟨p,h1,h2⟩
  exact⟨p,h1,by rw[of_decide_eq_true h2]⟩
 ·rintro⟨p,h1,h2⟩
  exact⟨p,h1,decide_eq_true (xT h2)⟩
theorem zy {k:Key}(aJ:List (Key×V))(v:V):kI aJ k v=if (aJ.any fun kv=>decide (kv.1=k))=true then aJ.map (fun kv=>if kv.1=k then (kv.1,v) else kv) else aJ++[(k,v)]:=by
 unfold kI;rfl
theorem Bt {k:Key}(aJ:List (Key×V))(v:V):(kI aJ k v).map (fun p=>kU p.1)=gE (aJ.map fun p=>kU p.1) (kU k):=by
 rw[zy,N0]
 unfold gE
 by_cases c:kU k∈aJ.map fun p=>kU p.1
 ·rw[decide_eq_true c,if_pos rfl,if_pos c,Zc]
  refine Zv fun p _ => ?_
  show kU (if p.1=k then (p.1,v) else p).1=kU p.1
  split<;>rfl
 ·rw[decide_eq_false c,if_neg Yq,if_neg c,Y2];rfl
theorem Bu {k:Key}(p:Rp K H A u v){aJ:List (Key×V)}(r:az K H A us (aJ.map (·.2))):az K H A (fg (aJ.map fun p=>kU p.1) us (kU k) u) ((kI aJ k v).map (·.2)):=by
 rw[zy,N0]
 unfold fg
 by_cases c:kU k∈aJ.map fun p=>kU p.1
 ·rw[decide_eq_true c,if_pos rfl,if_pos c]
  clear c
  induction aJ generalizing us with
  |nil =>
   rw[ZM] at r
   unfold az at r
   cases us with
   |nil=>exact az.nil
   |cons=>obtain⟨_,_,e,_⟩:=r;cases e
  |cons q aJ ih =>
   cases us with
   |nil=>unfold az at r;cases r
   |cons w us =>
    unfold az at r
    obtain⟨x,rr,e,h1,h2⟩:=r
    cases e
    rw[Yw,Yw,Yw,aaZ]
    refine az.cons ?_ (ih h2)
    by_cases c:q.1=k
    ·rw[if_pos (by rw[c]),if_pos c];exact p
    ·rw[if_neg (fun z=>c (xT z)),if_neg c];exact h1
 ·rw[decide_eq_false c,if_neg Yq,if_neg c,Y2]
  exact r.snoc p
theorem k_ {k:List U}:∀(es:List (List U×YM×V)),(iX es k).isSome=decide (U.tup k∈es.map fun p=>U.tup p.1)
 | []=>by simp[iX]
 |e::es=>by
  have ih:=k_ (k:=k) es
  unfold iX at ih ⊢
  rw[Z9,Yw]
  by_cases c:e.1=k
  ·rw[decide_eq_true c,decide_eq_true (by rw[c];exact YO)];rfl
  ·rw[decide_eq_false c]
   dsimp only
   rw[ih,aap,decide_eq_true_eq,decide_eq_true_eq,YU]
   constructor
   ·exact .inr
   ·rintro (z|z)
    ·exact absurd (kN.mp z).symm c
    ·exact z
theorem rX {k:List U}(es:List (List U×YM×V))(v:V):(gL es k b v).map (fun p=>U.tup p.1)=gE (es.map fun p=>.tup p.1) (.tup k):=by
 unfold gL gE
 rw[k_]
 by_cases c:U.tup k∈es.map fun p=>U.tup p.1
 ·rw[decide_eq_true c,if_pos rfl,if_pos c,Zc]
  refine Zv fun p _ => ?_
  show U.tup (if p.1=k then (p.1,p.2.1,v) else p).1=.tup p.1
  split<;>rfl
 ·rw[decide_eq_false c,if_neg Yq,if_neg c,Y2];rfl
theorem rY {k:List U}(p:Rp K H A u v)(r:az K H A us (es.map (·.2.2))):az K H A (fg (es.map fun p=>.tup p.1) us (.tup k) u) ((gL es k b v).map (·.2.2)):=by
 unfold gL fg
 rw[k_]
 by_cases c:U.tup k∈es.map fun p=>U.tup p.1
 ·rw[decide_eq_true c,if_pos rfl,if_pos c]
  clear c
  induction es generalizing us with
  |nil =>
   rw[ZM] at r
   unfold az at r
   cases us with
   |nil=>exact az.nil
   |cons=>obtain⟨_,_,e,_⟩:=r;cases e
  |cons q es ih =>
   cases us with
   |nil=>unfold az at r;cases r
   |cons w us =>
    unfold az at r
    obtain⟨x,rr,e,h1,h2⟩:=r
    cases e
    rw[Yw,Yw,Yw,aaZ]
    refine az.cons ?_ (ih h2)
    by_cases c:q.1=k
    ·rw[if_pos (by rw[c]),if_pos c];exact p
    ·rw[if_neg (fun z=>c (kN.mp z)),if_neg c];exact h1
 ·rw[decide_eq_false c,if_neg Yq,if_neg c,Y2]
  exact r.snoc p
theorem zA {k:List U}(h:(es.map (·.1)).Nodup):((gL es k b v).map (·.1)).Nodup:=by
 unfold gL
 split
 ·rw[Zc]
  have:es.map ((fun x=>x.1)∘fun e=>if e.1=k then (e.1,e.2.1,v) else e)=es.map (·.1):=Zv fun e _=>by
   show (if e.1=k then (e.1,e.2.1,v) else e).1=e.1
   split<;>rfl
  rw[this];exact h
 ·rename_i c
  rw[Y2,Yw,ZM]
  refine aea.mpr ⟨h,by simp,?_⟩
  intro x hx y hy e
  rw[Zt.mp hy] at e
  subst e
  rw[k_] at c
  apply c
  rw[decide_eq_true_eq]
  obtain⟨e,he,rfl⟩:=Y9.mp hx
  exact Y9.mpr ⟨e,he,rfl⟩
theorem vL {k:List U}(h:∀e∈es,rg H e.1 e.2.1)(kb:rg H k b):∀e∈gL es k b v,rg H e.1 e.2.1:=by
 unfold gL
 split
 ·intro e he
  obtain⟨e',h1,rfl⟩:=Y9.mp he
  split
  ·exact h e' h1
  ·exact h e' h1
 ·intro e he
  rcases Y4.mp he with z|z
  ·exact h e z
  ·rw[Zt.mp z];exact kb
theorem zB {k:List U}:gL es k b v≠[]:=by
 unfold gL
 split
 ·rename_i c
  intro z
  cases es with
  |nil=>cases c
  |cons e es=>cases z
 ·simp
theorem Dp {k v:U}(h:ks.length=us.length):(fg ks us k v).length≤us.length+1:=by
 unfold fg
 split
 ·rw[abw];lia
 ·rw[Yu,Z0];exact YC _
theorem tG.len (d:tG H a ks xs)(r:az K H A us xs):ks.length=us.length:=by
 rcases d with⟨aJ,_,rfl,rfl⟩|⟨es,_,_,rfl,rfl⟩
 ·rw[r.length,Yp,Yp]
 ·rw[r.length,Yp,Yp]
theorem Ld {k w:U}(mu:∀a,A a→Mu (H a))(ha:A a)(d:tG H a ks xs)(r:az K H A us xs)(f:kZ ks k=true)(hk:Rp K H A k y)(hw:Rp K H A w v)(hl:us.length<Yx){C:Hp→Prop}(hC:∀H',(∀b o,b≠a→H b=some o→H' b=some o)→i8 K H' A (.dct (gE ks k) (fg ks us k w)) a→C H'):Pz H a y v C:=by
 have ln:=d.len r
 have l2:(fg ks us k w).length≤Yx:=Zd (Dp ln) hl
 have nt:∀b ys,H b=some (.tup ys)→b≠a:=fun b ys h e=>by
  subst e
  have:=mu b ha
  rw[h] at this;exact this
 have fin:∀(o:HO) (zs:List V),tG (cm H a o) a (gE ks k) zs→az K H A (fg ks us k w) zs→i8 K (cm H a o) A (.dct (gE ks k) (fg ks us k w)) a:=fun o zs d' r' =>
  ⟨zs,d',l2,r'.re mu (fun b o' nb z=>jg _ b o' (fun y=>nb (y▸ha)) z) fun b z=>.inl z⟩
 have O4:∀(es:List (List U×YM×V)) (kk:List U) (b:YM),fT H a es→rg H kk b→k=.tup kk→y=.ref b→ks=es.map (fun p=>.tup p.1)→xs=es.map (·.2.2)→Pz H a y v C:=by
  rintro es kk b h kt rfl rfl rfl rfl
  have le:es.length=us.length:=by rw[r.length,Yp]
  refine .inr ⟨es,kk,b,h,rfl,kt,by lia,fun ep=>hC _ (jg _) (fin _ _ (.inr ⟨gL es kk b v,zB,?_,(rX es v).symm,rfl⟩) (rY hw r))⟩
  have tp:∀c ys,H c=some (.tup ys)→cm H a (DN a ep (gL es kk b v)) c=some (.tup ys):=fun c ys hc=>by rw[aD (nt c ys hc)];exact hc
  exact⟨.inl ⟨ep,aI⟩,zA h.nd,fun e he=>(vL h.key kt e he).to tp⟩
 unfold kZ at f
 rw[aaV,YG,YG] at f
 rcases d with⟨aJ,h,e1,e2⟩|⟨es,n,h,e1,e2⟩
 ·rcases f with⟨f1,f2⟩|⟨f1,f2⟩
  ·obtain⟨q,rfl,rfl⟩:=Iz f1 hk
   subst e1 e2
   have lk:aJ.length=us.length:=by rw[r.length,Yp]
   exact .inl ⟨_,.inl ⟨aJ,q,h,rfl,by lia,rfl⟩,hC _ (jg _) (fin _ _ (.inl ⟨_,aI,(Bt aJ v).symm,rfl⟩) (Bu hw r))⟩
  ·cases aJ with
   |nil =>
    subst e1 e2
    cases k<;>first|(cases f1;done)|skip
    rename_i kk
    obtain⟨b,rfl,kt⟩:=vK f1 hk
    exact O4 [] kk b ⟨.inr ⟨rfl,h⟩,abA,(fun e he=>by cases he)⟩ kt rfl rfl rfl rfl
   |cons p aJ =>
    exfalso
    subst e1
    rw[Yw,ZX,YG] at f2
    obtain⟨p1,p2⟩:=p
    cases p1<;>cases f2.1
 ·rcases f with⟨f1,f2⟩|⟨f1,f2⟩
  ·exfalso
   subst e1
   cases es with
   |nil=>exact n rfl
   |cons p es=>rw[Yw,ZX,YG] at f2;cases f2.1
  ·cases k<;>first|(cases f1;done)|skip
   rename_i kk
   obtain⟨b,rfl,kt⟩:=vK f1 hk
   exact O4 es kk b h kt rfl rfl e1 e2
section
variable {o i e f value:aav}{uW dw cpos p1:Pos}{b1 b2 b3:Bool}{m m1 m2 m3:Md}{g1 g2 g3:Ev→R (U×Ev)}{y:Str}
noncomputable def mx:U→U→R U:=fun u w=>match u with
 | .dct ks us=>if kZ ks w=true then (match gu ks us w with
  |some z=>.ok z
  |none=>.stk) else .stk
 |_=>.stk
theorem N1 (h:Pk K H A u v)(c:Dm u=true∨GO u=true):Rp K H A u v:=by
 cases u<;>first|(exfalso;rcases c with c|c<;>cases c;done)|(unfold Pk at h;unfold Rp;exact h)
theorem GP {k:U}(f:kZ ks k=true):Dm k=true∨GO k=true:=by
 unfold kZ at f
 rw[aaV,YG,YG] at f
 rcases f with⟨f,_⟩|⟨f,_⟩
 ·exact .inl f
 ·cases k<;>first|(cases f;done)|exact .inr rfl
theorem tZ (hu:X.A.units+64<abp)(ha:DE X G o b1 m1 g1)(hb:DE X G i b2 m2 g2)(hs:Ky i:=by intro _ _;rfl)(hm:m1=.P→b2=false:=by first|exact fun _=>rfl|exact fun h=>nomatch h):DE X G (.Subscript o i pos) (b1||b2) .S (aZ mx g1 g2):=⟨(GL hu ha.un hb.un hs).to fun σ H Q h=>by
 have hp:fU X.K (fun x y H Q=>∃a v,x=.ref a∧K_ H a y (some v)∧Q v H) .S mx:=fun A H x y u w z Q hx hy mu e q=>by
  unfold mx at e
  split at e
  rotate_left
  ·cases e
  split at e
  ·rename_i fk
   split at e
   ·rename_i z' hz
    cases e
    unfold Pk at hx
    obtain⟨a,xs,rfl,d,l,r⟩:=hx
    obtain⟨ov,g,q1,_⟩:=Dn d r fk (N1 hy (GP fk))
    obtain⟨v,rfl,rp⟩:=q1 _ hz
    exact⟨a,v,rfl,g,q v H (aH.refl _) rp⟩
   ·cases e
  ·cases e
 exact kO hp hm h⟩
noncomputable def fA (i:Nat)(g2 g3:Ev→R (U×Ev)):Ev→R (U×Ev):=fun ρ=>match ρ[i]? with
 |some (some (.dct _ _))=>(g2 ρ).bind fun k=>(g3 k.2).bind fun x=>match x.2[i]? with
  |some (some (.dct ks us))=>if kZ ks k.1=true then .ok ((gu ks us k.1).getD x.1,x.2) else .stk
  |_=>.stk
 |_=>.stk
theorem GQ {K:Yy}(d:tG H a ks xs):La H a:=by
 rcases d with⟨aJ,h,_⟩|⟨es,_,h,_⟩
 ·exact .inl (.inl ⟨aJ,.inl h⟩)
 ·exact .inr ⟨es,h⟩
theorem rZ (q:cE K G Z A ρ σ H)(h:ρ[j]? = some (some (.dct ks us))):∃a xs,σ[j]? = some (some (.ref a))∧tG H a ks xs∧us.length≤Yx∧az K H A us xs:=by
 obtain⟨v,h1,h2⟩:=q.slot j _ h
 by_cases c:G.is j=true
 ·rw[if_pos c] at h2
  obtain⟨a,rfl,_,_,_,t⟩:=h2
  obtain⟨xs,d,l,r⟩:=t
  exact⟨a,xs,h1,d,l,r⟩
 ·rw[if_neg c] at h2
  unfold Rp at h2
  obtain⟨a,xs,rfl,_,d,l,r⟩:=h2
  exact⟨a,xs,h1,d,l,r⟩
theorem lh (hu:X.A.units+64<abp)(he:DE X G e b1 m1 g1)(hf:DE X G f b2 m2 g2)(n1:m1≠.P:=by decide)(n2:m2≠.P:=by decide)(hN:X.N[j]? = some y:=by rfl)(hv:yZ X.env.scope y:=by first|exact Or.inl rfl|exact Or.inr (Or.inl rfl)|exact Or.inr (Or.inr rfl))(hd:(y==("__debug__":Str))=false:=by decide)(iP:(y==("__classdict__":Str))=false:=by decide)(M:M2 X (.Name y p1) "get" dw e f cpos:=by exact⟨rfl,rfl,rfl,rfl⟩):DE X G (.Call (.Attribute (.Name y p1) "get" dw) [e,f] [] cpos) (b1||b2) .S (fA j g1 g2):=⟨(Dl hu (fq hN hv hd iP) he.un hf.un M).to fun σ H Q h=>by
 obtain⟨Z,A,ρ,q,f⟩:=h
 unfold fA at f
 split at f
 ·rename_i Yj Yk h0
  obtain⟨a,xs0,s0,d0,_,_⟩:=rZ q h0
  obtain⟨⟨k,ρ1⟩,e1,f⟩:=f.bind
  obtain⟨⟨x,ρ2⟩,e2,f⟩:=f.bind
  dsimp only at e2 f
  split at f
  ·rename_i ks us h2
   split at f
   ·rename_i fk
    refine⟨.ref a,s0,a,rfl,GQ (K:=X.K) d0,Z,A,ρ,q,?_⟩
    rw[e1]
    intro v1 H1 q1 x1 s1 qY
    refine⟨Z,A,ρ1,q1,?_⟩
    rw[e2]
    intro v2 H2 q2 x2 s2 yT
    obtain⟨a',xs,s0',d,_,r⟩:=rZ q2 h2
    rw[s0] at s0';cases s0'
    obtain⟨ov,g,z1,z2⟩:=Dn d r fk (qY.laterS q1 x2 n1)
    refine⟨ov,g,f _ H2 q2 (x1.trans x2) (two s1 s2) ?_⟩
    cases hz:gu ks us k with
    |none=>rw[z2 hz];exact yT.rp n2
    |some w=>obtain⟨v,rfl,rp⟩:=z1 _ hz;exact rp
   ·exact f.elim
  ·exact f.elim
 ·exact f.elim⟩
noncomputable def eQ (i:Nat)(gv gk:Ev→R (U×Ev)):Ev→SR:=fun ρ=>SR.of (gv ρ) fun x=>if C0 x.2 i=true then SR.of (gk x.2) fun y=>match y.2[i]? with
 |some (some (.dct ks us))=>if kZ ks y.1=true∧us.length<Yx then .nx (y.2.set i (some (.dct (gE ks y.1) (fg ks us y.1 x.1)))) else .stk
 |_=>.stk
 else .stk
theorem lj (hu:X.A.units+64<abp)(hv:DE X G value b1 m1 g1)(hk:DE X G i b2 m2 g2)(n1:m1≠.P:=by decide)(n2:m2≠.P:=by decide)(hN:X.N[j]? = some y:=by rfl)(V9:yZ X.env.scope y:=by first|exact Or.inl rfl|exact Or.inr (Or.inl rfl)|exact Or.inr (Or.inr rfl))(c:G.is j=true:=by rfl)(hd:(y==("__debug__":Str))=false:=by decide)(iP:(y==("__classdict__":Str))=false:=by decide)(hs:adj value (some (.Subscript (.Name y p1) i uW)) pos.line X.env=pure false:=by rfl):DS X G m (.Assign [.Subscript (.Name y p1) i uW] value pos) (eQ j g1 g2):=⟨(GN hu (fq hN V9 hd iP) hk.un hv.un hs).to fun D σ H h00=>by
 obtain⟨Z,A,ρ,q,f⟩:=h00
 obtain⟨⟨w,ρ1⟩,e1,f⟩:=f.of
 refine⟨Z,A,ρ,q,?_⟩
 rw[e1]
 intro v H1 q1 x1 s1 vm
 dsimp only at f
 split at f
 ·rename_i hl
  obtain⟨u00,hu0⟩:=tM hl
  obtain⟨a0,h0,_⟩:=q1.own c hu0
  obtain⟨⟨k,ρ2⟩,e2,f⟩:=f.of
  refine⟨.ref a0,h0,Z,A,ρ1,q1,?_⟩
  rw[e2]
  intro v2 H2 q2 x2 s2 yT
  dsimp only at f
  split at f
  ·rename_i ks us Ve
   split at f
   ·rename_i fk
    obtain⟨a0',k1,k2,_,_,k5⟩:=q2.own c Ve
    rw[h0] at k1;cases k1
    obtain⟨xs,d,_,r⟩:=k5
    exact⟨a0,rfl,Ld q2.mu k2 d r fk.1 (yT.rp n2) ((vm.rp n1).re q1.mu x2 fun b z=>.inl z) fk.2 fun H' em t=>f A σ H' (q2.put c Ve h0 em t)⟩
   ·exact f.elim
  ·exact f.elim
 ·exact f.elim⟩
end
end L2
namespace L2
theorem vM {xs:List V}{us:List Yv}(r:aQ xs us):∀n:Nat,aQ (Zh n xs).flatten (Zh n us).flatten
 |0=>.nil
 |n+1=>by
  rw[aah,aah,Zk,Zk]
  exact r.append (vM r n)
theorem zC {α:Type}(xs:List α)(n:Nat):(Zh n xs).flatten.length=xs.length*n:=by
 simp[Nat.mul_comm]
theorem zD {H:Hp}{A:YM→Prop}{us:List U}{xs:List V}(r:az K H A us xs):∀n:Nat,az K H A (Zh n us).flatten (Zh n xs).flatten
 |0=>az.nil
 |n+1=>by
  rw[aah,aah,Zk,Zk]
  exact r.append (zD r n)
@[irreducible] noncomputable def Le (X:Cx)(G:Gm)(es:List aav)(b p:Bool)(g:Ev→R (List U×Ev)):Prop:=DA X G es b p g
section
variable {e:aav}{es:List aav}{b1 b2 p:Bool}{m1:Md}{g1:Ev→R (U×Ev)}{ga:Ev→R (List U×Ev)}
theorem VT (h:Le X G es b1 p ga):DA X G es b1 p ga:=by unfold Le at h;exact h
theorem GR:Le X G [] false p ak:=by unfold Le;exact ah
theorem ji (ha:DE X G e b1 m1 g1)(hr:Le X G es b2 p ga)(hm:m1=.P→(p=true∧b2=false):=by first|exact fun _=>⟨rfl,rfl⟩|exact fun h=>nomatch h)
  (hs:YF (e::es) X.env=(false,abE e X.env)::YF es X.env:=by rfl):Le X G (e::es) (b1||b2) p (aa g1 ga):=by
 unfold Le at hr ⊢
 exact af ha hr hm hs
end
end L2
namespace Hc.Zp
noncomputable def gw (l:Bool)(h:abr)(a:YM)(xs:Array Yv):Prop:=if l=true then h.IsList a xs else h.IsTuple a xs
noncomputable def eR (l:Bool)(h:abr)(it a:YM)(i:Nat):Prop:=if l=true then h.IsListIter it a i else h.IsTupleIter it a i
noncomputable def Bv (l:Bool):String:=if l=true then "list_iterator" else "tuple_iterator"
theorem gw.at {l:Bool}{xs:Array Yv}(x:gw l h a xs)(e:∀o,h.get? a=some o→h'.get? a=some o):gw l h' a xs:=by
 cases l with
 |true=>exact Heap.IsList.at x e
 |false=>exact Heap.IsTuple.at x e
theorem eR.at {l:Bool}(x:eR l h it a i)(e:∀o,h.get? it=some o→h'.get? it=some o):eR l h' it a i:=by
 cases l with
 |true=>exact Heap.IsListIter.at x e
 |false=>exact Heap.IsTupleIter.at x e
theorem eR.obj {l:Bool}(x:eR l h it a i):∃o,h.get? it=some o∧o.data=.fields #[.ref a,.int i 0]∧o.cls=.type (Bv l):=by
 cases l with
 |true=>obtain⟨o,e,c,d⟩:=x;exact⟨o,e,d,c⟩
 |false=>obtain⟨o,e,c,d⟩:=x;exact⟨o,e,d,c⟩
section
variable {A:Zw}
theorem xV {xs:Array Yv}{x:Yv}(hi:s.heap.IsTupleIter it a i)(ha:s.heap.IsTuple a xs)(hx:xs[i]? = some x)(q:∀h',h'.IsTupleIter it a (i+1)→aaC it s.heap h'→Q x {s with heap:=h'}):YR (Y7 prog w) A (Zx (.ref it)) Q E s:=by
 obtain⟨o,ho,hc,hd⟩:=id hi
 obtain⟨oa,hoa,_,na,hda⟩:=ha
 unfold Zx
 refine Yo (Zo (name:=Z5 "__next__") hi.typeIs aa2 (Y8 aa2 hi.typeIs adu ?_ (ac_ _)))
 show YR _ _ (field (Value.ref it) 0 >>= _) _ _ s
 refine Yo (ZS ho hd (x:=.ref a) rfl ?_)
 show YR _ _ (if (Value.ref a==Value.none)=true then _ else _) _ _ s
 rw[if_neg (show ¬((Value.ref a==Value.none)=true) from Yq)]
 show YR _ _ (field (Value.ref it) 1 >>= _) _ _ s
 refine Yo (ZS ho hd (x:=.int i 0) rfl ?_)
 show YR _ _ (seqItems? (Value.ref a) >>= _) _ _ s
 refine Yo (aaA hoa hda ?_)
 simp only[ZC,hx]
 refine Yo (abB ho hd (by simp) (Yr ⟨x,rfl,Yr (q _ ⟨_,abN _ ho (acU (aa4 hd _)),(aeb ..).trans hc,?_⟩ (aay ..))⟩))
 rw[aa4 hd];simp[ab2]
theorem Bw {xs:Array Yv}(hh:A.handled=none)(hi:s.heap.IsTupleIter it a i)(ha:s.heap.IsTuple a xs)(hx:xs[i]? = none)(q:∀h' e,Heap.ExtBut it s.heap h'→(∃o,h'.get? e=some o∧o.cls=.type "StopIteration")→E (.ref e) {s with heap:=h'}):YR (Y7 prog w) A (Zx (.ref it)) Q E s:=by
 obtain⟨o,ho,hc,hd⟩:=id hi
 obtain⟨oa,hoa,_,na,hda⟩:=ha
 unfold Zx
 refine Yo (Zo (name:=Z5 "__next__") hi.typeIs aa2 (Y8 aa2 hi.typeIs adu ?_ (ac_ _)))
 show YR _ _ (field (Value.ref it) 0 >>= _) _ _ s
 refine Yo (ZS ho hd (x:=.ref a) rfl ?_)
 show YR _ _ (if (Value.ref a==Value.none)=true then _ else _) _ _ s
 rw[if_neg (show ¬((Value.ref a==Value.none)=true) from Yq)]
 show YR _ _ (field (Value.ref it) 1 >>= _) _ _ s
 refine Yo (ZS ho hd (x:=.int i 0) rfl ?_)
 show YR _ _ (seqItems? (Value.ref a) >>= _) _ _ s
 refine Yo (aaA hoa hda ?_)
 simp only[ZC,hx]
 refine Yo (aaU (Yo (abB ho hd (by simp) ?_)))
 show YR _ _ (newExc (Value.type "StopIteration") [] >>= _) _ _ _
 refine Yo ?_
 simp only[newExc,newTuple]
 refine Yo (Y6 ?_ (by size_fits))
 refine Yo (m:=aba _ _) (acM (a:=Value.none) (by first|rfl|(simp only[aba];rfl)) ?_)
 refine Y6 ?_ (by size_fits)
 simp only[raiseNew]
 refine Yo (wpAny_handled ?_)
 first|rw[show A.in1.handled=none from hh]|rw[hh]
 exact Yo (Yr (wpAny_throw (q _ _ (((aay ..).extBut.push _).push _) ⟨_,YA _ rfl,rfl⟩)))
theorem my {l:Bool}{xs:Array Yv}{x:Yv}(hi:eR l s.heap it a i)(ha:gw l s.heap a xs)(hx:xs[i]? = some x)(q:∀h',eR l h' it a (i+1)→aaC it s.heap h'→Q x {s with heap:=h'}):YR (Y7 prog w) A (Zx (.ref it)) Q E s:=by
 cases l with
 |true=>exact wpAny_nextOf_list_item hi ha hx q
 |false=>exact xV hi ha hx q
theorem vN {l:Bool}{xs:Array Yv}(hh:A.handled=none)(hi:eR l s.heap it a i)(ha:gw l s.heap a xs)(hx:xs[i]? = none)(q:∀h' e,Heap.ExtBut it s.heap h'→(∃o,h'.get? e=some o∧o.cls=.type "StopIteration")→E (.ref e) {s with heap:=h'}):YR (Y7 prog w) A (Zx (.ref it)) Q E s:=by
 cases l with
 |true=>exact wpAny_nextOf_list_end hh hi ha hx q
 |false=>exact Bw hh hi ha hx q
theorem zE {l:Bool}{xs:Array Yv}(ha:gw l s.heap a xs)(q:Q (.ref s.heap.objs.size) {s with heap:=s.heap.push {cls:=.type (Bv l),data:=.fields #[.ref a,.int 0 0]}}):YR (Y7 prog w) A (pyIter (.ref a)) Q E s:=by
 cases l with
 |true=>exact acE ha q
 |false=>exact wpAny_pyIter_tuple ha q
theorem Bx {TI TO:YM}{xs:Array Yv}{x y p:Yv}(D:ZipApart z TI TO i1 i2 a1 a2)(hz:IsZip s.heap z TI TO .none)(Mw:abX s.heap TI (.ref i1) (.ref i2))(Mx:abX s.heap TO p q)(h1:eR l1 s.heap i1 a1 k)(h2:eR l2 s.heap i2 a2 k)(g1:gw l1 s.heap a1 xs)(g2:gw l2 s.heap a2 ys)(hx:xs[k]? = some x)(hy:ys[k]? = some y)(hQ:∀h',IsZip h' z TI TO (ab2 s.heap.objs.size)→abX h' TO x y→eR l1 h' i1 a1 (k+1)→eR l2 h' i2 a2 (k+1)→abX h' s.heap.objs.size x y→(∀c o,c≠z→c≠TO→c≠i1→c≠i2→s.heap.get? c=some o→h'.get? c=some o)→Q (.ref s.heap.objs.size) {s with heap:=h'}) :
  YR (Y7 prog w) A (Builtin.«zip.__next__» ⟨[.ref z],[]⟩) (fun fin s'=>∃v,fin=.done (.ret v)∧Q v s') E s:=by
 show YR _ _ (field (Value.ref z) 2 >>= _) _ _ _
 refine Yo (ZS hz rfl (x:=.bool false) rfl ?_)
 show YR _ _ (field (Value.ref z) 3 >>= _) _ _ _
 refine Yo (ZS hz rfl (x:=.ref TI) rfl (Yo (aaA Mw rfl ?_)))
 show YR _ _ (aai (Value.ref z) >>= _) _ _ _
 refine Yo ?_
 unfold aai
 refine Yo (ZS hz rfl (x:=.none) rfl (Yr ?_))
 simp only[if_true]
 refine Yo (aaU (Yo (ZS hz rfl (x:=.ref TO) rfl (Yo (ZO hz (by simp) fun w1 z1 b1 => ?_)))))
 replace z1:IsZip w1 z TI TO .ellipsis:=z1
 refine Yo ?_
 simp only[List.zipIdx_cons,List.zipIdx_nil,adq,List.forIn_nil]
 refine Yo (Yo (wpAny_onRaise ?_))
 show YR _ _ (Zx (Value.ref i1) >>= _) _ _ _
 refine Yo (my (h1.at fun o e=>b1.extBut _ _ D.i1z e) (g1.at fun o e=>b1.extBut _ _ D.l1z e) hx fun w2 n2 b2=>Yr ?_)
 have t2:abX w2 TO p q:=b2.extBut _ _ D.TOi1 (b1.extBut _ _ D.TOz Mx)
 refine Yo (aaA t2 rfl (Yo (ac7 t2 fun w3 t3 b3 => ?_)))
 replace t3:abX w3 TO x q:=t3
 refine Yo (wpAny_letGo (Yr ?_))
 refine Yo (Yo (wpAny_onRaise ?_))
 show YR _ _ (Zx (Value.ref i2) >>= _) _ _ _
 refine Yo (my (h2.at fun o e=>b3.extBut _ _ D.TOi2.symm (b2.extBut _ _ D.i12.symm (b1.extBut _ _ D.i2z e))) (g2.at fun o e=>b3.extBut _ _ D.l2TO (b2.extBut _ _ D.l2i1 (b1.extBut _ _ D.l2z e))) hy fun w4 n4 b4=>Yr ?_)
 have t4:abX w4 TO x q:=b4.extBut _ _ D.TOi2 t3
 refine Yo (aaA t4 rfl (Yo (ac7 t4 fun w5 t5 b5 => ?_)))
 replace t5:abX w5 TO x y:=t5
 refine Yo (wpAny_letGo (Yr (Yr ?_)))
 refine Yo (aaA t5 rfl (Yo (wpAny_newTuple ?_)))
 have sz:w5.objs.size=s.heap.objs.size:=by rw[b5.1,b4.1,b3.1,b2.1,b1.1]
 have z5:IsZip w5 z TI TO .ellipsis:=b5.extBut _ _ D.TOz.symm (b4.extBut _ _ D.i2z.symm (b3.extBut _ _ D.TOz.symm (b2.extBut _ _ D.i1z.symm z1)))
 have kp:∀c o,c≠z→c≠TO→c≠i1→c≠i2→s.heap.get? c=some o→w5.get? c=some o:=fun c o c1 c2 c3 c4 e=>b5.extBut _ _ c2 (b4.extBut _ _ c4 (b3.extBut _ _ c2 (b2.extBut _ _ c3 (b1.extBut _ _ c1 e))))
 have n5:eR l1 w5 i1 a1 (k+1):=n2.at fun o e=>b5.extBut _ _ D.TOi1.symm (b4.extBut _ _ D.i12 (b3.extBut _ _ D.TOi1.symm e))
 have m5:eR l2 w5 i2 a2 (k+1):=n4.at fun o e=>b5.extBut _ _ D.TOi2.symm e
 have lz:z<w5.objs.size:=YE z5
 show YR _ _ (ab4 (Value.ref z) (Value.ref w5.objs.size) >>= _) _ _ _
 refine Yo ?_
 unfold ab4
 have z6:IsZip (w5.push {cls:=.type "tuple",data:=.seq #[x,y]}) z TI TO .ellipsis:=Yt _ z5
 refine Yo (ZO z6 (by simp) fun w7 z7 b7 => ?_)
 replace z7:IsZip w7 z TI TO (ab2 w5.objs.size):=z7
 refine ZO z7 (by simp) fun w8 z8 b8 => ?_
 replace z8:IsZip w8 z TI TO (ab2 w5.objs.size):=z8
 have up:∀c o,c≠z→w5.get? c=some o→w8.get? c=some o:=fun c o c1 e=>b8.extBut _ _ c1 (b7.extBut _ _ c1 (Yt _ e))
 have t8:abX w8 w5.objs.size x y:=b8.extBut _ _ (abq lz) (b7.extBut _ _ (abq lz) (YA _ rfl))
 rw[sz] at z8 t8
 refine Yr ⟨_,rfl,?_⟩
 show Q (.ref w5.objs.size) _
 rw[sz]
 exact hQ w8 z8 (up _ _ D.TOz t5) (n5.at fun o e=>up _ o D.i1z e) (m5.at fun o e=>up _ o D.i2z e) t8 fun c o c1 c2 c3 c4 e=>up c o c1 (kp c o c1 c2 c3 c4 e)
theorem Dq {TI TO:YM}{xs:Array Yv}{p:Yv}{Q:Fin→YK→Prop}(hh:A.handled=none)(D:ZipApart z TI TO i1 i2 a1 a2)(hz:IsZip s.heap z TI TO .none)(Mw:abX s.heap TI (.ref i1) (.ref i2))(Mx:abX s.heap TO p q)(h1:eR l1 s.heap i1 a1 k)(h2:eR l2 s.heap i2 a2 k)(g1:gw l1 s.heap a1 xs)(g2:gw l2 s.heap a2 ys)(My:xs[k]? = none∨ys[k]? = none)(hE:∀h' e,(∀c o,c≠z→c≠TO→c≠i1→c≠i2→s.heap.get? c=some o→h'.get? c=some o)→(∃o,h'.get? e=some o∧o.cls=.type "StopIteration")→E (.ref e) {s with heap:=h'}) :
  YR (Y7 prog w) A (Builtin.«zip.__next__» ⟨[.ref z],[]⟩) Q E s:=by
 show YR _ _ (field (Value.ref z) 2 >>= _) _ _ _
 refine Yo (ZS hz rfl (x:=.bool false) rfl ?_)
 show YR _ _ (field (Value.ref z) 3 >>= _) _ _ _
 refine Yo (ZS hz rfl (x:=.ref TI) rfl (Yo (aaA Mw rfl ?_)))
 show YR _ _ (aai (Value.ref z) >>= _) _ _ _
 refine Yo ?_
 unfold aai
 refine Yo (ZS hz rfl (x:=.none) rfl (Yr ?_))
 simp only[if_true]
 refine Yo (aaU (Yo (ZS hz rfl (x:=.ref TO) rfl (Yo (ZO hz (by simp) fun w1 z1 b1 => ?_)))))
 replace z1:IsZip w1 z TI TO .ellipsis:=z1
 refine Yo ?_
 simp only[List.zipIdx_cons,List.zipIdx_nil,adq,List.forIn_nil]
 refine Yo (Yo (wpAny_onRaise ?_))
 show YR _ _ (Zx (Value.ref i1) >>= _) _ _ _
 cases hx:xs[k]? with
 |none =>
  refine Yo (vN hh (h1.at fun o e=>b1.extBut _ _ D.i1z e) (g1.at fun o e=>b1.extBut _ _ D.l1z e) hx fun w2 e b2 he => ?_)
  obtain⟨oe,hoe,hce⟩:=he
  have z2:IsZip w2 z TI TO .ellipsis:=b2 _ _ D.i1z.symm z1
  have nz:e≠z:=fun x=>by subst x;rw[z2] at hoe;cases hoe;simp at hce
  exact ZO z2 (by simp) fun w3 _ b3=>hE w3 e (fun c o c1 _ c3 _ x=>b3.extBut _ _ c1 (b2 _ _ c3 (b1.extBut _ _ c1 x))) ⟨oe,b3.extBut _ _ nz hoe,hce⟩
 |some x =>
  have hy:ys[k]? = none:=by rcases My with h|h;rw[hx] at h;cases h;exact h
  refine Yo (my (h1.at fun o e=>b1.extBut _ _ D.i1z e) (g1.at fun o e=>b1.extBut _ _ D.l1z e) hx fun w2 n2 b2=>Yr ?_)
  have t2:abX w2 TO p q:=b2.extBut _ _ D.TOi1 (b1.extBut _ _ D.TOz Mx)
  refine Yo (aaA t2 rfl (Yo (ac7 t2 fun w3 t3 b3 => ?_)))
  refine Yo (wpAny_letGo (Yr ?_))
  refine Yo (Yo (wpAny_onRaise ?_))
  show YR _ _ (Zx (Value.ref i2) >>= _) _ _ _
  refine Yo (vN hh (h2.at fun o e=>b3.extBut _ _ D.TOi2.symm (b2.extBut _ _ D.i12.symm (b1.extBut _ _ D.i2z e))) (g2.at fun o e=>b3.extBut _ _ D.l2TO (b2.extBut _ _ D.l2i1 (b1.extBut _ _ D.l2z e))) hy fun w4 e b4 he => ?_)
  obtain⟨oe,hoe,hce⟩:=he
  have z4:IsZip w4 z TI TO .ellipsis:=b4 _ _ D.i2z.symm (b3.extBut _ _ D.TOz.symm (b2.extBut _ _ D.i1z.symm z1))
  have nz:e≠z:=fun x=>by subst x;rw[z4] at hoe;cases hoe;simp at hce
  exact ZO z4 (by simp) fun w5 _ b5=>hE w5 e (fun c o c1 c2 c3 c4 x=>b5.extBut _ _ c1 (b4 _ _ c4 (b3.extBut _ _ c2 (b2.extBut _ _ c3 (b1.extBut _ _ c1 x))))) ⟨oe,b5.extBut _ _ nz hoe,hce⟩
theorem By {TI TO:YM}{xs:Array Yv}{x y p:Yv}{Q:Option Yv→YK→Prop}(D:ZipApart z TI TO i1 i2 a1 a2)(hz:IsZip s.heap z TI TO .none)(Mw:abX s.heap TI (.ref i1) (.ref i2))(Mx:abX s.heap TO p q)(h1:eR l1 s.heap i1 a1 k)(h2:eR l2 s.heap i2 a2 k)(g1:gw l1 s.heap a1 xs)(g2:gw l2 s.heap a2 ys)(hx:xs[k]? = some x)(hy:ys[k]? = some y)(hQ:∀h',IsZip h' z TI TO (ab2 s.heap.objs.size)→abX h' TO x y→eR l1 h' i1 a1 (k+1)→eR l2 h' i2 a2 (k+1)→abX h' s.heap.objs.size x y→(∀c o,c≠z→c≠TO→c≠i1→c≠i2→s.heap.get? c=some o→h'.get? c=some o)→Q (some (.ref s.heap.objs.size)) {s with heap:=h'}) :
  YR (Y7 prog w) A (acf (.ref z)) Q E s:=by
 have hT:s.TypeIs (.ref z) "zip":=⟨_,hz,rfl⟩
 unfold acf
 exact Yo (aaB (Zo (name:=Z5 "__next__") hT adw (Y8 adw hT F.entry_zip_next (Bx D hz Mw Mx h1 h2 g1 g2 hx hy fun h' c1 c2 c3 c4 c5 c6=>Yr (hQ h' c1 c2 c3 c4 c5 c6)) (F.args_zip_next_1 _))))
theorem Bz {TI TO:YM}{xs:Array Yv}{p:Yv}{Q:Option Yv→YK→Prop}(hh:A.handled=none)(D:ZipApart z TI TO i1 i2 a1 a2)(hz:IsZip s.heap z TI TO .none)(Mw:abX s.heap TI (.ref i1) (.ref i2))(Mx:abX s.heap TO p q)(h1:eR l1 s.heap i1 a1 k)(h2:eR l2 s.heap i2 a2 k)(g1:gw l1 s.heap a1 xs)(g2:gw l2 s.heap a2 ys)(My:xs[k]? = none∨ys[k]? = none)(hQ:∀h',(∀c o,c≠z→c≠TO→c≠i1→c≠i2→s.heap.get? c=some o→h'.get? c=some o)→Q none {s with heap:=h'}):YR (Y7 prog w) A (acf (.ref z)) Q E s:=by
 have hT:s.TypeIs (.ref z) "zip":=⟨_,hz,rfl⟩
 unfold acf
 refine Yo (aaB (Zo (name:=Z5 "__next__") hT adw (Y8 adw hT F.entry_zip_next (Dq hh D hz Mw Mx h1 h2 g1 g2 My fun h' e hk ⟨o,ho,hc⟩ => ?_) (F.args_zip_next_1 _))))
 exact Yo (abx (T:="StopIteration") (b:=true) ⟨o,ho,hc⟩ adX (Yr (hQ _ hk)))
end
noncomputable abbrev PB (l1:Bool)(h:abr)(a1:YM):abr:=h.push {cls:=.type (Bv l1),data:=.fields #[.ref a1,.int 0 0]}
noncomputable abbrev PD (l1 l2:Bool)(h:abr)(a1 a2:YM):abr:=(PB l1 h a1).push {cls:=.type (Bv l2),data:=.fields #[.ref a2,.int 0 0]}
noncomputable abbrev PF (l1 l2:Bool)(h:abr)(a1 a2:YM):abr:=(PD l1 l2 h a1 a2).push {cls:=.type "tuple",data:=.seq #[.ref h.objs.size,.ref (PB l1 h a1).objs.size]}
noncomputable abbrev PH (l1 l2:Bool)(h:abr)(a1 a2:YM):abr:=(PF l1 l2 h a1 a2).push {cls:=.type "tuple",data:=.seq #[.none,.none]}
noncomputable abbrev MQ (l1 l2:Bool)(h:abr)(a1 a2:YM):abr:=(PH l1 l2 h a1 a2).push {cls:=.type "zip",data:=.fields #[.none,.bool false,.bool false,.ref (PD l1 l2 h a1 a2).objs.size,.ref (PF l1 l2 h a1 a2).objs.size]}
theorem Dr (l1 l2:Bool)(a1 a2:YM)(xs ys:Array Yv):Meets (Builtin.«zip.__new__» ⟨[.type "zip",.ref a1,.ref a2],[]⟩) (fun _ R s=>gw l1 s.heap a1 xs∧gw l2 s.heap a2 ys∧R (.ok (.ret (.ref (PH l1 l2 s.heap a1 a2).objs.size))) {s with heap:=MQ l1 l2 s.heap a1 a2}) :=
 .of_wp fun prog w A R s h=>by
  obtain⟨hp,g,d,tk,os⟩:=s;obtain⟨g1,g2,h⟩:=h
  have sb:=sub_zip
  have q1:gw l1 (Shared.heap ⟨hp,g,d,tk,os⟩) a1 xs:=g1
  have q2:gw l2 (Shared.heap ⟨hp.push {cls:=.type (Bv l1),data:=.fields #[.ref a1,.int 0 0]},g,d,tk,os⟩) a2 ys:=g2.at fun o e=>Yt _ e
  wp_walk using zE q1,zE q2
  exact⟨_,rfl,h⟩
section
variable {A:Zw}
theorem BA {xs:Array Yv}(g1:gw l1 s.heap a1 xs)(g2:gw l2 s.heap a2 ys)(h:∀h',IsZip h' (s.heap.objs.size+4) (s.heap.objs.size+2) (s.heap.objs.size+3) .none→abX h' (s.heap.objs.size+2) (.ref s.heap.objs.size) (.ref (s.heap.objs.size+1))→abX h' (s.heap.objs.size+3) .none .none →
   eR l1 h' s.heap.objs.size a1 0→eR l2 h' (s.heap.objs.size+1) a2 0→(∀c o,s.heap.get? c=some o→h'.get? c=some o)→Q (.ref (s.heap.objs.size+4)) {s with heap:=h'}):YR (Y7 prog w) A (call (.type "zip") [.ref a1,.ref a2]) Q E s:=by
 refine callType_new F.called_zip (by decide) (F.typeCall_zip_2 _ _) (F.newCall_zip_2 _ _) (fun obj=>F.args_object_init_3 obj _ _) F.entry_zip_new (Dr l1 l2 a1 a2 xs ys) ⟨g1,g2,?_⟩
 have z1:(PB l1 s.heap a1).objs.size=s.heap.objs.size+1:=aa_ ..
 have z2:(PD l1 l2 s.heap a1 a2).objs.size=s.heap.objs.size+2:=by rw[aa_,z1]
 have z3:(PF l1 l2 s.heap a1 a2).objs.size=s.heap.objs.size+3:=by rw[aa_,z2]
 have z4:(PH l1 l2 s.heap a1 a2).objs.size=s.heap.objs.size+4:=by rw[aa_,z3]
 have e5:(MQ l1 l2 s.heap a1 a2).get? (PH l1 l2 s.heap a1 a2).objs.size=some _:=YA _ rfl
 have e4:(MQ l1 l2 s.heap a1 a2).get? (PF l1 l2 s.heap a1 a2).objs.size=some _:=Yt _ (YA _ rfl)
 have e3:(MQ l1 l2 s.heap a1 a2).get? (PD l1 l2 s.heap a1 a2).objs.size=some _:=Yt _ (Yt _ (YA _ rfl))
 have e2:(MQ l1 l2 s.heap a1 a2).get? (PB l1 s.heap a1).objs.size=some _:=Yt _ (Yt _ (Yt _ (YA _ rfl)))
 have e1:(MQ l1 l2 s.heap a1 a2).get? s.heap.objs.size=some _:=Yt _ (Yt _ (Yt _ (Yt _ (YA _ rfl))))
 show _∧_
 rw[z2,z3,z4] at e5
 rw[z1,z2] at e3
 rw[z3] at e4
 rw[z1] at e2
 rw[z4]
 have mk:∀(l:Bool) (hp:abr) (it a:YM) (_:hp.get? it=some {cls:=.type (Bv l),data:=.fields #[.ref a,.int 0 0]}),eR l hp it a 0:=fun l hp it a e=>by
  cases l with
  |true=>exact⟨_,e,rfl,rfl⟩
  |false=>exact⟨_,e,rfl,rfl⟩
 exact⟨⟨_,e5,rfl⟩,h _ e5 e3 e4 (mk l1 _ _ _ e1) (mk l2 _ _ _ e2) fun c o x=>Yt _ (Yt _ (Yt _ (Yt _ (Yt _ x))))⟩
end
end Hc.Zp
namespace L2
open Hc.Zp
section
variable {T:YM}{o:HO}
theorem aw.turnNew {t':Nat}(I:aw X pins σ H s)(hf:∀b∈fp,nU X pins H b)(k:∀b o,b∉fp→s.heap.get? b=some o→h'.get? b=some o)(hT:s.heap.objs.size≤T)(new:bo X.prog X.w (cm H T o) h' T o) :
  aw X pins σ (cm H T o) {s with heap:=h',toks:=t'}:=by
 have hn:H T=none:=I.hok.fresh hT
 have nf:∀b u,H b=some u→b∉fp:=fun b u e z=>by rw[(hf b z).1] at e;cases e
 have nT:∀b u,H b=some u→b≠T:=fun b u e z=>by rw[z,hn] at e;cases e
 refine I.step (g':=s.gens) (d':=s.drawn) (ch:=fp) (fun b hb => ?_) (fun b o _ _ hc e _=>k b o hc e) (fun b o _ _ hc e _=>⟨o.slots,k b o hc e⟩) (fun b o _ e n => ?_) (fun b o hc e=>⟨o,k b o hc e⟩)
  (fun b xs e => ?_) (fun b o u e => ?_) (fun b ps e=>⟨#[],?_⟩) (fun m hm => ?_) (fun b u e => ?_) I.bare
 ·obtain⟨f0,f1,f2,f3,f4,f5⟩:=hf b hb
  exact⟨f3,f1,f4,f5⟩
 ·rw[aD (Y0 (Zi (YE e) hT))];exact n
 ·rw[aD (nT b _ e)];exact e
 ·rw[aD (nT b _ e)];exact e
 ·rw[aD (nT b _ e),e];simp
 ·obtain⟨o,es,ep,ho,r⟩:=hm
  exact⟨o,es,ep,k _ o (fun z=>(hf _ z).2.1 rfl) ho,r⟩
 ·by_cases c:b=T
  ·subst c;rw[aI] at e;cases e;exact new
  ·rw[aD c] at e
   refine (I.hok b u e).stay (fun c v hc q=>k c v ?_ q) (fun c q=>by rw[aD (nT c _ q)];exact q) fun c xs q=>by rw[aD (nT c _ q)];exact q
   rcases hc with z|z
   ·rw[z];exact nf b u e
   ·exact nf c _ z
theorem aw.turneds {t':Nat}(I:aw X pins σ H s)(hf:∀b∈fp,nU X pins H b)(k:∀b o,b∉fp→s.heap.get? b=some o→h'.get? b=some o):aw X pins σ H {s with heap:=h',toks:=t'}:=by
 have nf:∀b u,H b=some u→b∉fp:=fun b u e z=>by rw[(hf b z).1] at e;cases e
 refine I.step (g':=s.gens) (d':=s.drawn) (ch:=fp) (fun b hb => ?_) (fun b o _ _ hc e _=>k b o hc e) (fun b o _ _ hc e _=>⟨o.slots,k b o hc e⟩) (fun b o _ e n=>n) (fun b o hc e=>⟨o,k b o hc e⟩)
  (fun b xs e=>e) (fun b o u e=>e) (fun b ps e=>⟨#[],by rw[e];simp⟩) (fun m hm => ?_) (fun b u e => ?_) I.bare
 ·obtain⟨f0,f1,f2,f3,f4,f5⟩:=hf b hb
  exact⟨f3,f1,f4,f5⟩
 ·obtain⟨o,es,ep,ho,r⟩:=hm
  exact⟨o,es,ep,k _ o (fun z=>(hf _ z).2.1 rfl) ho,r⟩
 ·refine (I.hok b u e).stay (fun c v hc q=>k c v ?_ q) (fun _ q=>q) fun _ _ q=>q
  rcases hc with z|z
  ·rw[z];exact nf b u e
  ·exact nf c _ z
noncomputable def BB (l:Bool)(K:Yy)(H:Hp)(a:YM)(xs:List V):Prop:=if l=true then fE K H a xs else fR K H a xs
theorem aw.sq {l:Bool}(I:aw X pins σ H s)(q:BB l X.K H a xs):∃aq,aQ xs aq∧gw l s.heap a aq.toArray:=by
 cases l with
 |true=>obtain⟨aq,rv,p,_⟩:=I.list q;exact⟨aq,rv,p.isList⟩
 |false=>obtain⟨aq,rv,p,_⟩:=I.tuple q;exact⟨aq,rv,p⟩
theorem aw.sq_inj {l:Bool}{ys:List V}(I:aw X pins σ H s)(q:BB l X.K H a xs)(q':BB l X.K H a ys):xs=ys:=by
 cases l with
 |true=>exact I.list_inj q q'
 |false=>exact I.tuple_inj q q'
end
noncomputable def UN (K:Yy)(l1 l2:Bool)(a1 a2:YM):It :=
  ⟨fun i H=>∃xs ys x y,BB l1 K H a1 xs∧BB l2 K H a2 ys∧xs[i]? = some x∧ys[i]? = some y,
   fun i H v H'=>∃T x y,v=.ref T∧H T=none∧H'=cm H T (.tup [x,y])∧(∀xs,BB l1 K H a1 xs→xs[i]? = some x)∧(∀ys,BB l2 K H a2 ys→ys[i]? = some y),
   fun i H=>∃xs ys,BB l1 K H a1 xs∧BB l2 K H a2 ys∧(xs.length≤i∨ys.length≤i)⟩
theorem Ds {TI TO:YM}(D:ZipApart z TI TO i1 i2 a1 a2) :
  sV P w K (.Tuple elts kt tp) (UN K l1 l2 a1 a2) [z,TI,TO,i1,i2] z (fun i h=>IsZip h z TI TO .none∧abX h TI (.ref i1) (.ref i2)∧(∃p q,abX h TO p q)∧eR l1 h i1 a1 i∧eR l2 h i2 a2 i) where
 mem:=by simp
 obj:=fun i h ⟨hz,hI,⟨p,q,hO⟩,h1,h2⟩ b hb=>by
  obtain⟨o1,e1,d1,_⟩:=h1.obj
  obtain⟨o2,e2,d2,_⟩:=h2.obj
  simp only[YU,aaL,or_false] at hb
  rcases hb with rfl|rfl|rfl|rfl|rfl
  ·exact⟨_,hz,fun v e=>by cases e⟩
  ·exact⟨_,hI,fun v e=>by cases e⟩
  ·exact⟨_,hO,fun v e=>by cases e⟩
  ·exact⟨o1,e1,fun v e=>by rw[d1] at e;cases e⟩
  ·exact⟨o2,e2,fun v e=>by rw[d2] at e;cases e⟩
 keep:=fun i h h' ⟨hz,hI,⟨p,q,hO⟩,h1,h2⟩ k=>⟨k z (by simp) _ hz,k TI (by simp) _ hI,⟨p,q,k TO (by simp) _ hO⟩,h1.at fun o e=>k i1 (by simp) o e,h2.at fun o e=>k i2 (by simp) o e⟩
 item:=by
  intro X hP hw hK hc i pins s σ H E I hf st hg
  subst hP hw hK
  obtain⟨hz,hI,⟨p,q,hO⟩,h1,h2⟩:=st
  obtain⟨xs,ys,x,y,q1,q2,hx,hy⟩:=hg
  obtain⟨is1,v1,g1⟩:=I.sq q1
  obtain⟨is2,v2,g2⟩:=I.sq q2
  obtain⟨u1,qP,r1⟩:=v1.get hx
  obtain⟨u2,hu2,r2⟩:=v2.get hy
  obtain⟨o1,e1,_,_⟩:=h1.obj
  obtain⟨o2,e2,_,_⟩:=h2.obj
  have lz:=YE hz;have lI:=YE hI;have lO:=YE hO;have V_:=YE e1;have Wa:=YE e2
  refine By D hz hI hO h1 h2 g1 g2 (x:=u1) (y:=u2) (by simpa using qP) (by simpa using hu2) fun h' c1 c2 c3 c4 c5 kp=>⟨_,rfl,?_⟩
  refine wpAny_letOwnedTupleGo_zip c1 fun JR z2 sb => ?_
  have Vf:abX JR s.heap.objs.size u1 u2:=sb.extBut _ _ (abq lz) c5
  have Wb:∀b o,b∉[z,TI,TO,i1,i2]→s.heap.get? b=some o→JR.get? b=some o:=fun b o hb e=>by
   simp only[YU,aaL,or_false,not_or] at hb
   exact sb.extBut _ _ hb.1 (kp b o hb.1 hb.2.2.1 hb.2.2.2.1 hb.2.2.2.2 e)
  have I2:aw X pins σ (cm H s.heap.objs.size (.tup [x,y])) {s with heap:=JR}:=I.turnNew (t':=s.toks) hf Wb (YC _) ⟨by rw[aaq];simp,[u1,u2],.cons r1 (.cons r2 .nil),⟨_,Vf,rfl,_,rfl⟩,_,Vf⟩
  have fr:H s.heap.objs.size=none:=I.hok.fresh (YC _)
  refine⟨.ref s.heap.objs.size,_,I2,rfl,⟨_,x,y,rfl,fr,rfl,fun zs hq=>by rw[I.sq_inj hq q1];exact hx,fun zs hq=>by rw[I.sq_inj hq q2];exact hy⟩,⟨z2,?_,⟨u1,u2,?_⟩,?_,?_⟩,fun b hb => ?_⟩
  ·exact sb.extBut _ _ D.TIz (kp _ _ D.TIz D.TITO D.TIi1 D.TIi2 hI)
  ·exact sb.extBut _ _ D.TOz c2
  ·exact c3.at fun o e=>sb.extBut _ _ D.i1z e
  ·exact c4.at fun o e=>sb.extBut _ _ D.i2z e
  ·have hn:b≠s.heap.objs.size:=by
    simp only[YU,aaL,or_false] at hb
    rcases hb with rfl|rfl|rfl|rfl|rfl
    ·exact Y0 lz
    ·exact Y0 lI
    ·exact Y0 lO
    ·exact Y0 V_
    ·exact Y0 Wa
   rw[aD hn];exact (hf b hb).1
 done:=by
  intro X hP hw hK hc i pins s σ H E I hf st hg
  subst hP hw hK
  obtain⟨hz,hI,⟨p,q,hO⟩,h1,h2⟩:=st
  obtain⟨xs,ys,q1,q2,he⟩:=hg
  obtain⟨is1,v1,g1⟩:=I.sq q1
  obtain⟨is2,v2,g2⟩:=I.sq q2
  have n1:=v1.length;have n2:=v2.length
  refine Bz (I.ok.hd hc) D hz hI hO h1 h2 g1 g2 (by
   rcases he with he|he
   ·exact .inl (by simp;lia)
   ·exact .inr (by simp;lia)) fun h' kp=>⟨rfl,I.turneds (t':=s.toks) hf fun b o hb e => ?_⟩
  simp only[YU,aaL,or_false,not_or] at hb
  exact kp b o hb.1 hb.2.2.1 hb.2.2.2.1 hb.2.2.2.2 e
 self:=fun _ _ _ _ _ st h=>wpAny_pyIter_zip st.1 h
section
variable {p:Pos}{a b:aav}
theorem Lf:Zr "zip"=some (.type "zip"):=by decide +kernel
noncomputable def QV (K:Yy)(ta:TA):TI:=fun σ H R=>ta σ H fun vs H1=>∃l1 l2 a1 a2 xs ys,vs=[.ref a1,.ref a2]∧BB l1 K H1 a1 xs∧BB l2 K H1 a2 ys∧R (UN K l1 l2 a1 a2) H1
theorem Lg {ta:TA}(hg:Gl X "zip")(hm:X.mg "zip"=none)(ha:PA X [a,b] ta)(hs:YF [a,b] X.env=[(false,abE a X.env),(false,abE b X.env)]:=by rfl)(nO:YF [b] X.env=[(false,abE b X.env)]:=by rfl) :
  PI X (.Tuple elts kt tp) (.Call (.Name "zip" p) [a,b] [] pos) (QV X.K ta):=by
 intro pins s σ H R I h
 refine Call_ (oX I hg hm Lf (abM (dz (ha pos pins s σ H _ I h) fun us s1 ⟨vs,H1,I1,r1,q1⟩ => ?_) (by rw[hs,nO]) (by rw[nO];rfl)))
 obtain⟨l1,l2,a1,a2,xs,ys,rfl,g1,g2,q⟩:=q1
 cases r1 with
 |cons r rr =>
  cases rr with
  |cons r' rr =>
   cases rr
   cases r
   cases r'
   obtain⟨is1,v1,m1⟩:=I1.sq g1
   obtain⟨is2,v2,m2⟩:=I1.sq g2
   have lt:∀(l:Bool) (c:YM) (zs:Array Yv),gw l s1.heap c zs→c<s1.heap.objs.size:=fun l c zs hq=>by
    cases l with
    |true=>obtain⟨_,e,_⟩:=hq;exact YE e
    |false=>obtain⟨_,e,_⟩:=hq;exact YE e
   refine BA m1 m2 fun h' z1 z2 z3 z4 z5 kp=>wpAny_pyIter_zip z1 ?_
   refine⟨_,[s1.heap.objs.size+4,s1.heap.objs.size+2,s1.heap.objs.size+3,s1.heap.objs.size,s1.heap.objs.size+1],_,_,H1,rfl,I1.kept (t':=s1.toks) fun b o e=>kp b o e,Ds (zipApart_new (lt l1 a1 _ m1) (lt l2 a2 _ m2)),⟨z1,z2,⟨_,_,z3⟩,z4,z5⟩,fun b hb => ?_,q⟩
   have hb:s1.heap.objs.size≤b:=by
    simp only[YU,aaL,or_false] at hb
    rcases hb with rfl|rfl|rfl|rfl|rfl
    ·exact aaM _ _
    ·exact aaM _ _
    ·exact aaM _ _
    ·exact YC _
    ·exact aaM _ _
   exact I1.fpOk hb (I1.hok.fresh hb)
end
noncomputable def BC:U→Option (List U)
 | .lst us=>some us
 | .tup us=>some us
 |_=>none
noncomputable def GU (ga:Ev→R (List U×Ev)):Ev→R (List U×Ev):=fun ρ=>(ga ρ).bind fun x=>match x.1 with
 | [u,w]=>match BC u,BC w with
  |some us,some ws=>.ok (aaT (fun a b=>.tup [a,b]) us ws,x.2)
  |_,_=>.stk
 |_=>.stk
section
variable {p1:Pos}{a b:aav}{b1:Bool}{ga:Ev→R (List U×Ev)}
theorem Dt (e:BC u=some us)(h:Rp K H A u v):∃l a xs,v=.ref a∧us.length≤Yx∧az K H A us xs∧BB l K H a xs∧∀H',ej A H H'→(∀b,A b→Mu (H b))→BB l K H' a xs:=by
 unfold BC at e
 split at e
 rotate_right
 ·cases e
 rotate_left
 ·cases e
  unfold Rp at h
  obtain⟨a,xs,rfl,q,l,z⟩:=h
  exact⟨false,a,xs,rfl,l,z,fR.of q,fun H' x mu=>fR.of (x a _ (fun y=>by have:=mu a y;rw[q] at this;exact this) q)⟩
 ·cases e
  unfold Rp at h
  obtain⟨a,xs,rfl,na,q,l,z⟩:=h
  exact⟨true,a,xs,rfl,l,z,fE.of q,fun H' x mu=>fE.of (x a _ na q)⟩
theorem Lh (ha:DA X G [a,b] b1 false ga)(hm:X.mg "zip"=none)(hg:Gl X "zip":=by rfl)(hs:YF [a,b] X.env=[(false,abE a X.env),(false,abE b X.env)]:=by rfl)(nO:YF [b] X.env=[(false,abE b X.env)]:=by rfl) :
  DI X G (.Tuple elts kt tp) (.Call (.Name "zip" p1) [a,b] [] pos) b1 false (GU ga):=⟨(Lg hg hm ha.un hs nO).to fun σ H RR h00=>by
 obtain⟨Z,A,ρ,q,f⟩:=h00
 unfold GU at f
 cases e1:ga ρ with
 |stk=>rw[e1] at f;exact f.elim
 |exc=>rw[e1] at f;exact f.elim
 |ok y =>
  obtain⟨us,ρ1⟩:=y
  rw[e1] at f
  dsimp only[L2.R.bind] at f
  refine⟨Z,A,ρ,q,?_⟩
  rw[e1]
  intro vs H1 q1 x1 s1 vm
  split at f
  ·rename_i JS ρ' e2
   split at e2
   ·rename_i u w'
    split at e2
    ·rename_i as bs ea eb
     cases e2
     have r:=vm.rps
     unfold az at r
     obtain⟨v,vr,rfl,r1,r2⟩:=r
     unfold az at r2
     obtain⟨v',vr',rfl,r3,r4⟩:=r2
     unfold az at r4
     subst r4
     obtain⟨l1,a1,xs,rfl,n1,z1,k1,yU⟩:=Dt ea r1
     obtain⟨l2,a2,ys,rfl,n2,z2,k2,jL⟩:=Dt eb r3
     refine⟨l1,l2,a1,a2,xs,ys,rfl,k1,k2,f _ H1 q1 x1 s1 ⟨?_,fun H2 A' hx Cf => ?_⟩⟩
     ·rw[abw];exact Zd (Nat.min_le_left _ _) n1
     ·rw[if_neg Yq] at hx
      have RJ:=yU H2 hx q1.mu
      have RK:=jL H2 hx q1.mu
      have w1:=z1.re q1.mu hx Cf
      have w2:=z2.re q1.mu hx Cf
      refine⟨fun i u hu => ?_,⟨xs,ys,RJ,RK,?_⟩⟩
      ·rw[List.getElem?_zipWith] at hu
       cases hA:as[i]? with
       |none=>rw[hA] at hu;cases hu
       |some ua=>cases hB:bs[i]? with
        |none=>rw[hA,hB] at hu;cases hu
        |some ub =>
         rw[hA,hB] at hu
         cases hu
         obtain⟨x,JV,px⟩:=w1.get hA
         obtain⟨y,hy1,py⟩:=w2.get hB
         refine⟨⟨xs,ys,x,y,RJ,RK,JV,hy1⟩,fun x' H' yl => ?_⟩
         obtain⟨T,x2,y2,rfl,hT,rfl,g1,g2⟩:=yl
         have ex:x2=x:=by have:=g1 xs RJ;rw[JV] at this;cases this;rfl
         have ey:y2=y:=by have:=g2 ys RK;rw[hy1] at this;cases this;rfl
         subst ex ey
         have sm:=b_ hT (.tup [x2,y2])
         refine⟨sm,?_⟩
         unfold Rp
         exact⟨T,_,rfl,aI,by have:Yx=16777216:=rfl;rw[this];simp,az.cons (px.same sm) (az.cons (py.same sm) az.nil)⟩
      ·rw[abw,←z1.length,←z2.length]
       rcases Nat.le_total as.length bs.length with z|z
       ·exact .inl (by rw[aad z];exact YC _)
       ·exact .inr (by rw[Nat.min_eq_right z];exact YC _)
    ·cases e2
   ·cases e2
  ·exact f.elim⟩
end
end L2
namespace L2
section
variable {A:Zw}{b:Bool}
theorem xW {x:V}{u:Yv}{n:String}{tp:YM}(I:aw X pins σ H s)(rx:aO x u)(ty:q9 X.K H x n)(Ft:s.heap.get? tp=some {cls:=.type "tuple",data:=.seq aq.toArray k})(e:adY X.K (.type n) aq=some b)(h:∀tk,Q (.bool b) {s with toks:=tk}) :
  YR (Y7 X.prog X.w) A (call (.builtin "isinstance") [u,.ref tp]) Q E s:=by
 cases ty with
 |non=>cases (show u=Value.none from rx);exact aaF PySem.W.kitx_none I.kIn True.intro Ft e (fun z=>nomatch z) h
 |bl y=>cases (show u=Value.bool y from rx);exact aaF PySem.W.kitx_bool I.kIn True.intro Ft e (fun z=>nomatch z) h
 |int i=>obtain⟨t,q⟩:=(show ∃t,u=Value.int i t from rx);cases q;exact aaF PySem.W.kitx_int I.kIn True.intro Ft e (fun z=>nomatch z) h
 |str y=>obtain⟨t,q⟩:=(show ∃t,u=Value.str y t from rx);cases q;exact aaF PySem.W.kitx_str I.kIn True.intro Ft e (fun z=>nomatch z) h
 | @lst a xs ea =>
  cases (show u=Value.ref a from rx)
  obtain⟨_,_,n,_,h1⟩:=(show bo X.prog X.w H s.heap a (.lst xs) from I.hok a _ ea)
  exact aaF acF I.kIn ⟨_,h1,rfl⟩ Ft e (fun z=>nomatch z) h
 | @frz a ob xs ea =>
  cases (show u=Value.ref a from rx)
  obtain⟨_,_,_,n,_,h1⟩:=(show bo X.prog X.w H s.heap a (.frz ob (.lst xs)) from I.hok a _ ea)
  exact aaF acF I.kIn ⟨_,h1,rfl⟩ Ft e (fun z=>nomatch z) h
 | @tup a xs ea =>
  cases (show u=Value.ref a from rx)
  obtain⟨_,_,_,p,_⟩:=(show bo X.prog X.w H s.heap a (.tup xs) from I.hok a _ ea)
  obtain⟨o,h1,h2,_⟩:=p
  exact aaF PySem.W.kitx_tuple I.kIn ⟨o,h1,h2⟩ Ft e (fun z=>nomatch z) h
 | @dK a aJ ea =>
  cases (show u=Value.ref a from rx)
  obtain⟨_,_,vs,_,p⟩:=(show bo X.prog X.w H s.heap a (.dK aJ) from I.hok a _ ea)
  obtain⟨o,es,ep,h1,h2,_⟩:=p
  exact aaF acG I.kIn ⟨o,h1,h2.1⟩ Ft e (fun z=>nomatch z) h
 | @dT a aJ ea =>
  cases (show u=Value.ref a from rx)
  obtain⟨_,_,xs,_,o,es,ep,h1,h2,_⟩:=(show bo X.prog X.w H s.heap a (.dT aJ) from I.hok a _ ea)
  exact aaF acG I.kIn ⟨o,h1,h2.1⟩ Ft e (fun z=>nomatch z) h
theorem t7 {m1 m2:String}(h1:m1∈["bool","int","str","list","tuple","dict"])(h2:m2∈["bool","int","str","list","tuple","dict"]) :
  dR X (.builtin "isinstance") (fun xs H Q=>∃x n p,xs=[x,.ref p]∧H p=some (.tup [.ty m1,.ty m2])∧q9 X.K H x n∧Q (.bl (d9 n m1||d9 n m2)) H):=by
 intro pins s σ H xs us Q I r h
 obtain⟨x,n,p,rfl,hp,ty,q⟩:=h
 obtain⟨u,w',rfl,rx,rt⟩:=rJ r
 cases rt
 obtain⟨_,aq,vs,_,k,hg⟩:=(show bo X.prog X.w H s.heap p (.tup [.ty m1,.ty m2]) from I.hok p _ hp)
 obtain⟨a,b,rfl,ra,rb⟩:=rJ vs
 cases ra;cases rb
 refine xW I rx ty hg (b:=d9 n m1||d9 n m2) ?_ fun tk=>⟨.bl _,H,I.tok tk,rfl,q⟩
 unfold adY adY adY
 rw[CN X.K ty.mem h1,CN X.K ty.mem h2]
 cases d9 n m1<;>cases d9 n m2<;>rfl
end
section
variable {e:aav}{p1 p3 p4:Pos}{b1:Bool}{m1 m:Md}{g1:Ev→R (U×Ev)}{v:Option aav}{w:Option aav}
noncomputable def xX (T1 T2:String)(g:Ev→R (U×Ev)):Ev→R (U×Ev):=fun ρ=>(g ρ).bind fun x=>if Bo x.1="script" then .stk else .ok (.bl (d9 (Bo x.1) T1||d9 (Bo x.1) T2),x.2)
theorem q9.re {x:V}{n:String}(h:q9 K H x n)(k:∀a o,H a=some o→H' a=some o):q9 K H' x n:=by
 cases h with
 |non=>exact .non
 |bl=>exact .bl _
 |int=>exact .int _
 |str=>exact .str _
 |lst e=>exact .lst (k _ _ e)
 |frz e=>exact .frz (k _ _ e)
 |tup e=>exact .tup (k _ _ e)
 |dK e=>exact .dK (k _ _ e)
 |dT e=>exact .dT (k _ _ e)
theorem Du {T1 T2:String}{x1 x2:Str}{c:Nat}(Wc:T1∈["bool","int","str","list","tuple","dict"])(Wd:T2∈["bool","int","str","list","tuple","dict"])(he:DE X G e b1 m1 g1)(zi:X.mg "isinstance"=none)(We:X.mg x1=none)(Wf:Zr x1=some (.type T1))(Wg:X.mg x2=none)(Wh:Zr x2=some (.type T2))(hg:Gl X "isinstance":=by rfl)(Wi:Gl X x1:=by rfl)(Wj:Gl X x2:=by rfl)
  (Wl:x1≠"__name__":=by decide) (Wm:(x1==("__debug__":Str))=false:=by decide) (JO:x2≠"__name__":=by decide) (Ia:(x2==("__debug__":Str))=false:=by decide)
  (hs:YF [e,.Tuple [.Name x1 p2,.Name x2 p3] c p4] X.env=(false,abE e X.env)::YF [.Tuple [.Name x1 p2,.Name x2 p3] c p4] X.env:=by rfl)
  (nO:YF [.Tuple [.Name x1 p2,.Name x2 p3] c p4] X.env=(false,abE (.Tuple [.Name x1 p2,.Name x2 p3] c p4) X.env)::YF [] X.env:=by rfl)
  (RL:YF [.Name x1 p2,.Name x2 p3] X.env=(false,abE (.Name x1 p2) X.env)::YF [.Name x2 p3] X.env:=by rfl)
  (Wn:YF [.Name x2 p3] X.env=(false,abE (.Name x2 p3) X.env)::YF [] X.env:=by rfl)
  (jR:(aaQ pos (YF [.Tuple [.Name x1 p2,.Name x2 p3] c p4] X.env)).any (·.1)=false:=by rfl) :
  DE X G (.Call (.Name "isinstance" p1) [e,.Tuple [.Name x1 p2,.Name x2 p3] c p4] [] pos) b1 .S (xX T1 T2 g1) :=
 ⟨(gU (t7 (m1:=T1) (m2:=T2) Wc Wd) hg zi eV (aL he.un (aL (Cu (aL (oy (v:=.ty T1) Wi We Wf rfl Wl Wm) (aL (oy (v:=.ty T2) Wj Wg Wh rfl JO Ia) dA Wn) RL)) dA nO) hs) (by decide) (by decide) hs jR).to fun σ H Q h=>by
 obtain⟨Z,A,ρ,q,f⟩:=h
 obtain⟨⟨u,ρ1⟩,e1,f⟩:=f.bind
 refine⟨Z,A,ρ,q,?_⟩
 rw[e1]
 intro v H1 q1 x1 s1 vm
 dsimp only at f
 split at f
 ·exact f.elim
 ·rename_i hn
  exact⟨by show 2≤Yx;decide,fun p hp=>⟨v,Bo u,p,rfl,aI,(Iw vm.pk hn).re fun a o z=>by rw[aD (ba z hp)];exact z,f _ _ (q1.same (b_ hp _)) (x1.trans (ej.same (b_ hp _))) (nX s1 (b_ hp _)) (u7.ofS iQ)⟩⟩⟩
theorem Li {g:Ev→SR}(h:∀ρ,∃c u,g ρ=.exc c u)(hW:∀H,¬G.W H:=by exact fun _ h=>h):DS X G m (.Raise v w pos) g:=⟨fun pins s σ H D I h00=>by
 obtain⟨Z,A,ρ,q,f⟩:=h00
 obtain⟨c,u,e⟩:=h ρ
 rw[e] at f
 exact absurd (f H q.bas) (hW H)⟩
end
end L2
section
set_option maxHeartbeats 400000
namespace L2
open PySem PySem.Spec PyProof.Rows PySem.W
structure rj (K:Frag)(C:YM):Prop where
 cls:(clsIn K C).isSome=true
 ga:findIn K (.ref C) "__getattribute__"=some (some (.builtin "BaseException.__getattribute__"))
 gn:findIn K (.ref C) "__getattr__"=some none
 cl:findIn K (.ref C) "__class__"=some (some (.builtin "object.__class__"))
 gt:specialIn K (.builtin "object.__class__") "__get__"=some (some (.builtin "getset_descriptor.__get__"))
 tk:takesIn K (.builtin "object.__class__")=some true
 ob:mroIn K C (.type "object")=some true
 be:mroIn K C (.type "BaseException")=some true
noncomputable def ll (x C:YM)(h:abr):Prop:=∃ox,h.get? x=some ox∧ox.cls=.ref C
theorem ll.ty {x:YM}(I:ll x C h)(M:Model):Looks M h (typeOf (.ref x)) (.ref C):=by
 obtain⟨ox,kz,e⟩:=I
 exact e▸(Looks.ld kz).andThen .now
section
variable {A:Zw}{K:Frag}{x:YM}
theorem Dv (Z:rj K C)(X:K.In h):Looks M h (Builtin.ObjectAttr.find (.ref x) (.ref C) "__class__") (.bind (.builtin "getset_descriptor.__get__") (.builtin "object.__class__")):=by
 have m1:=looks_findIn (M:=M) X Z.cl
 have m2:Looks M h (Builtin.ObjectAttr.getOf (some (.builtin "object.__class__"))) (some (.builtin "getset_descriptor.__get__")):=looks_specialIn X Z.gt
 have m3:Looks M h (Builtin.ObjectAttr.dataDescriptor? (some (.builtin "object.__class__")) (some (.builtin "getset_descriptor.__get__"))) (some (.builtin "getset_descriptor.__get__",.builtin "object.__class__")):=(looks_takesIn (M:=M) X Z.tk).andThen .now
 exact m1.andThen (m2.andThen (m3.andThen (Looks.tag .now)))
open Builtin Builtin.ObjectAttr Builtin.Getset_descriptor in
theorem GV {tp:Yv}{R:Result→YK→Prop}(Z:rj K C)(X:K.In s.heap)(I:ll x C s.heap)(h:R (.ok (.ret (.ref C))) s):adU (Y7 prog w) A (.call (.builtin "getset_descriptor.__get__") ⟨[.builtin "object.__class__",.ref x,tp],[]⟩) R s:=by
 have m0:=I.ty (Y7 prog w)
 have m1:=looks_mroIn (M:=Y7 prog w) X Z.ob
 obtain⟨hp,gs,dn,tt,oo⟩:=s
 have Wo:(⟨hp,gs,dn,tt,oo⟩:YK).TypeIs (.builtin "object.__class__") "getset_descriptor":=KF.type_class
 refine ac8 KF.slot_gs.plain KF.entry_gs ?_
 refine KF.slot_gs.check _ _ _ _ _ _ _ _ Wo (KF.args_gs _ _ _) ?_
 unfold Builtin.«getset_descriptor.__get__» descrGet
 rw[dga_obj]
 refine Yo ?_
 refine Yr ?_
 unfold descrGetter descrCheckInstance
 unfold descrNameAndClass isInstance
 simp only[KF.owner_class]
 repeat lk
 refine⟨Code.quiet_builtin _ (by decide +kernel),?_⟩
 refine abh KF.entry_class ?_
 unfold Builtin.«object.__class__»
 unfold shownTypeOf
 repeat lk
 exact h
theorem BD {tk:Tok}{Q:Fin→YK→Prop}(Z:rj K C)(X:K.In s.heap)(I:ll x C s.heap)(h:Q (.done (.ret (.ref C))) s) :
  YR (Y7 prog w) A (Builtin.«object.__getattribute__» ⟨[.ref x,.str "__class__" tk],[]⟩) Q E s:=by
 have CG:=GV (prog:=prog) (w:=w) (A:=A) (tp:=.ref C) (R:=fun r s'=>r=.ok (.ret (.ref C))∧s'=s) Z X I ⟨rfl,rfl⟩
 have L0:=I.ty (Y7 prog w)
 obtain⟨hh,g,d,t,os⟩:=s
 have L1:=Dv (M:=Y7 prog w) (x:=x) Z X
 unfold Builtin.«object.__getattribute__»
 refine Yo (m:=slotArgs "__getattribute__" 1 ⟨[.ref x,.str "__class__" tk],[]⟩) (acM (a:=(.ref x,[.str "__class__" tk])) rfl ?_)
 refine Yo (acM (a:=("__class__":Str)) rfl ?_)
 refine Yo (L0.at (Yo (L1.at ?_)))
 show YR _ _ (do ret (←adi [Value.builtin "object.__class__"] (call (.builtin "getset_descriptor.__get__") [.builtin "object.__class__",.ref x,.ref C]))) _ _ _
 refine Yo (ZL (wpAny_call (acg CG fun r s' hr => ?_)))
 obtain⟨rfl,rfl⟩:=hr
 exact Yr h
theorem BE {JU:Yv}{Q:Unit→YK→Prop}(Z:rj K C)(X:K.In s.heap)(I:ll x C s.heap)(hq:Q () s):YR M A (checkBuiltinCall "BaseException.__getattribute__" ⟨[.ref x,JU],[]⟩) Q E s:=by
 have hk:builtinKind "BaseException.__getattribute__"=some .slot:=by decide +kernel
 have Mz:splitId "BaseException.__getattribute__"=some ("BaseException","__getattribute__"):=by decide +kernel
 have ha:=F.args_bexc_ga (.ref x) JU
 have LI:Looks M s.heap (isInstance (.ref x) (.type "BaseException")) true:=(I.ty M).andThen (looks_mroIn (M:=M) X Z.be)
 obtain⟨hh,g,d,t,os⟩:=s
 simp only[checkBuiltinCall,hk,Mz]
 refine Yo (LI.at ?_)
 repeat (first|assumption|wp_step)
theorem BF {Q:Option Yv→YK→Prop}(Z:rj K C)(X:K.In s.heap)(I:ll x C s.heap)(h:Q (some (.ref C)) {s with toks:=s.toks+1}):YR (Y7 prog w) A (getAttr? (.ref x) "__class__") Q E s:=by
 obtain⟨hh,g,d,t,os⟩:=s
 have L0:=I.ty (Y7 prog w)
 have L1:=looks_findIn (M:=Y7 prog w) X Z.ga
 have L2:=looks_findIn (M:=Y7 prog w) X Z.gn
 unfold getAttr? getAttrBy? getAttrBy
 refine Yo (wpAny_mkText (Yo (aaB (ZL (Yo (L0.at (Yo (L1.at ?_))))))))
 have JV:(onTheHeap (Value.ref C)&&Value.builtin "BaseException.__getattribute__"==Value.builtin "object.__getattribute__")=false:=by
  have Vg:(Value.builtin "BaseException.__getattribute__"==Value.builtin "object.__getattribute__")=false:=by decide +kernel
  rw[Vg];rfl
 dsimp only
 rw[if_neg (by rw[JV];exact Yq)]
 unfold getAttrByItsOwn hookBefore
 refine Yo (L2.at ?_)
 refine Yo (aaB (ZL ?_))
 show YR _ _ (boundAndCalled (.builtin "BaseException.__getattribute__") (.ref x) (.str "__class__" t)) _ _ _
 unfold boundAndCalled
 have FX:=F.attr_ValueError
 refine Yo (acM (FX.ga.bind (.ref x)) ?_)
 refine wpAny_call (ac8 FX.ga.plain F.entry_bexc_ga (BE Z X I (BD (s:=⟨hh,g,d,t+1,os⟩) Z X I ?_)))
 exact handed_on rfl (Yr h)
theorem Dx (Z:rj K C):KitX K (.ref x) (.ref C) (ll x C) where
 ty:=fun M h X I=>I.ty M
 it:=fun M h X _=>by
  obtain⟨cdD,hcD⟩:=aaI.mp Z.cls
  unfold clsIn at hcD
  split at hcD
  ·rename_i c' d' Wq O5 ho
   intro A' Q' E' s' k q
   unfold isType loadHead
   exact Yo (wpAny_loadPart (k _ _ (X _ _ ho)) (Yr q))
  ·cases hcD
 ne:=fun h tp dd aq n sl X Ft=>by
  obtain⟨cdD,hcD⟩:=aaI.mp Z.cls
  refine acJ.mpr fun q => ?_
  have e:C=tp:=Value.ref.inj (beq_iff_eq.mp q)
  subst e
  unfold clsIn at hcD
  split at hcD
  ·rename_i c' d' Wq O5 ho
   have z:=(X _ _ ho).symm.trans Ft
   cases z
  ·cases hcD
 ca:=fun X I k=>BF Z X I k
end
end L2
end
section
set_option maxHeartbeats 400000
namespace L2
open PySem PySem.Spec PyProof.Rows PySem.W
structure PJ (P:aa1)(w:ack)(outer:List Env)(H:Hp)(s:YK)(B:abr)(H1:Hp)(r:abr)(L:YM):Prop where
 un:Un (oV outer) [] H H1 s.heap r
 hok:gT P w H1 r
 kB:∀b o,r.get? b=some o→b∉oV outer→b≠L→B.get? b=some o
 nL:s.heap.get? L=none
 hL:H1 L=none
 fr:∀b∈oV outer,H b=none∧∃o,s.heap.get? b=some o∧∀vs,o.data≠.fields vs
noncomputable def IA (P:aa1)(w:ack)(C:YM):CXT:=fun outer H s E e s'=>∃(ea t L:YM) (B r:abr) (H1:Hp),e=.ref ea∧s'.os=s.os∧adR s'.gens∧PJ P w outer H s B H1 r L∧Heap.FlyingW B outer ea (.ref C) (.ref t) s'.heap∧r.UpToSlots s'.heap∧r.get? ea=none∧E (.ref C) none H1
theorem gT.keptT (x:gT P w H h)(k:∀b u o,H b=some o→h.get? b=some u→h'.get? b=some u):gT P w H h':=fun a o e =>
 (x a o e).stay (fun b u hb q=>by
  rcases hb with rfl|hb
  ·exact k _ _ _ e q
  ·exact k _ _ _ hb q) (fun _ q=>q) fun _ _ q=>q
section
variable {outer:List Env}{B r:abr}{L:YM}
theorem PJ.there (F:PJ P w outer H s B H1 r L)(k:B.StaysIn h)(u:r.UpToSlots h):Un (oV outer) [] H H1 s.heap h∧gT P w H1 h:=by
 have HX:∀b o,s.heap.get? b=some o→b≠L:=fun b o e z=>by rw[z,F.nL] at e;cases e
 have Vh:∀b o,s.heap.get? b=some o→b∈oV outer→∃sl,h.get? b=some {o with slots:=sl}:=fun b o e hb=>by
  obtain⟨hn,o',e',nf⟩:=F.fr b hb
  rw[e] at e';cases e'
  obtain⟨sl,q⟩:=F.un.slot b o e hn hb (by simp)
  obtain⟨O5,q'⟩:=u b _ q (fun vs z=>nf vs z)
  exact⟨O5,q'⟩
 refine⟨⟨fun b o e n hb hx=>k b o (F.kB b o (F.un.keep b o e n hb hx) hb (HX b o e)),fun b o e n hb hx=>Vh b o e hb,F.un.free,fun b o e hx => ?_,F.un.tups,F.un.frzs,F.un.tbls⟩,F.hok.keptT fun b v o e q => ?_⟩
 ·by_cases hb:b∈oV outer
  ·obtain⟨sl,q⟩:=Vh b o e hb
   exact⟨_,q⟩
  ·obtain⟨o',q⟩:=F.un.there b o e hx
   exact⟨o',k b o' (F.kB b o' q hb (HX b o e))⟩
 ·refine k b v (F.kB b v q (fun hb => ?_) fun z=>by rw[z,F.hL] at e;cases e)
  obtain⟨hn,o',e',_⟩:=F.fr b hb
  rw[F.un.free b o' e' hn (by simp)] at e;cases e
end
section
variable {B r:abr}{L:YM}
theorem aw.fly {t':Nat}{d':Drawn}(I:aw X pins σ H s)(F:PJ X.prog X.w X.stack H s B H1 r L)(k:B.StaysIn h)(u:r.UpToSlots h)(hg:adR g'):aw X pins σ H1 {s with heap:=h,gens:=g',drawn:=d',toks:=t'}:=by
 obtain⟨a,b⟩:=F.there k u
 exact I.call (h':=h) (g':=g') (d':=d') (t':=t') (ch:=[]) a b hg fun _ z=>absurd z (by simp)
end
section
variable {a b:Str}{e:aav}{p1 p3:Pos}{j1 j2:Nat}
noncomputable def VU (te:TE):TE:=fun σ H Q=>te σ H fun x H1=>∃i:Int,x=.int i∧i.natAbs.log2<1920∧(Z5 (toString i)).length≤1000∧∀y:Str,Q (.str y) H1
theorem N2 (he:PE X e te)(ha:(Str.empty++a).length≤1000:=by decide +kernel)(hb:b.length≤1000:=by decide +kernel)(hs:(evalEach [Expr.Constant (.str b) j2 p3] X.env)=[abE (.Constant (.str b) j2 p3) X.env]:=by rfl):PE X (.JoinedStr [.Constant (.str a) j1 p1,.FormattedValue e (-1) none p2,.Constant (.str b) j2 p3] pos) (VU te):=by
 intro pins s σ H Q I h
 have big:(3000:Nat)≤Yx:=by decide
 refine JoinedStr_many ?_
 rw[hs]
 refine joinParts_cons (adE ?_)
 refine⟨Zd ha (Zd (by decide) big),joinParts_cons (FormattedValue_plain ?_)⟩
 refine dz (he pins _ σ H _ (I.tok _) h) fun v s1 ⟨x,H1,I1,rx,i,ex,sm,li,q⟩ => ?_
 subst ex
 obtain⟨tk,rfl⟩:=rx
 refine formatField_int_small sm ?_
 refine⟨?_,joinParts_cons (adE ?_)⟩
 ·rw[ada]
  exact Zd (acS ha li) (Zd (by decide) big)
 ·refine⟨?_,joinParts_nil ?_ ?_⟩
  ·rw[ada,ada]
   exact Zd (acS (acS ha li) hb) (Zd (by decide) big)
  ·exact⟨.str _,H1,I1.tok _,⟨_,rfl⟩,q _⟩
  ·rw[ada,ada]
   exact Zd (acS (acS ha li) hb) (Zd (by decide) big)
end
end L2
end
section
set_option maxHeartbeats 400000
namespace L2
open PySem PySem.Spec PyProof.Rows PySem.W
abbrev Dy:List Yv:=[.type "ValueError",.type "Exception",.type "BaseException",.type "object"]
theorem GW {K:Frag}{Vi:List Yv}{JW:String}(X:K.In h)(q:excIn K C Vi JW=true) :
  ∃bm N nm qn bs hdct sn sub ab col dd k0 k1 k2 k3 k5 mN,h.get? C=some (excClassObj nm qn C N bs bm hdct sn sub ab col dd k0 k1 k2 k3 k5 JW)∧h.Ns N mN∧mN "__init__"=none∧OwnTail h Vi bm:=by
 unfold excIn at q
 split at q
 ·rename_i d1 cd sl ho
  split at q
  ·rename_i C' bm k0 k1 k2 k3 n k5 hm hs
   simp only[YG,beq_iff_eq,aec] at q
   obtain⟨⟨⟨⟨⟨e1,e2⟩,hdel⟩,ht⟩,hok⟩,hni⟩:=q
   subst e1;subst e2
   obtain⟨nm,bs,mro,ns,qn,hd,sn,sub,ab,col,del⟩:=cd
   dsimp only at hm hdel hok hni
   subst hm;subst hdel
   have Wr:sl=#[k0,k1,k2,k3,some (.builtin n),k5]:=by
    obtain⟨l⟩:=sl
    simp only at hs
    rw[hs]
   subst Wr
   exact⟨bm,ns,nm,qn,bs,hd,sn,sub,ab,col,d1,k0,k1,k2,k3,k5,_,X _ _ ho,.of_isNs (isNs_of_in X hok),nsMap_none_of_in X hok hni,tail_of_in X ht⟩
  ·cases q
 ·cases q
section
variable {K:Frag}{aY:Yv}{A:Zw}{outer:List Env}{s0:YK}{H0:Hp}{E:XK}
theorem BG {e:YM}{vs:List Yv}(I:aw (iV (IA P w C) P w K mg base N qual scope f aY A outer s0 H0 E) pins σ H s)(hm:Heap.MadeExcOf s.heap h' e (.ref C) vs)(hE:E (.ref C) none H)(nL:s0.heap.get? s0.heap.objs.size=none:=by exact Heap.get?_none_of_le (YC _)):(iV (IA P w C) P w K mg base N qual scope f aY A outer s0 H0 E).xe (.ref e) {s with heap:=h'}:=by
 let env:=aa0 qual scope s0.heap.objs.size f aY
 have fN:s.heap.FunFrames base (env::outer):=I.stack
 have B_:∀en∈(env::outer),∀a,en.frame=some a→a∈oV (env::outer):=fun en he a ha=>adG.mpr ⟨en,he,ha⟩
 refine wpAny_leaves_madeW (base:=hideAll s.heap (oV (env::outer))) (h:=s.heap) (L:=s0.heap.objs.size) (outer:=outer) I.ok.frames rfl (fun b o q=>of_hideAll _ q) (funFrames_hide fN B_) hm fun h2 t fl tp nt up => ?_
 refine⟨e,t,s0.heap.objs.size,_,s.heap,H,rfl,I.os,I.bare,⟨I.base,I.hok,fun b o q nb nl=>hideAll_get _ q fun z => ?_,nL,I.free,fun b hb=>⟨I.ok.frf b hb,?_⟩⟩,fl,(Heap.UpToSlots.of_keeps hm.keeps).trans up,hm.new,hE⟩
 ·unfold oV at z
  rw[ab_] at z
  rcases YU.mp z with z|z
  ·exact nl z
  ·exact nb z
 ·exact (I.ok.funs.mem hb).2
variable {np cpos:Pos}{e0:aav}{t:TA}
noncomputable def Lj (C:YM)(E:XK)(t:TA):TS:=fun _ σ H=>t σ H fun xs H1=>xs.length≤Yx∧E (.ref C) none H1
theorem Dz (hx:mg x=some (.ref C))(hq:excIn K C Dy "ValueError.__new__"=true)(hh:A.handled=none)
  (ha:PA (iV (IA P w C) P w K mg base N qual scope f aY A outer s0 H0 E) [e0] t) (hg:Gl (iV (IA P w C) P w K mg base N qual scope f aY A outer s0 H0 E) x:=by rfl) (hd:(x==("__debug__":Str))=false:=by decide)
  (he:YF [e0] (aa0 qual scope s0.heap.objs.size f aY)=(false,abE e0 (aa0 qual scope s0.heap.objs.size f aY))::YF [] (aa0 qual scope s0.heap.objs.size f aY):=by rfl) :
  PS (iV (IA P w C) P w K mg base N qual scope f aY A outer s0 H0 E) (.Raise (some (.Call (.Name x np) [e0] [] cpos)) none pos) (Lj C E t):=by
 intro pins s σ H D I h
 obtain⟨tl,NN,nm,q,bs,hdct,sn,sub,ab,col,dd,k0,k1,k2,k3,k5,mN,hC,hN,hni,T⟩:=GW I.ok.mod.kin hq
 have FB:=F.excBase_ValueError
 refine wpAny_Raise_call_subU (C:=C) (nm:=nm) (q:=q) (N:=NN) (bs:=bs) (bm:=tl) (hdct:=hdct) (sn:=sn) (sub:=sub) (ab:=ab) (col:=col) (dd:=dd) (k0:=k0) (k1:=k1) (k2:=k2) (k3:=k3) (k5:=k5) FB FB.hasB FB (mN:=mN) (T.hasType FB.hasBase) hh ?_ hni (jE I hg hx ⟨rfl,?_⟩ hd)
 ·show (aaQ cpos (YF [e0] (aa0 qual scope s0.heap.objs.size f aY))).any (·.1)=false
  rw[he];rfl
 ·show YR _ _ (evalArgs (.ref C) true (aaQ cpos (YF [e0] (aa0 qual scope s0.heap.objs.size f aY))) []) _ _ _
  have h1:=ha cpos pins s σ H _ I h
  have P9:YF [e0] (iV (IA P w C) P w K mg base N qual scope f aY A outer s0 H0 E).env=(false,abE e0 (aa0 qual scope s0.heap.objs.size f aY))::YF [] (aa0 qual scope s0.heap.objs.size f aY):=he
  rw[P9] at h1
  rw[he]
  refine ac5 (dz h1 fun us s2 ⟨xs,H2,I2,r2,l2,hE⟩ => ?_)
  have kk:∀b o,base.get? b=some o→s2.heap.get? b=some o:=fun b o z=>(I2.bs b o z).1
  exact⟨rfl,by rw[←r2.length];exact l2,kk _ _ hC,hN.keeps kk,T.keeps kk,fun h' e hm=>BG I2 hm hE⟩
end
end L2
end
section
set_option maxHeartbeats 400000
namespace L2
open PySem PySem.Spec PyProof.Rows
structure fX (k:Nat)(A:Zw):Prop where
 dp:A.depth+3*k+5<adT
 un:A.units+16*k+200<abp
theorem fX.deeper {A:Zw}(r:fX (k+1) A)(env:Env):fX k (A.deeper env) :=
 ⟨by have:=r.dp;show A.depth+1+3*k+5<_;lia,by have:=r.un;show A.units+3+16*k+200<_;lia⟩
theorem fX.depth {A:Zw}(r:fX k A):A.depth<adT:=by have:=r.dp;lia
structure DB (P:aa1)(w:ack)(K:Yy)(mg:Str→Option Yv)(base:abr)(CX:CXT)(k:Nat)(f:YM)(fd:ab7)(ps:List Str)(sp:Sp):Prop where
 len:∀vs H Q E,sp vs H Q E→vs.length=ps.length
 run:∀(A:Zw) (outer:List Env) (s:YK) (H:Hp) (args:Args) (us:List Yv) (vs:List V) (Q:VK) (E:XK),fX k A→A6 P w K mg base A outer s H→BindsTo s fd args (ps.zip us)→aQ vs us→sp vs H Q E →
  adU (Y7 P w) A (.call (.ref f) args) (CR CX outer P w H s Q E) s
noncomputable def vO (CX:CXT)(P:aa1)(w:ack)(K:Yy)(mg:Str→Option Yv)(base:abr)(N:List Str)(qual:Str)(scope:Scope)(f:YM)(cd:Yv)(A:Zw)(outer:List Env)(s:YK)(H:Hp)(E:XK):Cx where
 prog:=P
 w:=w
 K:=K
 mg:=mg
 base:=base
 A:=A.deeper (aa0 qual scope s.heap.objs.size f cd)
 N:=N
 s₀:=s
 H₀:=H
 env:=aa0 qual scope s.heap.objs.size f cd
 outer:=outer
 stack:=aa0 qual scope s.heap.objs.size f cd::outer
 ex:=[]
 calm:=false
 fn:=fun _=>true
 pn:=[]
 xe:=fun e s'=>YR (Y7 P w) (A.deeper (aa0 qual scope s.heap.objs.size f cd)) (leaving (aa0 qual scope s.heap.objs.size f cd) e) (fun _ FD=>CX outer H s E e FD) (fun e' FD=>CX outer H s E e' FD) s'
theorem xY {cd:Yv}{A:Zw}{outer:List Env}{s1:YK}{E:XK}{us:List Yv}(S:aV N ps scope)(e0:A6 P w K mg base A outer s H)(hl:vs.length=ps.length)(r:aQ vs us)(x:InCallC s s.heap.objs.size (bindL (aa0 qual scope s.heap.objs.size f cd).kindOf (ps.zip us) fun _=>none) (cellsFrom (s.heap.objs.size+1) scope.names []) (bindC (aa0 qual scope s.heap.objs.size f cd).kindOf (ps.zip us) fun _=>none) s1) :
  aw (vO CX P w K mg base N qual scope f cd A outer s H E) [] (dB N vs) H s1:=by
 have jR:ps.length≤N.length:=by have:=congrArg List.length S.pre;rw[YJ] at this;lia
 obtain⟨h1,tk,rfl,hk⟩:=x.done
 have HY:∀b:YM,b∉(vO CX P w K mg base N qual scope f cd A outer s H E).ex:=fun b z=>absurd (show b∈([]:List YM) from z) (by simp)
 refine⟨⟨e0.mod,S.kind,rfl,rfl,YC _,fun y z c h1 h2 => ?_,fun y hy => ?_,fun y c _ h => ?_,fun z=>absurd z Yq,Around.frames_deeper e0.frames,.inr ⟨rfl,rfl⟩,fun b z=>absurd z (HY b),e0.bs,e0.bsz,fun b _ _=>HY b,fun b z=>absurd z (HY b),e0.funs,e0.frf⟩,
  rfl,e0.bare,Un.kept hk,⟨_,x.toInCall.ns,fun i y v h1 h2 h3 => ?_⟩,fun y c h=>⟨_,x.cell y c h⟩,e0.hok.fresh (YC _),fun y c h => ?_,fun p hp=>absurd (show p∈([]:List (YM×Obj)) from hp) (by simp),e0.hok.kept hk,?_⟩
 ·exact name_of_addr x.apart (Zn h1) (Zn h2)
 ·have hy:scope.names.lookup y=some .cell∨scope.names.lookup y=some .free:=hy
  rcases hy with hy|hy
  ·exact kF hy
  ·exact absurd rfl (S.nofree _ (Zn hy))
 ·exact ace (x.above y c (Zn h))
 ·have hi:i<vs.length:=by
   unfold dB at h2
   by_cases hi:i<vs.length
   ·exact hi
   ·rw[ZR (by simpa using hi)] at h2
    rw[aco] at h2
    split at h2<;>cases h2
  have ha:vs[i]? = some v:=by
   unfold dB at h2
   rw[Z7 (by simpa using hi),YH] at h2
   cases e:vs[i]? with
   |none=>rw[e] at h2;cases h2
   |some a=>rw[e] at h2;cases h2;rfl
  obtain⟨u,hu,rv⟩:=r.get ha
  have hp:ps[i]? = some y:=by
   rw[←S.pre,ad7 (by lia)];exact h1
  have OP:ps.Nodup:=by rw[←S.pre];exact S.nd.sublist (List.take_sublist _ _)
  refine⟨u,rv,?_⟩
  rcases S.par y (Z4 hp) with k|k
  ·exact .inl ⟨k,md OP hp hu k⟩
  ·obtain⟨c,e⟩:=kF (n:=s.heap.objs.size+1) k
   refine .inr ⟨.inl k,c,e,?_⟩
   have q:=x.cell y c e
   rw[mf OP hp hu (by show scope.names.lookup y≠_;rw[k];decide)] at q
   exact q
 ·exact e0.hok.fresh (ace (x.above y c (Zn h)))
 ·unfold dB
  show _=N.length
  rw[Yu,Yp,aaj]
  lia
theorem Lk {name:Str}{params:Arguments}{dV kV dv pm aY ct oc:Yv}(lk:K.lookup f=some ⟨oc,od,.func (YI name qual params body scope dV kV dv pm an aY ct),osl⟩)(iP:Ze K aY qual=true)(S:aV N ps scope)(len:∀vs H Q E,sp vs H Q E→vs.length=ps.length)(fi:∀(A:Zw) (outer:List Env) (s:YK) (H:Hp) (vs:List V) (Q:VK) (E:XK),fX k (A.deeper (aa0 qual scope s.heap.objs.size f aY))→sp vs H Q E →
   ∃t,mV (vO CX P w K mg base N qual scope f aY A outer s H E) body t∧t {nx:=fun _ H'=>Q .non H',rt:=Q} (dB N vs) H) :
  DB P w K mg base CX (k+1) f (YI name qual params body scope dV kV dv pm an aY ct) ps sp:=by
 refine⟨len,fun A outer s H args us vs Q E hr e0 hb r Fg => ?_⟩
 have hl:=len _ _ _ _ Fg
 have KX:K.In s.heap:=e0.mod.kin.keeps fun b o e=>(e0.bs b o e).1
 have Rr:s.heap.NoLimit:=e0.mod.nolimit.keeps fun b o e=>(e0.bs b o e).1
 have Fh:∀y∈ps.zip us,scope.names.lookup y.1=some .local∨(scope.names.lookup y.1=some .cell∧((cellsFrom (s.heap.objs.size+1) scope.names []).lookup y.1).isSome=true):=fun⟨n,v⟩ hy=>by
  rcases S.par n (adl hy).1 with q|q
  ·exact .inl q
  ·exact .inr ⟨q,acz _ _ _ (.inl q)⟩
 refine codeAny_call_function hr.depth (KX _ _ lk) rfl S.co S.gen rfl (PySem.W.codeRec_of KX iP) (hb _ _ _ _ ?_)
 refine wpAny_newFunctionEnv_cells S.kind Fh fun env he s1 x => ?_
 subst he
 refine⟨Rr.keeps x.toInCall.keep,codeAny_func ?_⟩
 obtain⟨t,ht,hq⟩:=fi A outer s H vs Q E (hr.deeper _) Fg
 have I:aw (vO CX P w K mg base N qual scope f aY A outer s H E) [] (dB N vs) H s1:=xY S e0 hl r x
 refine ZI (ht [] s1 (dB N vs) H _ I hq) (fun fl s' hs => ?_) fun e s' hs=>hs
 have fin:∀{σ':St} {H':Hp} {v:V} {u:Yv},aw (vO CX P w K mg base N qual scope f aY A outer s H E) [] σ' H' s'→aO v u→Q v H'→CE outer P w H s Q u s' :=
  fun {σ' H' v u} J rv q=>⟨v,H',J.os,J.bare,J.base,J.hok,rv,q⟩
 cases fl with
 |ret u =>
  obtain⟨v,σ',H',J,rv,q⟩:=hs
  exact fin J rv q
 |next =>
  obtain⟨σ',H',J,q⟩:=hs
  exact fin (v:=V.non) (u:=Value.none) J rfl q
 |brk =>
  obtain⟨_,_,_,q⟩:=hs
  exact ZV q
 |cont =>
  obtain⟨_,_,_,q⟩:=hs
  exact ZV q
noncomputable def GX:V→List V→Hp→VK→Prop:=fun x vs H Q=>∃a xs y,x=.ref a∧vs=[y]∧H a=some (.lst xs)∧i5 y=true∧xs.all i5=true∧Q (.int (xs.countP fun z=>Cb z y:Nat)) H
noncomputable def GY:V→List V→Hp→VK→Prop:=fun x vs H Q=>∃a xs y j,x=.ref a∧vs=[y]∧H a=some (.lst xs)∧i5 y=true∧xs.all i5=true∧j<1000∧xs[j]?.map (fun z=>Cb z y)=some true ∧
 (∀m,m<j→xs[m]?.map (fun z=>Cb z y)=some false)∧Q (.int (j:Nat)) H
theorem r6:∀{xs:List V} {aq:List Yv} {y:V},aQ xs aq→xs.all i5=true→aq.countP (Ku y)=xs.countP fun z=>Cb z y
 |_,_,_,.nil,_=>rfl
 |x::xs,u::us,y,.cons r t,f=>by
  rw[ZX,YG] at f
  rw[List.countP_cons,List.countP_cons,r6 t f.2,xy r f.1]
theorem BH:Fz X "list.count" GX:=by
 intro pins s σ H x vs v us Q I rx rv h
 obtain⟨a,xs,y,rfl,rfl,hs,fy,fx,q⟩:=h
 cases rx
 obtain⟨u,rfl,ru⟩:=rv.one
 obtain⟨aq,n,r,ho,hz⟩:=I.lst hs
 refine acI F.slot_list_count ⟨_,ho,rfl⟩ F.entry_list_count (F.args_list_count_2 _ _) (PySem.SeqAt.list_countAt a aq.toArray n none #[] u (Ku y)) ⟨ho,fun w' hw=>pb ru fy r fx w' (by simpa using hw),?_⟩
 have e:aq.toArray.toList.countP (Ku y)=xs.countP fun z=>Cb z y:=by rw[List.toList_toArray];exact r6 r fx
 rw[e]
 exact⟨.int _,H,I.tok _,⟨_,rfl⟩,q⟩
theorem BI:Fz X "list.index" GY:=by
 intro pins s σ H x vs v us Q I rx rv h
 obtain⟨a,xs,y,j,rfl,rfl,hs,fy,fx,jl,hj,Ru,q⟩:=h
 cases rx
 obtain⟨u,rfl,ru⟩:=rv.one
 obtain⟨aq,n,r,ho,hz⟩:=I.lst hs
 have get:∀{m:Nat} {b:Bool},xs[m]?.map (fun z=>Cb z y)=some b→∃hm:m<aq.toArray.size,Ku y aq.toArray[m]=b:=fun {m b} e=>by
  cases hx:xs[m]? with
  |none=>rw[hx] at e;cases e
  |some z =>
   rw[hx] at e
   obtain⟨w',e1,e2⟩:=r.get hx
   obtain⟨hm,e3⟩:=YD.mp e1
   refine⟨by simpa using hm,?_⟩
   have fz:i5 z=true:=ZN.mp fx z (Z4 hx)
   have:aq.toArray[m]=w':=by simpa using e3
   rw[this,xy e2 fz]
   exact Zg e
 obtain⟨hm,hit⟩:=get hj
 refine acI F.slot_list_index ⟨_,ho,rfl⟩ F.entry_list_index (F.args_list_index_2 _ _) (PySem.SeqAt.list_indexAt a aq.toArray n none #[] u (Ku y) j hm (by lia) hit fun m Yl xc=>(get (Ru m xc)).2) ⟨ho,fun w' hw=>pb ru fy r fx w' (by simpa using hw),?_⟩
 exact⟨.int j,H,I.tok _,⟨_,rfl⟩,q⟩
noncomputable def BJ (ea C:YM):HO:=.ext (ll ea C)
theorem GZ {ea:YM}(x:ll ea C h):bo P w H h ea (BJ ea C):=by
 obtain⟨ox,e,c⟩:=id x
 exact⟨x,⟨ox,e⟩,fun h1 h2 ⟨o,e1,c1⟩ k=>⟨o,k o e1,c1⟩⟩
section
variable {ea:YM}
noncomputable def Ll (ea C:YM)(D:V)(b:Bool):List V→Hp→VK→Prop:=fun xs H Q=>xs=[.ref ea,D]∧H ea=some (BJ ea C)∧Q (.bl b) H
theorem pQ {D:V}{d:Yv}{b:Bool}(h:rj X.K C)(rd:∀u,aO D u→u=d)(e:aan X.K (.ref C) d=some b):dR X (.builtin "isinstance") (Ll ea C D b):=by
 intro pins s σ H xs us Q I r q
 obtain⟨rfl,hx,q⟩:=q
 obtain⟨u,w',rfl,rx,rt⟩:=rJ r
 cases rx
 rw[rd _ rt]
 obtain⟨kz,_⟩:=(show bo X.prog X.w H s.heap ea (BJ ea C) from I.hok ea _ hx)
 exact ZZ (Dx h) I.kIn kz e (fun z=>nomatch z) fun tk=>⟨.bl b,H,I.tok tk,rfl,q⟩
end
end L2
end
section
set_option maxHeartbeats 400000
namespace L2
open PySem PySem.Spec PyProof.Rows PySem.W
theorem DC {o:HO}(x:bo P w H h a o):∃ob,h.get? a=some ob:=by
 cases o with
 |lst xs=>obtain⟨_,_,_,_,e⟩:=x;exact⟨_,e⟩
 |tup xs=>obtain⟨_,_,_,_,_,e⟩:=x;exact⟨_,e⟩
 |dK aJ=>obtain⟨_,_,_,_,o,_,_,e,_⟩:=x;exact⟨_,e⟩
 |dT aJ=>obtain⟨_,_,_,_,o,_,_,e,_⟩:=x;exact⟨_,e⟩
 |set S n=>obtain⟨o,_,_,_,e,_⟩:=x;exact⟨_,e⟩
 |ins C dx fs=>obtain⟨_,_,_,e,_⟩:=x;exact⟨_,e⟩
 |own y=>exact x
 |xd fs=>obtain⟨_,⟨_,_,_,e,_⟩,_⟩:=x;exact⟨_,e⟩
 |rng lo hi=>obtain⟨_,_,_,e⟩:=x;exact⟨_,e⟩
 |frz ob u=>obtain⟨e,_⟩:=x;exact⟨_,e⟩
 |tbl ps=>exact⟨_,(show h.get? a=some _ from x)⟩
 |met f y=>exact⟨_,(show h.get? a=some _ from x)⟩
 |ext φ=>obtain⟨_,e,_⟩:=x;exact e
section
variable {s1:YK}{ea:YM}
theorem aw.track {o:HO}(I0:aw X pins σ H s)(n0:s.heap.get? ea=none)(I:aw X pins σ H1 s1)(n1:H1 ea=none)(x:bo X.prog X.w (cm H1 ea o) s1.heap ea o):aw X pins σ (cm H1 ea o) s1:=by
 have ne:∀b ob,s.heap.get? b=some ob→b≠ea:=fun b ob e z=>by rw[z,n0] at e;cases e
 have Ws:∀b ob,X.s₀.heap.get? b=some ob→b∉X.ex→b≠ea:=fun b ob e hx=>by
  obtain⟨o',e'⟩:=I0.base.there b ob e hx
  exact ne b o' e'
 have O6:∀{b u},H1 b=some u→b≠ea:=fun {b u} e z=>by rw[z,n1] at e;cases e
 refine⟨I.ok,I.os,I.bare,⟨I.base.keep,I.base.slot,fun b ob e n hx => ?_,I.base.there,fun b xs e => ?_,fun b ob u e => ?_,fun b ps e => ?_⟩,I.loc,I.cell,?_,fun y c e => ?_,fun p hp => ?_,fun b u e => ?_,I.len⟩
 ·rw[aD (Ws b ob e hx)];exact I.base.free b ob e n hx
 ·have q:=I.base.tups b xs e
  rw[aD (O6 q)];exact q
 ·have q:=I.base.frzs b ob u e
  rw[aD (O6 q)];exact q
 ·obtain⟨m,q⟩:=I.base.tbls b ps e
  exact⟨m,by rw[aD (O6 q)];exact q⟩
 ·obtain⟨m,⟨oL,_,_,hL,_⟩,_⟩:=I0.loc
  rw[aD (ne _ _ hL)];exact I.free
 ·obtain⟨v,oc,hc,_⟩:=I0.cell y c e
  rw[aD (ne _ _ hc)];exact I.freeC y c e
 ·obtain⟨e,n,r⟩:=I.pin p hp
  have e0:=(I0.pin p hp).1
  exact⟨e,by rw[aD (ne _ _ e0)];exact n,r⟩
 ·by_cases hb:b=ea
  ·subst hb
   rw[aI] at e;cases e
   exact x
  ·rw[aD hb] at e
   exact (I.hok b u e).stay (fun c v _ q=>q) (fun c q=>by rw[aD (O6 q)];exact q) fun c xs q=>by rw[aD (O6 q)];exact q
theorem oI {A:Zw}{Q:Unit→YK→Prop}(I:aw X pins σ H s)(hN:X.N.Nodup)(hi:X.N[i]? = some x)(hk:X.env.kindOf x=some .local)(h:∀s',aw X pins (σ.set i none) H s'→Q () s'):YR M A (do bindName X.env x .none;unbindBehindTheSuite X.env x pos) Q E s:=by
 obtain⟨m,hn,hl⟩:=id I.loc
 have Mg:(X.env.scope.kind==.class||(X.env.scope.kind==.module&&X.env.locals != X.env.globals))=false:=by rw[I.ok.kind];rfl
 have P5:i<σ.length:=by rw[I.len];exact (YD.mp hi).1
 obtain⟨oL,_,_,JQ,_⟩:=id hn
 refine wpAny_nameGoes_keeps hk hn Mg fun h' v Rm hs=>h _ ?_
 have HX:∀b ob,X.s₀.heap.get? b=some ob→b≠X.env.locals:=fun b ob e=>Y0 (Zi (YE e) I.ok.above)
 refine⟨I.ok,I.os,I.bare,⟨fun b ob e n hb hx=>(hs.2 b (HX b ob e)).trans (I.base.keep b ob e n hb hx),fun b ob e n hb hx => ?_,I.base.free,fun b ob e hx => ?_,I.base.tups,I.base.frzs,I.base.tbls⟩,⟨_,Rm,fun j y w e1 e2 e3 => ?_⟩,fun y c e => ?_,I.free,I.freeC,fun p hp => ?_,?_,by simpa using I.len⟩
 ·obtain⟨sl,q⟩:=I.base.slot b ob e n hb hx
  exact⟨sl,(hs.2 b (HX b ob e)).trans q⟩
 ·obtain⟨o',q⟩:=I.base.there b ob e hx
  exact⟨o',(hs.2 b (HX b ob e)).trans q⟩
 ·have hj:j≠i:=fun z=>by
   subst z
   rw[abD P5] at e2;cases e2
  rw[Zf (Ne.symm hj)] at e2
  obtain⟨u,r,q⟩:=hl j y w e1 e2 e3
  refine⟨u,r,?_⟩
  rcases q with⟨k,e⟩|⟨k,c,e,z⟩
  ·have ny:y≠x:=fun e=>hj (oW hN e1 (e▸hi))
   exact .inl ⟨k,by simp[ny,e]⟩
  ·exact .inr ⟨k,c,e,z.sameBut hs (I.cne y c e)⟩
 ·obtain⟨v',z⟩:=I.cell y c e
  exact⟨v',z.sameBut hs (I.cne y c e)⟩
 ·obtain⟨e,n,ne,nf,d⟩:=I.pin p hp
  exact⟨(hs.2 p.1 ne).trans e,n,ne,nf,d⟩
 ·exact I.hok.keptT fun b u ob e q=>(hs.2 b fun z=>by rw[z,I.free] at e;cases e).trans q
noncomputable abbrev Cx.hand (X:Cx)(e:Yv):Cx:={X with A:=X.A.mark (some e),calm:=false,xe:=fun _ _=>False}
theorem aw.hand (I:aw X pins σ H s)(e:Yv):aw (X.hand e) pins σ H s :=
 ⟨⟨I.ok.mod,I.ok.kind,I.ok.glob,I.ok.blt,I.ok.above,I.ok.inj,I.ok.has,I.ok.cab,fun z=>absurd z Yq,I.ok.frames,I.ok.stk,I.ok.exf,I.ok.bs,I.ok.bsz,I.ok.noex,I.ok.exfs,I.ok.funs,I.ok.frf⟩,I.os,I.bare,I.base,I.loc,I.cell,I.free,I.freeC,I.pin,I.hok,I.len⟩
theorem aw.unhand {e:Yv}(I0:X.Ok)(I:aw (X.hand e) pins σ H s):aw X pins σ H s:=⟨I0,I.os,I.bare,I.base,I.loc,I.cell,I.free,I.freeC,I.pin,I.hok,I.len⟩
theorem DD {p:Pos}{a:aav}{t:TA}{e:Yv}(F:DB X.prog X.w X.K X.mg X.base s_ k f fd ps sp)(hr:fX k (X.A.mark (some e)))(hm:X.mg x=some (.ref f))(hk:Y3 X.K (.ref f)=true)(hb:jS X.K fd ps [])(ha:PA (X.hand e) [a] t)(hg:Gl (X.hand e) x:=by rfl)(uX:(x==("__debug__":Str))=false:=by decide)(he:YF [a] X.env=(false,abE a X.env)::YF [] X.env:=by rfl)(jR:(aaQ pos (YF [] X.env)).any (·.1)=false:=by rfl) :
  PE (X.hand e) (.Call (.Name x p) [a] [] pos) (Cv sp [] E0 t):=by
 intro pins s σ H Q I h
 refine abJ (jE I hg hm ?_ uX)
 refine adI (h₀:=X.base) I.ok.mod.kin hk (dz (ha pos pins s σ H _ I h) fun us s1 ⟨vs,H1,I1,r,q⟩=>⟨I1.kIn,?_⟩) he jR
 have q:sp (vs++[]) H1 Q E0:=q
 rw[Zb] at q
 have hl:us.length=ps.length:=by rw[←r.length];exact F.len _ _ _ _ q
 have RM:BindsTo s1 fd ⟨us,[]⟩ (ps.zip us):=by
  have z:=hb s1 us I1.kIn (by rw[Zb];exact hl)
  rw[Zb] at z
  exact z
 refine wpAny_call (acg (F.run (X.A.mark (some e)) X.stack s1 H1 ⟨us,[]⟩ us vs Q E0 hr I1.env0 RM r q) fun r s' hq => ?_)
 cases r with
 |error e=>exact ZV hq
 |ok fl =>
  cases fl with
  |ret u=>exact I1.after hq
  |next=>exact ZV hq
  |brk=>exact ZV hq
  |cont=>exact ZV hq
end
noncomputable def N3 (D:j3)(i:Nat):j3:={nx:=fun σ H=>D.nx (σ.set i none) H,rt:=D.rt,bk:=fun σ H=>D.bk (σ.set i none) H,ct:=fun σ H=>D.ct (σ.set i none) H}
noncomputable def XE (C:YM)(i:Nat)(th:TS)(D:j3)(σ:St):XK:=fun _ _ H2=>∀ea,H2 ea=none→th (N3 D i) (σ.set i (some (.ref ea))) (cm H2 ea (BJ ea C))
noncomputable def N4 (C:YM)(i:Nat)(sp:Sp)(ta:TA)(th:TS):TS:=fun D σ H=>ta σ H fun vs H1=>sp vs H1 (fun _ _=>False) (XE C i th D σ)
section
variable {cc:YM}{g cn n:Str}{p cp rp np hpos:Pos}{a:aav}{as:List aav}{b0:adh}{suite:List adh}{ta:TA}{th:TS}
theorem G0 (F:iU X.prog X.w X.K X.mg X.base (IA X.prog X.w C) k f fd ps sp)(hr:ez k X.A)(hm:X.mg g=some (.ref f))(Wt:Y3 X.K (.ref f)=true)(hb:jS X.K fd ps [])(fN:X.stack=X.env::X.outer)(Wu:X.env.frame=some X.env.locals)
  (hc:X.mg cn=some (.ref cc)) (O1:exmOne X.K (.ref C) (.ref cc)=some true) (hN:X.N.Nodup) (ha:PA X.nox (a::as) ta) (hs:∀ea,mV (X.hand (.ref ea)) (b0::suite) th)
  (hi:X.N[i]? = some n:=by rfl) (M3:X.env.kindOf n=some .local:=by rfl) (hg:Gl X g:=by rfl) (Wv:Gl X cn:=by rfl) (uX:(g==("__debug__":Str))=false:=by decide) (Ww:(cn==("__debug__":Str))=false:=by decide)
  (he:YF (a::as) X.env=(false,abE a X.env)::YF as X.env:=by rfl) (jR:(aaQ cp (YF as X.env)).any (·.1)=false:=by rfl) :
  PS X (.Try [.Return (some (.Call (.Name g p) (a::as) [] cp)) rp] [.ExceptHandler (some (.Name cn np)) (some n) (b0::suite) hpos] [] [] pos) (N4 C i sp ta th):=by
 intro pins s σ H D I h
 have Wx:X.A.frames=some (X.env::X.outer):=by rw[←fN];exact I.ok.frames
 refine wpAny_Try_except ?_
 refine wpAny_execs_cons (wpAny_Return_some ?_)
 refine abJ (jE (X:=X) I hg hm ?_ uX)
 refine adI (h₀:=X.base) I.ok.mod.kin Wt (ZI (ha cp pins s σ H _ (I.wish _) h) (fun us s1 ⟨vs,H1,J1,r,q⟩=>⟨J1.unwish.kIn,?_⟩) fun _ _ z=>z.elim) he jR
 have I1:=J1.unwish
 have hl:us.length=ps.length:=by rw[←r.length];exact F.len _ _ _ _ q
 have RM:BindsTo s1 fd ⟨us,[]⟩ (ps.zip us):=by
  have z:=hb s1 us I1.kIn (by rw[Zb];exact hl)
  rw[Zb] at z
  exact z
 refine wpAny_call (acg (F.run X.A X.stack s1 H1 ⟨us,[]⟩ us vs _ _ hr I1.env0 RM r q) fun r s' hq => ?_)
 cases r with
 |ok fl =>
  cases fl with
  |ret u =>
   obtain⟨v,H',_,_,_,_,_,z⟩:=hq
   exact ZV z
  |next=>exact ZV hq
  |brk=>exact ZV hq
  |cont=>exact ZV hq
 |error e =>
  obtain⟨ea,t,L,B,rh,H2,rfl,os,bare,Fl,fl,up,nr,hE⟩:=hq
  rw[fN] at fl
  have n0:s1.heap.get? ea=none:=by
   cases z:s1.heap.get? ea with
   |none=>rfl
   |some ob =>
    obtain⟨o',z'⟩:=Fl.un.there ea ob z (by simp)
    rw[nr] at z';cases z'
  have n1:H2 ea=none:=by
   cases z:H2 ea with
   |none=>rfl
   |some ob =>
    obtain⟨o',z'⟩:=DC (Fl.hok ea ob z)
    rw[nr] at z';cases z'
  obtain⟨hh,gg,dd,tt,oo⟩:=s'
  have os:oo=s1.os:=os
  subst os
  refine wpAny_looks_onW Wx Wu fl fun h4 O7 Vj => ?_
  refine wpAny_landsW O7 fun h5 RN Vk => ?_
  have I5:=I1.fly (h:=h5) (g':=gg) (d':=dd) (t':=tt) Fl RN.1 (up.trans (Vj.trans Vk)) bare
  refine wpAny_handleBy_cons (codeAny_handlers_test ?_) (by intro q;cases q)
  refine jE (X:=X.hand (.ref ea)) (I5.hand _) Wv hc ?_ Ww
  obtain⟨ob,hob,hoc⟩:=RN.there
  have LT:Looks (Y7 X.prog X.w) h5 (typeOf (.ref ea)) (.ref C):=hoc▸(Looks.ld hob).andThen .now
  refine (exm_one (M:=Y7 X.prog X.w) I5.kIn LT O1).at ?_
  refine codeAny_handlers_suite_as ?_
  refine lands_againW RN fun h6 Vl Wy => ?_
  have I6:=I1.fly (h:=h6) (g':=gg) (d':=dd) (t':=tt) Fl Vl.1 ((up.trans (Vj.trans Vk)).trans Wy) bare
  have I7:=aw.track I1 n0 I6 n1 (GZ (C:=C) Vl.there)
  refine iZ (X:=X.hand (.ref ea)) (I7.hand (.ref ea)) hN hi (.inl M3) (show aO (.ref ea) (.ref ea) from rfl) (fun s8 I8 => ?_) (.inr M3)
  refine ZI (hs ea pins s8 _ _ _ I8 (hE ea n1)) (fun fl s9 hq => ?_) fun _ _ z=>z.elim
  cases fl with
  |next =>
   obtain⟨σ',H',J,z⟩:=hq
   exact oI (aw.unhand I.ok J) hN hi M3 fun s' K=>⟨_,_,K,z⟩
  |brk =>
   obtain⟨σ',H',J,z⟩:=hq
   exact oI (aw.unhand I.ok J) hN hi M3 fun s' K=>⟨_,_,K,z⟩
  |cont =>
   obtain⟨σ',H',J,z⟩:=hq
   exact oI (aw.unhand I.ok J) hN hi M3 fun s' K=>⟨_,_,K,z⟩
  |ret u =>
   obtain⟨v,σ',H',J,rv,z⟩:=hq
   exact oI (aw.unhand I.ok J) hN hi M3 fun s' K=>⟨v,_,_,K,rv,z⟩
theorem G1 {h0:ExceptHandler}{hs:List ExceptHandler}(hb:mV X.nox body tb):PS X (.Try body (h0::hs) [] [] pos) tb:=by
 intro pins s σ H D I h
 refine wpAny_Try_except (ZI (hb pins s σ H D (I.wish _) h) (fun fl s1 q => ?_) fun _ _ z=>z.elim)
 cases fl with
 |next=>exact acm q.unwish
 |brk=>exact q.unwish
 |cont=>exact q.unwish
 |ret u=>exact q.unwish
end
end L2
end
section
set_option maxHeartbeats 400000
namespace L2
open PySem PySem.Spec PyProof.Rows PySem.W
theorem Lm {K:Frag}{b:Yv}{r:Bool}(h:mroIn K C b=some r):(clsIn K C).isSome=true:=by
 unfold mroIn at h
 cases e:clsIn K C with
 |none=>rw[e] at h;cases h
 |some cd=>rfl
structure DF (K:Frag)(mg:Str→Option Yv)(C:YM)(x:Str)(ms:List (Str×Bool)):Prop where
 cls:mg x=some (.ref C)
 exc:excIn K C Dy "ValueError.__new__"=true
 ec:rj K C
 card:∃c,mg "CardError"=some (.ref c)∧exmOne K (.ref C) (.ref c)=some true
 ve:kitOne K (.ref C) (.type "ValueError")=some true
 zve:mg "ValueError"=none
 marks:∀p∈ms,∃c,mg p.1=some (.ref c)∧kitOne K (.ref C) (.ref c)=some p.2
noncomputable def VX (K:Frag)(n:Nat)(C:YM)(p:List U→Prop):Sp:=fun vs H _ E=>∃us A,az K H A us vs∧(∀a,A a→Mu (H a))∧us.length=n∧p us∧∀H',aH H H'→E (.ref C) none H'
noncomputable def Ln (C:YM)(RO:Str):Sp:=fun vs H Q _=>∃ea,vs=[.ref ea]∧H ea=some (BJ ea C)∧∀H',aH H H'→Q (.str RO) H'
theorem BK {K:Frag}{A0:YM→Prop}(r:az K H A0 us vs)(mu:∀a,A0 a→Mu (H a))(Ce:G.io=false)(ku:∀i,i<us.length→G.is i=false):cE K G ⟨A0,H,0⟩ A0 (cA N.length us) (dB N vs) H where
 slot:=fun i u hu=>by
  have hu:=iz hu
  obtain⟨v,h1,h2⟩:=r.get hu
  refine⟨v,g9 h1,?_⟩
  rw[if_neg (by rw[ku i (YD.mp hu).1];exact Yq)]
  exact h2
 dis:=fun i j u w a ci cj ne hi hj si sj=>by
  rw[ku i (YD.mp (iz hi)).1] at ci;cases ci
 mu:=mu
 sup:=fun a h=>h
 out:=fun a h=>.inl h
 bas:=fun a o h=>h
 io0:=fun h=>by rw[Ce] at h;cases h
 len:=tR r.length
theorem aH.updN {o:HO}(h:aH H H')(n:H' a=none):aH H (cm H' a o):=fun b ob e=>by
 have q:=h b ob e
 rw[aD (ba q n)];exact q
section
variable {ea:YM}{y:Str}{b:Bool}{p1 p3:Pos}
noncomputable def DH (i:Nat)(C:YM)(b:Bool):TE:=fun σ H Q=>∃ea,σ[i]? = some (some (.ref ea))∧H ea=some (BJ ea C)∧Q (.bl b) H
theorem fY (h:rj X.K C)(zi:X.mg "isinstance"=none)(hc:∃c,X.mg y=some (.ref c)∧kitOne X.K (.ref C) (.ref c)=some b)(hN:X.N[i]? = some x:=by rfl)(hv:yZ X.env.scope x:=by first|exact Or.inl rfl|exact Or.inr (Or.inl rfl)|exact Or.inr (Or.inr rfl))(hg:Gl X "isinstance":=by rfl)(hy:Gl X y:=by rfl)
  (hd:(x==("__debug__":Str))=false:=by decide) (iP:(x==("__classdict__":Str))=false:=by decide) (Ia:(y==("__debug__":Str))=false:=by decide)
  (hs:YF [.Name x p2,.Name y p3] X.env=(false,abE (.Name x p2) X.env)::YF [.Name y p3] X.env:=by rfl) (nO:YF [.Name y p3] X.env=(false,abE (.Name y p3) X.env)::YF [] X.env:=by rfl)
  (jR:(aaQ pos (YF [.Name y p3] X.env)).any (·.1)=false:=by rfl):PE X (.Call (.Name "isinstance" p1) [.Name x p2,.Name y p3] [] pos) (DH i C b):=by
 obtain⟨c,hm,hk⟩:=hc
 intro pins s σ H Q I hq
 obtain⟨ea,e1,e2,q⟩:=hq
 exact gU (pQ (ea:=ea) (D:=.ref c) h (fun u hu=>hu) hk) hg zi eV (aL (fq hN hv hd iP) (aL (sU (v:=.ref c) hy hm rfl Ia) dA nO) hs) (by decide) (by decide) hs jR pins s σ H Q I ⟨_,e1,rfl,e2,q⟩
theorem DJ (h:rj X.K C)(zi:X.mg "isinstance"=none)(zv:X.mg "ValueError"=none)(hk:kitOne X.K (.ref C) (.type "ValueError")=some b)(hN:X.N[i]? = some x:=by rfl)(hv:yZ X.env.scope x:=by first|exact Or.inl rfl|exact Or.inr (Or.inl rfl)|exact Or.inr (Or.inr rfl))(hg:Gl X "isinstance":=by rfl)(hy:Gl X "ValueError":=by rfl)
  (hd:(x==("__debug__":Str))=false:=by decide) (iP:(x==("__classdict__":Str))=false:=by decide)
  (hs:YF [.Name x p2,.Name "ValueError" p3] X.env=(false,abE (.Name x p2) X.env)::YF [.Name "ValueError" p3] X.env:=by rfl) (nO:YF [.Name "ValueError" p3] X.env=(false,abE (.Name "ValueError" p3) X.env)::YF [] X.env:=by rfl)
  (jR:(aaQ pos (YF [.Name "ValueError" p3] X.env)).any (·.1)=false:=by rfl):PE X (.Call (.Name "isinstance" p1) [.Name x p2,.Name "ValueError" p3] [] pos) (DH i C b):=by
 intro pins s σ H Q I hq
 obtain⟨ea,e1,e2,q⟩:=hq
 have bt:Zr "ValueError"=some (.type "ValueError"):=by decide +kernel
 exact gU (pQ (ea:=ea) (D:=.ty "ValueError") h (fun u hu=>hu) hk) hg zi eV (aL (fq hN hv hd iP) (aL (oy (v:=.ty "ValueError") hy zv bt rfl (by decide) (by decide)) dA nO) hs) (by decide) (by decide) hs jR pins s σ H Q I ⟨_,e1,rfl,e2,q⟩
end
theorem G2 {m:Md}{h0:ExceptHandler}{hs:List ExceptHandler}{g:Ev→SR}(h:xm X.nox G m body g):DS X G m (.Try body (h0::hs) [] [] pos) g:=⟨G1 h.un⟩
end L2
end
namespace L2
theorem nr {α:Sort _}{a b:α}(h:a=b):a=b:=h
noncomputable def look (o:Option (Option U))(ρ:Ev):R (U×Ev):=match o with
 |some (some u)=>.ok (u,ρ)
 |_=>.stk
noncomputable def UO (u:U)(ρ:Ev):R (Bool×Ev):=match u with
 | .bl c=>.ok (c,ρ)
 |_=>.stk
noncomputable def PL (o:Option U):R U:=match o with
 |some u=>.ok u
 |none=>.stk
noncomputable def SR.seq (r:SR)(g:Ev→SR):SR:=match r with
 | .nx ρ=>g ρ
 |r=>r
noncomputable def SR.turn (r:SR)(g:Ev→SR):SR:=match r with
 | .nx ρ=>g ρ
 | .ct ρ=>g ρ
 | .bk ρ=>.nx ρ
 |r=>r
noncomputable def N5 (m:Md)(r:SR):R U:=match r with
 | .rt u _=>.ok u
 | .nx _=>if m=.S then .ok .non else .stk
 | .exc c u=>.exc c u
 |_=>.stk
noncomputable def io0 (u:U)(o:Option (Option U)):R (U×U):=match o with
 |some (some w)=>.ok (u,w)
 |_=>.stk
noncomputable def Lo (r:SR):R (U×U):=match r with
 | .rt u ρ=>io0 u ρ[0]?
 | .nx ρ=>io0 .non ρ[0]?
 | .exc c u=>.exc c u
 |_=>.stk
section
variable {w:U}{α β:Type}{g g1 g2 g3:Ev→R (U×Ev)}{h h1 h2:Ev→R (Bool×Ev)}{s s1 s2:Ev→SR}{ga:Ev→R (List U×Ev)}{m:Md}{ws:List U}
theorem IB:ae i ρ=look ρ[i]? ρ:=nr rfl
theorem DK:look (some (some u)) ρ=.ok (u,ρ):=nr rfl
theorem UP:gC u ρ=.ok (u,ρ):=nr rfl
theorem xZ {a:α}{f:α→R β}:(R.ok a).bind f=f a:=nr rfl
theorem IC {f:α→R β}:(R.stk:R α).bind f=.stk:=nr rfl
theorem vP {a:α}{f:α→SR}:SR.of (R.ok a) f=f a:=nr rfl
theorem N6 {p:U→U→R U}:aZ p g1 g2 ρ=(g1 ρ).bind fun x=>(g2 x.2).bind fun y=>(p x.1 y.1).bind fun z=>.ok (z,y.2):=nr rfl
theorem UQ:gB g ρ=(g ρ).bind fun x=>UO x.1 x.2:=nr rfl
theorem ID {c:Bool}:UO (.bl c) ρ=.ok (c,ρ):=nr rfl
theorem DL:Bh h1 h2 ρ=(h1 ρ).bind fun x=>if x.1=true then h2 x.2 else .ok (false,x.2):=nr rfl
theorem IE:MP h1 h2 ρ=(h1 ρ).bind fun x=>if x.1=true then .ok (true,x.2) else h2 x.2:=nr rfl
theorem DM:Bi h ρ=(h ρ).bind fun x=>.ok (!x.1,x.2):=nr rfl
theorem IF:KP g1 g2 ρ=(gB g1 ρ).bind fun x=>if x.1=true then g2 x.2 else .ok (.bl false,x.2):=nr rfl
theorem N7:VM g1 g2 ρ=(gB g1 ρ).bind fun x=>if x.1=true then .ok (.bl true,x.2) else g2 x.2:=nr rfl
theorem IG:QK g ρ=(gB g ρ).bind fun x=>.ok (.bl (!x.1),x.2):=nr rfl
theorem N8:VN h g1 g2 ρ=(h ρ).bind fun x=>if x.1=true then g1 x.2 else g2 x.2:=nr rfl
noncomputable def UR (p':U→U→R U)(g3:Ev→R (U×Ev))(y:U×Ev)(z:U):R (U×Ev):=match z with
 | .bl k=>if k=true then (g3 y.2).bind fun w=>(p' y.1 w.1).bind fun z'=>.ok (z',w.2) else .ok (.bl false,y.2)
 |_=>.stk
theorem zF {p p':U→U→R U}:KS p p' g1 g2 g3 ρ=(g1 ρ).bind fun x=>(g2 x.2).bind fun y=>(p x.1 y.1).bind fun z=>UR p' g3 y z:=nr rfl
theorem IH {p':U→U→R U}{y:U×Ev}{k:Bool}:UR p' g3 y (.bl k)=if k=true then (g3 y.2).bind fun w=>(p' y.1 w.1).bind fun z'=>.ok (z',w.2) else .ok (.bl false,y.2):=nr rfl
theorem N9 {p:U→R U}:VO p g ρ=(g ρ).bind fun x=>(p x.1).bind fun z=>.ok (z,x.2):=nr rfl
theorem DP:ak ρ=.ok ([],ρ):=nr rfl
theorem zG:aa g ga ρ=(g ρ).bind fun x=>(ga x.2).bind fun y=>.ok (x.1::y.1,y.2):=nr rfl
theorem DQ:cw ga ρ=(ga ρ).bind fun x=>if x.1.length≤Yx then .ok (.tup x.1,x.2) else .stk:=nr rfl
theorem DR:eL ga ρ=(ga ρ).bind fun x=>if x.1.length≤Yx then .ok (.lst x.1,x.2) else .stk:=nr rfl
theorem N_ {p:List U→R U}:iR p ga ρ=(ga ρ).bind fun x=>(p x.1).bind fun z=>.ok (z,x.2):=nr rfl
theorem Oa {f:List U→R U}:fF n f ga ρ=(ga ρ).bind fun x=>(u9 n f x.1).bind fun z=>.ok (z,x.2):=nr rfl
theorem II {f:List U→R α}(h:us.length=n):u9 n f us=f us:=if_pos h
noncomputable def US (n:Nat)(f:List U→R (U×U))(us:List U)(i:Nat)(ρ:Ev)(o:Option (Option U)):R (U×Ev):=match o with
 |some (some u0)=>(u9 n f (u0::us)).bind fun z=>.ok (z.1,ρ.set i (some z.2))
 |_=>.stk
theorem IJ {f:List U→R (U×U)}:US n f us i ρ (some (some u))=(u9 n f (u::us)).bind fun z=>.ok (z.1,ρ.set i (some z.2)):=nr rfl
noncomputable def zH (o:Option (Option U)):Bool:=match o with
 |some (some _)=>true
 |_=>false
theorem zI:zH (some (some u))=true:=nr rfl
theorem Ob {f:List U→R (U×U)}:pF n i f ga ρ=if zH ρ[i]? = true then (ga ρ).bind fun x=>US n f x.1 i x.2 x.2[i]? else .stk:=nr rfl
noncomputable def QW (i:Nat)(p:U→List U→R (U×U))(us:List U)(ρ:Ev)(o:Option (Option U)):R (U×Ev):=match o with
 |some (some u0)=>(p u0 us).bind fun z=>.ok (z.1,ρ.set i (some z.2))
 |_=>.stk
theorem IK {p:U→List U→R (U×U)}:QW i p us ρ (some (some u))=(p u us).bind fun z=>.ok (z.1,ρ.set i (some z.2)):=nr rfl
noncomputable def UT (T:String)(i:Nat)(p:U→List U→R (U×U))(ga:Ev→R (List U×Ev))(ρ:Ev)(o:Option (Option U)):R (U×Ev):=match o with
 |some (some u1)=>if Bj u1 T=true then (ga ρ).bind fun x=>QW i p x.1 x.2 x.2[i]? else .stk
 |_=>.stk
theorem IL {T:String}{p:U→List U→R (U×U)}:UT T i p ga ρ (some (some u))=if Bj u T=true then (ga ρ).bind fun x=>QW i p x.1 x.2 x.2[i]? else .stk:=nr rfl
theorem UU {T:String}{p:U→List U→R (U×U)}:gM T i p ga ρ=UT T i p ga ρ ρ[i]? := nr rfl
theorem DV:Bj (.lst us) "list"=true:=nr rfl
theorem zJ:cI ρ=.ok (none,ρ):=nr rfl
noncomputable def UW (u:U)(ρ:Ev):R (Option Int×Ev):=match u with
 | .int i=>.ok (some i,ρ)
 |_=>.stk
theorem IM {k:Int}:UW (.int k) ρ=.ok (some k,ρ):=nr rfl
theorem zK:bW g ρ=(g ρ).bind fun x=>UW x.1 x.2:=nr rfl
theorem Oc {p:U→Option Int→Option Int→R U}{lo hi:Ev→R (Option Int×Ev)}:kP p g lo hi ρ=(g ρ).bind fun x=>(lo x.2).bind fun l=>(hi l.2).bind fun h=>(p x.1 l.1 h.1).bind fun z=>.ok (z,h.2):=nr rfl
noncomputable def gO (T:String)(u:U)(ρ:Ev):R (U×Ev):=if Bo u="script" then .stk else .ok (.bl (d9 (Bo u) T),ρ)
theorem DX {T:String}:jV T g ρ=(g ρ).bind fun x=>gO T x.1 x.2:=nr rfl
theorem DY:dO ρ=.nx ρ:=nr rfl
theorem zL:KY ρ=.bk ρ:=nr rfl
theorem DZ:NQ ρ=.ct ρ:=nr rfl
theorem IP:aN s1 s2 ρ=(s1 ρ).seq s2:=nr rfl
theorem D0:(SR.nx ρ).seq s=s ρ:=nr rfl
theorem D1:(SR.rt u ρ).seq s=.rt u ρ:=nr rfl
theorem D2:(SR.bk ρ).seq s=.bk ρ:=nr rfl
theorem D3:(SR.ct ρ).seq s=.ct ρ:=nr rfl
theorem D4:gZ g ρ=SR.of (g ρ) fun x=>.nx x.2:=nr rfl
theorem IQ:cz g ρ=SR.of (g ρ) fun x=>.rt x.1 x.2:=nr rfl
theorem IS:bj i g ρ=SR.of (g ρ) fun x=>.nx (x.2.set i (some x.1)):=nr rfl
theorem IT {sg:U→Ev→R Ev}:QO sg g ρ=SR.of (g ρ) fun x=>SR.of (sg x.1 x.2) .nx:=nr rfl
theorem IU:qW h s1 s2 ρ=SR.of (h ρ) fun x=>if x.1=true then s1 x.2 else s2 x.2:=nr rfl
noncomputable def UX (i j:Nat)(ρ:Ev)(o:Option (Option U)):SR:=match o with
 |some (some u)=>.nx ((ρ.set j none).set i (some u))
 |_=>.stk
theorem D5:vy i j ρ=UX i j ρ ρ[j]? := nr rfl
theorem IV:UX i j ρ (some (some u))=.nx ((ρ.set j none).set i (some u)):=nr rfl
noncomputable def Od (i j:Nat)(us:List U)(ρ:Ev):SR:=match us with
 | [u,w]=>.nx ((ρ.set i (some u)).set j (some w))
 |_=>.stk
theorem IW:Bl i j ga ρ=SR.of (ga ρ) fun x=>Od i j x.1 x.2:=nr rfl
theorem D6:Od i j [u,w] ρ=.nx ((ρ.set i (some u)).set j (some w)):=nr rfl
noncomputable def PM (i:Nat)(v k:U)(ρ:Ev)(o:Option (Option U)):SR:=match k with
 | .int k=>match o with
  |some (some (.lst us))=>match Ca us.length k with
   |some j=>.nx (ρ.set i (some (.lst (us.set j v))))
   |none=>.stk
  |_=>.stk
 |_=>.stk
theorem D7:zo i g1 g2 ρ=SR.of (g1 ρ) fun x=>if zH x.2[i]? = true then SR.of (g2 x.2) fun y=>PM i x.1 y.1 y.2 y.2[i]? else .stk:=nr rfl
theorem Oe {k:Int}(h:Ca us.length k=some j):PM i w (.int k) ρ (some (some (.lst us)))=.nx (ρ.set i (some (.lst (us.set j w)))):=by
 unfold PM;dsimp only;rw[h]
noncomputable def Of (i:Nat)(p:U→U→R U)(g:Ev→R (U×Ev))(ρ:Ev)(o:Option (Option U)):SR:=match o with
 |some (some u)=>SR.of (g ρ) fun y=>SR.of (p u y.1) fun z=>.nx (y.2.set i (some z))
 |_=>.stk
theorem IX {p:U→U→R U}:QP i p g ρ=Of i p g ρ ρ[i]? := nr rfl
theorem D8 {p:U→U→R U}:Of i p g ρ (some (some u))=SR.of (g ρ) fun y=>SR.of (p u y.1) fun z=>.nx (y.2.set i (some z)):=nr rfl
theorem D9 {gi:Ev→R (List U×Ev)}{sg:U→Ev→R Ev}:fG gi sg s ρ=SR.of (gi ρ) fun x=>eM sg s x.1 x.2:=nr rfl
theorem oJ {sg:U→Ev→R Ev}:eM sg s [] ρ=.nx ρ:=nr rfl
theorem pR:eM sg s (u::us) ρ=SR.of (sg u ρ) fun ρ1=>(s ρ1).turn (eM sg s us):=nr rfl
theorem oK:(SR.nx ρ).turn s=s ρ:=nr rfl
theorem zM:(SR.ct ρ).turn s=s ρ:=nr rfl
theorem zN:(SR.bk ρ).turn s=.nx ρ:=nr rfl
theorem zO:(SR.rt u ρ).turn s=.rt u ρ:=nr rfl
theorem oM:ft h s (n+1) ρ=SR.of (h ρ) fun x=>if x.1=true then (s x.2).turn (ft h s n) else .nx x.2:=nr rfl
noncomputable def x_ (u:U)(ρ:Ev):R (List U×Ev):=match u with
 | .lst us=>.ok (us,ρ)
 | .tup us=>.ok (us,ρ)
 | .scr us=>.ok (us,ρ)
 |_=>.stk
theorem D_:g7 g ρ=(g ρ).bind fun x=>x_ x.1 x.2:=nr rfl
theorem ya:x_ (.lst us) ρ=.ok (us,ρ):=nr rfl
theorem yb:x_ (.tup us) ρ=.ok (us,ρ):=nr rfl
theorem Ea:x_ (.scr us) ρ=.ok (us,ρ):=nr rfl
noncomputable def Lp (us:List U)(ρ:Ev):R (List U×Ev):=match us with
 | [.int j]=>if -1000000≤j∧j≤1000000 then .ok (aF 0 j.toNat,ρ) else .stk
 |_=>.stk
theorem Eb:g8 ga ρ=(ga ρ).bind fun x=>Lp x.1 x.2:=nr rfl
theorem Lq {k:Int}:Lp [.int k] ρ=if -1000000≤k∧k≤1000000 then .ok (aF 0 k.toNat,ρ) else .stk:=nr rfl
noncomputable def Ec (us:List U)(ρ:Ev):R (U×Ev):=match us with
 | [.int j]=>if vH 0 j=true then .ok (.lst (aF 0 (j - 0).toNat),ρ) else .stk
 |_=>.stk
noncomputable def Ed (us:List U)(ρ:Ev):R (U×Ev):=match us with
 | [.int j]=>if vH 0 j=true then .ok (.tup (aF 0 (j - 0).toNat),ρ) else .stk
 |_=>.stk
theorem Ee:Di ga ρ=(ga ρ).bind fun x=>Ec x.1 x.2:=nr rfl
theorem Ef:Dj ga ρ=(ga ρ).bind fun x=>Ed x.1 x.2:=nr rfl
theorem IY {k:Int}(h0:0≤k)(h1:k≤1000000):vH 0 k=true:=by
 unfold vH;simp only[YG,decide_eq_true_eq];lia
theorem G3 (n:Nat)(h:n≤1000000):Ec [.int n] ρ=.ok (.lst (aF 0 n),ρ):=by
 unfold Ec;dsimp only;rw[if_pos (IY (by lia) (by lia)),show ((n:Int) - 0).toNat=n by lia]
theorem lq (n:Nat)(h:n≤1000000):Ed [.int n] ρ=.ok (.tup (aF 0 n),ρ):=by
 unfold Ed;dsimp only;rw[if_pos (IY (by lia) (by lia)),show ((n:Int) - 0).toNat=n by lia]
theorem mB (n:Nat)(h:n≤1000000):Lp [.int n] ρ=.ok (aF 0 n,ρ):=by
 rw[Lq,if_pos (by lia)];rfl
theorem IZ {gi:Ev→R (List U×Ev)}{js:List (Option Nat)}{sg:U→Ev→R Ev}:jO gi js sg h g ρ=(gi ρ).bind fun x=>(xn (zm js sg h g x.2) x.1).bind fun ys=>.ok (.lst ys,x.2):=nr rfl
theorem I_ {G:Gm}{gi:Ev→R (List U×Ev)}{js:List (Option Nat)}{sg:U→Ev→R Ev}:C6 G gi js sg h g ρ=(gi ρ).bind fun x=>(nZ G js sg h g x.1 x.2).bind fun y=>.ok (.lst y.1,y.2):=nr rfl
theorem Eg {js:List (Option Nat)}{sg:U→Ev→R Ev}:zm js sg h g ρ u=(sg u (iy js ρ)).bind fun ρi=>(h ρi).bind fun c=>if c.1=true then (g ρi).bind fun y=>.ok (some y.1) else .ok none:=nr rfl
theorem Eh {G:Gm}{js:List (Option Nat)}{sg:U→Ev→R Ev}:nZ G js sg h g [] ρ=.ok ([],ρ):=nr rfl
theorem Lr:nZ G js sg h g (u::us) ρ=(sg u (iy js ρ)).bind fun ρi=>(h ρi).bind fun c=>if c.1=true then (g c.2).bind fun y=>(nZ G js sg h g us (wb G js y.2 ρ)).bind fun r=>.ok (y.1::r.1,r.2) else nZ G js sg h g us (wb G js c.2 ρ):=nr rfl
theorem Ei:eO ρ=.ok (true,ρ):=nr rfl
theorem Ja:cF i u ρ=.ok (ρ.set i (some u)):=nr rfl
theorem Og:K9 ρ=.ok (.dct [] [],ρ):=nr rfl
theorem yc:eP m n s us=N5 m (s (cA n us)):=nr rfl
theorem zP:N5 m (.rt u ρ)=.ok u:=nr rfl
theorem Ej:xN n s us=Lo (s (cA n us)):=nr rfl
theorem zQ:Lo (.rt u ρ)=io0 u ρ[0]? := nr rfl
theorem Jb:io0 u (some (some w))=.ok (u,w):=nr rfl
theorem vQ {ρ:Ev}:iy [] ρ=[]:=nr rfl
theorem r9 {js:List (Option Nat)}:iy (none::js) ρ=none::iy js ρ:=nr rfl
theorem r_ {js:List (Option Nat)}:iy (some j::js) ρ=(ρ[j]?).getD none::iy js ρ:=by
 unfold iy
 rw[Yw]
 congr 1
 dsimp only
 cases ρ[j]? <;> rfl
end
section
variable {i j k:Int}{ws:List U}{w:U}{lo:Option Int}
theorem Ek:bR (.int i) (.int j)=.ok (.int (i+j)):=nr rfl
theorem El:bR (.tup us) (.tup ws)=if us.length+ws.length≤Yx then .ok (.tup (us++ws)) else .stk:=nr rfl
theorem Em:bR (.lst us) (.lst ws)=if us.length+ws.length≤Yx then .ok (.lst (us++ws)) else .stk:=nr rfl
theorem Jc:GB (.int i) (.int j)=.ok (.int (i - j)):=nr rfl
theorem En:gA (.int i) (.int j)=if kX i j=true then .ok (.int (i*j)) else .stk:=nr rfl
theorem yd:jT (.int i) (.int j)=if vC i j=true then .ok (.int (i / j)) else .stk:=nr rfl
theorem Jd:n6 (.int i) (.int j)=if decide (0<j)=true then .ok (.int (i % j)) else .stk:=nr rfl
theorem Je:GF (.int i) (.int j)=if GD i j=true then .ok (.int (i ^ j.toNat)) else .stk:=nr rfl
theorem Jf:QQ (.int i)=.ok (.int (-i)):=nr rfl
theorem Oh:NS (.int i) (.int j)=.ok (.bl (decide (i<j))):=nr rfl
theorem Oi:VR (.int i) (.int j)=.ok (.bl (decide (i≤j))):=nr rfl
theorem Oj:GG (.int i) (.int j)=.ok (.bl (decide (j<i))):=nr rfl
theorem Ol:QR (.int i) (.int j)=.ok (.bl (decide (j≤i))):=nr rfl
theorem Jg:u_ (.lst us) (.int i)=PL (kG us i):=by show (match kG us i with|some z=>R.ok z|none=>.stk)=_;cases kG us i<;>rfl
theorem Jh:u_ (.tup us) (.int i)=PL (kG us i):=by show (match kG us i with|some z=>R.ok z|none=>.stk)=_;cases kG us i<;>rfl
theorem Ji:u_ (.scr us) (.int i)=PL (kG us i):=by show (match kG us i with|some z=>R.ok z|none=>.stk)=_;cases kG us i<;>rfl
theorem Jj:PL (some u)=.ok u:=nr rfl
theorem Jk:jU (.lst us) lo hi=.ok (.lst (g_ us lo hi)):=nr rfl
theorem Jl:jU (.tup us) lo hi=.ok (.tup (g_ us lo hi)):=nr rfl
theorem Jm:jU (.scr us) lo hi=.ok (.lst (g_ us lo hi)):=nr rfl
theorem Eo:iA [.lst us]=.ok (.int us.length):=nr rfl
theorem ye:iA [.tup us]=.ok (.int us.length):=nr rfl
theorem Ep:iA [.scr us]=.ok (.int us.length):=nr rfl
theorem Er:fw [.lst us]=.ok (.tup us):=nr rfl
theorem Es:fw [.tup us]=.ok (.tup us):=nr rfl
theorem Et:Iv [.lst us]=.ok (.lst us):=nr rfl
theorem Eu:Iv [.tup us]=.ok (.lst us):=nr rfl
theorem Jn {a b:Bool}{f:Bool→Bool}:QT f (.bl a) (.bl b)=.ok (.bl (f (decide (a=b)))):=nr rfl
theorem Jo {f:Bool→Bool}:QS f u .non=.ok (.bl (f (Ir u))):=nr rfl
theorem Ew:rT [.int i,.int j]=.ok (.int (if j<i then j else i)):=nr rfl
theorem Ex:vE [.int i,.int j]=.ok (.int (if j>i then j else i)):=nr rfl
theorem Om {f:Bool→Bool}:VS f u w=(NT u w).bind fun b=>.ok (.bl (f b)):=nr rfl
theorem sd (n:Nat):kG us (n:Int)=us[n]? := by
 unfold kG Ca
 by_cases h:n<us.length
 ·rw[if_pos (by lia),if_pos (by lia)];rfl
 ·rw[if_pos (by lia),if_neg (by lia)];rw[aab.mpr (by lia)];rfl
theorem Jp:kG us 0=us[0]? := sd 0
theorem Jq:kG us 1=us[1]? := sd 1
theorem Jr:kG us 2=us[2]? := sd 2
theorem Oo (h:0<us.length):Ca us.length 0=some 0:=by unfold Ca;rw[if_pos (by lia),if_pos (by lia)];rfl
theorem t9 (h0:0<j)(h1:j<18446744073709551616):vC i j=true:=by unfold vC;simp[h0,h1]
theorem pS (h0:0≤i)(h1:i<18446744073709551616):kX i j=true:=by
 unfold kX
 simp only[aaV,YG,decide_eq_true_eq]
 exact .inl ⟨by lia,by lia⟩
theorem Ls (h0:0≤j)(h1:j<18446744073709551616):kX i j=true:=by
 unfold kX
 simp only[aaV,YG,decide_eq_true_eq]
 exact .inr ⟨by lia,by lia⟩
end
end L2
namespace L2
theorem zR {i:Nat}{w u:U}{us:List U}{ρ:Ev}:PM i w (.int 0) ρ (some (some (.lst (u::us))))=.nx (ρ.set i (some (.lst (w::us)))):=by
 rw[Oe (j:=0) (Oo (by rw[YN];lia))];rfl
theorem zS {ρ:Ev}:Lo (.nx ρ)=io0 .non ρ[0]? := rfl
theorem pT {G:Gm}{js:List (Option Nat)}{sg:U→Ev→R Ev}{ge:Ev→R (U×Ev)}{σ:Type}(ev:σ→Ev)(N:Nat)(I:List U→σ→Prop)
  (step:∀done u s,done.length<N→I done s→∃ρi y ρi' s',sg u (iy js (ev s))=.ok ρi∧ge ρi=.ok (y,ρi')∧wb G js ρi' (ev s)=ev s'∧I (done++[y]) s') :
  ∀(us done:List U) (s:σ),done.length+us.length≤N→I done s→∃ys s',nZ G js sg eO ge us (ev s)=.ok (ys,ev s')∧ys.length=us.length∧I (done++ys) s'
 | [],done,s,_,h=>⟨[],s,rfl,rfl,by rw[Zb];exact h⟩
 |u::us,done,s,hl,h=>by
  rw[YN] at hl
  obtain⟨ρi,y,ρi',s',e1,e2,e3,h'⟩:=step done u s (by lia) h
  obtain⟨ys,FD,e4,e5,h''⟩:=pT ev N I step us (done++[y]) s' (by rw[Yu,Z0];lia) h'
  refine⟨y::ys,FD,?_,by rw[YN,YN,e5],by rw[YW] at h'';exact h''⟩
  rw[Lr,e1,xZ,Ei,xZ,if_pos rfl,e2,xZ,e3,e4,xZ]
theorem cN {s:Ev→SR}(I:Nat→Ev→Prop)(step:∀(i:Nat) (u:U) (ρ:Ev),us[i]? = some u→I i ρ→∃ρ1 ρ2,sg u ρ=.ok ρ1∧(s ρ1=.nx ρ2∨s ρ1=.ct ρ2)∧I (i+1) ρ2)(h:I 0 ρ) :
  ∃ρ',eM sg s us ρ=.nx ρ'∧I us.length ρ':=by
 have gen:∀(n i:Nat) (ρ:Ev),i+n=us.length→I i ρ→∃ρ',eM sg s (us.drop i) ρ=.nx ρ'∧I us.length ρ':=by
  intro n
  induction n with
  |zero =>
   intro i ρ hi h
   have:i=us.length:=by lia
   subst this
   rw[aby]
   exact⟨ρ,rfl,h⟩
  |succ n ih =>
   intro i ρ hi h
   have xc:i<us.length:=by lia
   obtain⟨ρ1,ρ2,e1,e2,h2⟩:=step i us[i] ρ (Ys xc) h
   obtain⟨ρ',e3,h3⟩:=ih (i+1) ρ2 (by lia) h2
   refine⟨ρ',?_,h3⟩
   rw[aac xc,pR,e1,vP]
   rcases e2 with e2|e2<;>(rw[e2];exact e3)
 have:=gen us.length 0 ρ (by lia) h
 rwa [acR] at this
theorem zT {f:U→R (Option U)}{g:U→U}:∀{us:List U},(∀u∈us,f u=.ok (some (g u)))→xn f us=.ok (us.map g)
 | [],_=>rfl
 |u::us,h=>by
  unfold xn
  rw[h u YO,xZ,zT fun w hw=>h w (YS _ hw)]
  rfl
noncomputable def aX (n:Nat):List Int:=(ZA n).map fun i=>(i:Nat)
theorem ic (n:Nat):aF 0 n=(aX n).map .int:=by
 unfold aF aX
 rw[Zc]
 exact Zv fun i _=>by show U.int (0+(i:Int))=.int _;rw[Int.zero_add]
theorem eS (n:Nat):(aX n).length=n:=by unfold aX;rw[Yp,Z2]
theorem yf {x:Int}:x∈aX n↔0≤x∧x<n:=by
 unfold aX
 rw[Y9]
 constructor
 ·rintro⟨i,h,rfl⟩
  have:=adQ.mp h
  lia
 ·intro h
  exact⟨x.toNat,adQ.mpr (by lia),by lia⟩
theorem yg (us:List U)(c:U→Bool):Dg [.lst (us.map fun u=>.bl (c u))]=.ok (.bl (us.all c)):=by
 have e:us.map (fun u=>U.bl (c u))=(us.map c).map .bl:=by rw[Zc];rfl
 unfold Dg
 dsimp only
 rw[e,Bm]
 dsimp only
 rw[List.all_map]
 rfl
end L2
namespace L2
theorem m8 {ρ:Ev}:gO "bool" (.non) ρ=.ok (.bl false,ρ):=(if_neg (show ¬("NoneType"="script") by decide)).trans (congrArg (fun z=>R.ok (U.bl z,ρ)) (show d9 "NoneType" "bool"=false by decide))
theorem pU {ρ:Ev}:gO "int" (.non) ρ=.ok (.bl false,ρ):=(if_neg (show ¬("NoneType"="script") by decide)).trans (congrArg (fun z=>R.ok (U.bl z,ρ)) (show d9 "NoneType" "int"=false by decide))
theorem pV {ρ:Ev}:gO "str" (.non) ρ=.ok (.bl false,ρ):=(if_neg (show ¬("NoneType"="script") by decide)).trans (congrArg (fun z=>R.ok (U.bl z,ρ)) (show d9 "NoneType" "str"=false by decide))
theorem m9 {ρ:Ev}:gO "list" (.non) ρ=.ok (.bl false,ρ):=(if_neg (show ¬("NoneType"="script") by decide)).trans (congrArg (fun z=>R.ok (U.bl z,ρ)) (show d9 "NoneType" "list"=false by decide))
theorem lr {ρ:Ev}:gO "tuple" (.non) ρ=.ok (.bl false,ρ):=(if_neg (show ¬("NoneType"="script") by decide)).trans (congrArg (fun z=>R.ok (U.bl z,ρ)) (show d9 "NoneType" "tuple"=false by decide))
theorem m_ {ρ:Ev}:gO "dict" (.non) ρ=.ok (.bl false,ρ):=(if_neg (show ¬("NoneType"="script") by decide)).trans (congrArg (fun z=>R.ok (U.bl z,ρ)) (show d9 "NoneType" "dict"=false by decide))
theorem pW {b:Bool}{ρ:Ev}:gO "bool" (.bl b) ρ=.ok (.bl true,ρ):=(if_neg (show ¬("bool"="script") by decide)).trans (congrArg (fun z=>R.ok (U.bl z,ρ)) (show d9 "bool" "bool"=true by decide))
theorem se {b:Bool}{ρ:Ev}:gO "int" (.bl b) ρ=.ok (.bl true,ρ):=(if_neg (show ¬("bool"="script") by decide)).trans (congrArg (fun z=>R.ok (U.bl z,ρ)) (show d9 "bool" "int"=true by decide))
theorem sf {b:Bool}{ρ:Ev}:gO "str" (.bl b) ρ=.ok (.bl false,ρ):=(if_neg (show ¬("bool"="script") by decide)).trans (congrArg (fun z=>R.ok (U.bl z,ρ)) (show d9 "bool" "str"=false by decide))
theorem pX {b:Bool}{ρ:Ev}:gO "list" (.bl b) ρ=.ok (.bl false,ρ):=(if_neg (show ¬("bool"="script") by decide)).trans (congrArg (fun z=>R.ok (U.bl z,ρ)) (show d9 "bool" "list"=false by decide))
theorem ng {b:Bool}{ρ:Ev}:gO "tuple" (.bl b) ρ=.ok (.bl false,ρ):=(if_neg (show ¬("bool"="script") by decide)).trans (congrArg (fun z=>R.ok (U.bl z,ρ)) (show d9 "bool" "tuple"=false by decide))
theorem pY {b:Bool}{ρ:Ev}:gO "dict" (.bl b) ρ=.ok (.bl false,ρ):=(if_neg (show ¬("bool"="script") by decide)).trans (congrArg (fun z=>R.ok (U.bl z,ρ)) (show d9 "bool" "dict"=false by decide))
theorem nh {i:Int}{ρ:Ev}:gO "bool" (.int i) ρ=.ok (.bl false,ρ):=(if_neg (show ¬("int"="script") by decide)).trans (congrArg (fun z=>R.ok (U.bl z,ρ)) (show d9 "int" "bool"=false by decide))
theorem pZ {i:Int}{ρ:Ev}:gO "int" (.int i) ρ=.ok (.bl true,ρ):=(if_neg (show ¬("int"="script") by decide)).trans (congrArg (fun z=>R.ok (U.bl z,ρ)) (show d9 "int" "int"=true by decide))
theorem p0 {i:Int}{ρ:Ev}:gO "str" (.int i) ρ=.ok (.bl false,ρ):=(if_neg (show ¬("int"="script") by decide)).trans (congrArg (fun z=>R.ok (U.bl z,ρ)) (show d9 "int" "str"=false by decide))
theorem ni {i:Int}{ρ:Ev}:gO "list" (.int i) ρ=.ok (.bl false,ρ):=(if_neg (show ¬("int"="script") by decide)).trans (congrArg (fun z=>R.ok (U.bl z,ρ)) (show d9 "int" "list"=false by decide))
theorem lu {i:Int}{ρ:Ev}:gO "tuple" (.int i) ρ=.ok (.bl false,ρ):=(if_neg (show ¬("int"="script") by decide)).trans (congrArg (fun z=>R.ok (U.bl z,ρ)) (show d9 "int" "tuple"=false by decide))
theorem nj {i:Int}{ρ:Ev}:gO "dict" (.int i) ρ=.ok (.bl false,ρ):=(if_neg (show ¬("int"="script") by decide)).trans (congrArg (fun z=>R.ok (U.bl z,ρ)) (show d9 "int" "dict"=false by decide))
theorem nk {x:Str}{ρ:Ev}:gO "bool" (.str x) ρ=.ok (.bl false,ρ):=(if_neg (show ¬("str"="script") by decide)).trans (congrArg (fun z=>R.ok (U.bl z,ρ)) (show d9 "str" "bool"=false by decide))
theorem p8 {x:Str}{ρ:Ev}:gO "int" (.str x) ρ=.ok (.bl false,ρ):=(if_neg (show ¬("str"="script") by decide)).trans (congrArg (fun z=>R.ok (U.bl z,ρ)) (show d9 "str" "int"=false by decide))
theorem p9 {x:Str}{ρ:Ev}:gO "str" (.str x) ρ=.ok (.bl true,ρ):=(if_neg (show ¬("str"="script") by decide)).trans (congrArg (fun z=>R.ok (U.bl z,ρ)) (show d9 "str" "str"=true by decide))
theorem nq {x:Str}{ρ:Ev}:gO "list" (.str x) ρ=.ok (.bl false,ρ):=(if_neg (show ¬("str"="script") by decide)).trans (congrArg (fun z=>R.ok (U.bl z,ρ)) (show d9 "str" "list"=false by decide))
theorem lx {x:Str}{ρ:Ev}:gO "tuple" (.str x) ρ=.ok (.bl false,ρ):=(if_neg (show ¬("str"="script") by decide)).trans (congrArg (fun z=>R.ok (U.bl z,ρ)) (show d9 "str" "tuple"=false by decide))
theorem nu {x:Str}{ρ:Ev}:gO "dict" (.str x) ρ=.ok (.bl false,ρ):=(if_neg (show ¬("str"="script") by decide)).trans (congrArg (fun z=>R.ok (U.bl z,ρ)) (show d9 "str" "dict"=false by decide))
theorem nv {us:List U}{ρ:Ev}:gO "bool" (.tup us) ρ=.ok (.bl false,ρ):=(if_neg (show ¬("tuple"="script") by decide)).trans (congrArg (fun z=>R.ok (U.bl z,ρ)) (show d9 "tuple" "bool"=false by decide))
theorem p_ {us:List U}{ρ:Ev}:gO "int" (.tup us) ρ=.ok (.bl false,ρ):=(if_neg (show ¬("tuple"="script") by decide)).trans (congrArg (fun z=>R.ok (U.bl z,ρ)) (show d9 "tuple" "int"=false by decide))
theorem qb {us:List U}{ρ:Ev}:gO "str" (.tup us) ρ=.ok (.bl false,ρ):=(if_neg (show ¬("tuple"="script") by decide)).trans (congrArg (fun z=>R.ok (U.bl z,ρ)) (show d9 "tuple" "str"=false by decide))
theorem nA {us:List U}{ρ:Ev}:gO "list" (.tup us) ρ=.ok (.bl false,ρ):=(if_neg (show ¬("tuple"="script") by decide)).trans (congrArg (fun z=>R.ok (U.bl z,ρ)) (show d9 "tuple" "list"=false by decide))
theorem lE {us:List U}{ρ:Ev}:gO "tuple" (.tup us) ρ=.ok (.bl true,ρ):=(if_neg (show ¬("tuple"="script") by decide)).trans (congrArg (fun z=>R.ok (U.bl z,ρ)) (show d9 "tuple" "tuple"=true by decide))
theorem nB {us:List U}{ρ:Ev}:gO "dict" (.tup us) ρ=.ok (.bl false,ρ):=(if_neg (show ¬("tuple"="script") by decide)).trans (congrArg (fun z=>R.ok (U.bl z,ρ)) (show d9 "tuple" "dict"=false by decide))
theorem nC {us:List U}{ρ:Ev}:gO "bool" (.lst us) ρ=.ok (.bl false,ρ):=(if_neg (show ¬("list"="script") by decide)).trans (congrArg (fun z=>R.ok (U.bl z,ρ)) (show d9 "list" "bool"=false by decide))
theorem qc {us:List U}{ρ:Ev}:gO "int" (.lst us) ρ=.ok (.bl false,ρ):=(if_neg (show ¬("list"="script") by decide)).trans (congrArg (fun z=>R.ok (U.bl z,ρ)) (show d9 "list" "int"=false by decide))
theorem qd {us:List U}{ρ:Ev}:gO "str" (.lst us) ρ=.ok (.bl false,ρ):=(if_neg (show ¬("list"="script") by decide)).trans (congrArg (fun z=>R.ok (U.bl z,ρ)) (show d9 "list" "str"=false by decide))
theorem nD {us:List U}{ρ:Ev}:gO "list" (.lst us) ρ=.ok (.bl true,ρ):=(if_neg (show ¬("list"="script") by decide)).trans (congrArg (fun z=>R.ok (U.bl z,ρ)) (show d9 "list" "list"=true by decide))
theorem lF {us:List U}{ρ:Ev}:gO "tuple" (.lst us) ρ=.ok (.bl false,ρ):=(if_neg (show ¬("list"="script") by decide)).trans (congrArg (fun z=>R.ok (U.bl z,ρ)) (show d9 "list" "tuple"=false by decide))
theorem nE {us:List U}{ρ:Ev}:gO "dict" (.lst us) ρ=.ok (.bl false,ρ):=(if_neg (show ¬("list"="script") by decide)).trans (congrArg (fun z=>R.ok (U.bl z,ρ)) (show d9 "list" "dict"=false by decide))
theorem nF {ρ:Ev}:gO "bool" (.dct [] []) ρ=.ok (.bl false,ρ):=(if_neg (show ¬("dict"="script") by decide)).trans (congrArg (fun z=>R.ok (U.bl z,ρ)) (show d9 "dict" "bool"=false by decide))
theorem qe {ρ:Ev}:gO "int" (.dct [] []) ρ=.ok (.bl false,ρ):=(if_neg (show ¬("dict"="script") by decide)).trans (congrArg (fun z=>R.ok (U.bl z,ρ)) (show d9 "dict" "int"=false by decide))
theorem qf {ρ:Ev}:gO "str" (.dct [] []) ρ=.ok (.bl false,ρ):=(if_neg (show ¬("dict"="script") by decide)).trans (congrArg (fun z=>R.ok (U.bl z,ρ)) (show d9 "dict" "str"=false by decide))
theorem nG {ρ:Ev}:gO "list" (.dct [] []) ρ=.ok (.bl false,ρ):=(if_neg (show ¬("dict"="script") by decide)).trans (congrArg (fun z=>R.ok (U.bl z,ρ)) (show d9 "dict" "list"=false by decide))
theorem lG {ρ:Ev}:gO "tuple" (.dct [] []) ρ=.ok (.bl false,ρ):=(if_neg (show ¬("dict"="script") by decide)).trans (congrArg (fun z=>R.ok (U.bl z,ρ)) (show d9 "dict" "tuple"=false by decide))
theorem nH {ρ:Ev}:gO "dict" (.dct [] []) ρ=.ok (.bl true,ρ):=(if_neg (show ¬("dict"="script") by decide)).trans (congrArg (fun z=>R.ok (U.bl z,ρ)) (show d9 "dict" "dict"=true by decide))
theorem aB:type_of% @IB∧type_of% @DK∧type_of% @UP∧type_of% @xZ∧type_of% @IC∧type_of% @vP∧type_of% @N6∧type_of% @UQ∧type_of% @ID∧type_of% @DL∧type_of% @IE∧type_of% @DM∧type_of% @IF∧type_of% @N7∧type_of% @IG∧type_of% @N8∧type_of% @zF∧type_of% @N9∧type_of% @DP∧type_of% @zG∧type_of% @DQ∧type_of% @DR∧type_of% @N_∧type_of% @Oa∧type_of% @IJ∧type_of% @zI∧type_of% @Ob∧type_of% @IK∧type_of% @IL∧type_of% @UU∧type_of% @DV∧type_of% @zJ∧type_of% @IM∧type_of% @zK∧type_of% @Oc∧type_of% @DX∧type_of% @DY∧type_of% @zL∧type_of% @DZ∧type_of% @IP∧type_of% @D0∧type_of% @D1∧type_of% @D2∧type_of% @D3∧type_of% @D4∧type_of% @IQ∧type_of% @IS∧type_of% @IT∧type_of% @IU∧type_of% @D5∧type_of% @IV∧type_of% @IW∧type_of% @D6∧type_of% @D7∧type_of% @IX∧type_of% @D8∧type_of% @D9∧type_of% @oJ∧type_of% @oK∧type_of% @zM∧type_of% @zN∧type_of% @zO∧type_of% @D_∧type_of% @ya∧type_of% @yb∧type_of% @Ea∧type_of% @Eb∧type_of% @Ee∧type_of% @Ef∧type_of% @IZ∧type_of% @I_∧type_of% @Eg∧type_of% @Eh∧type_of% @Ei∧type_of% @Ja∧type_of% @Og∧type_of% @yc∧type_of% @zP∧type_of% @Ej∧type_of% @zQ∧type_of% @Jb∧type_of% @vQ∧type_of% @r9∧type_of% @r_∧type_of% @Ek∧type_of% @El∧type_of% @Em∧type_of% @Jc∧type_of% @En∧type_of% @yd∧type_of% @Jd∧type_of% @Je∧type_of% @Jf∧type_of% @Oh∧type_of% @Oi∧type_of% @Oj∧type_of% @Ol∧type_of% @Jg∧type_of% @Jh∧type_of% @Ji∧type_of% @Jj∧type_of% @Jk∧type_of% @Jl∧type_of% @Jm∧type_of% @Eo∧type_of% @ye∧type_of% @Ep∧type_of% @Er∧type_of% @Es∧type_of% @Et∧type_of% @Eu∧type_of% @Jn∧type_of% @Jo∧type_of% @Ew∧type_of% @Ex∧type_of% @Om∧type_of% @Jp∧type_of% @Jq∧type_of% @Jr∧type_of% @IH∧type_of% @m8∧type_of% @pU∧type_of% @pV∧type_of% @m9∧type_of% @lr∧type_of% @m_∧type_of% @pW∧type_of% @se∧type_of% @sf∧type_of% @pX∧type_of% @ng∧type_of% @pY∧type_of% @nh∧type_of% @pZ∧type_of% @p0∧type_of% @ni∧type_of% @lu∧type_of% @nj∧type_of% @nk∧type_of% @p8∧type_of% @p9∧type_of% @nq∧type_of% @lx∧type_of% @nu∧type_of% @nv∧type_of% @p_∧type_of% @qb∧type_of% @nA∧type_of% @lE∧type_of% @nB∧type_of% @nC∧type_of% @qc∧type_of% @qd∧type_of% @nD∧type_of% @lF∧type_of% @nE∧type_of% @nF∧type_of% @qe∧type_of% @qf∧type_of% @nG∧type_of% @lG∧type_of% @nH∧type_of% @zR∧type_of% @zS :=
 ⟨@IB,@DK,@UP,@xZ,@IC,@vP,@N6,@UQ,@ID,@DL,@IE,@DM,@IF,@N7,@IG,@N8,@zF,@N9,@DP,@zG,@DQ,@DR,@N_,@Oa,@IJ,@zI,@Ob,@IK,@IL,@UU,@DV,@zJ,@IM,@zK,@Oc,@DX,@DY,@zL,@DZ,@IP,@D0,@D1,@D2,@D3,@D4,@IQ,@IS,@IT,@IU,@D5,@IV,@IW,@D6,@D7,@IX,@D8,@D9,@oJ,@oK,@zM,@zN,@zO,@D_,@ya,@yb,@Ea,@Eb,@Ee,@Ef,@IZ,@I_,@Eg,@Eh,@Ei,@Ja,@Og,@yc,@zP,@Ej,@zQ,@Jb,@vQ,@r9,@r_,@Ek,@El,@Em,@Jc,@En,@yd,@Jd,@Je,@Jf,@Oh,@Oi,@Oj,@Ol,@Jg,@Jh,@Ji,@Jj,@Jk,@Jl,@Jm,@Eo,@ye,@Ep,@Er,@Es,@Et,@Eu,@Jn,@Jo,@Ew,@Ex,@Om,@Jp,@Jq,@Jr,@IH,@m8,@pU,@pV,@m9,@lr,@m_,@pW,@se,@sf,@pX,@ng,@pY,@nh,@pZ,@p0,@ni,@lu,@nj,@nk,@p8,@p9,@nq,@lx,@nu,@nv,@p_,@qb,@nA,@lE,@nB,@nC,@qc,@qd,@nD,@lF,@nE,@nF,@qe,@qf,@nG,@lG,@nH,@zR,@zS⟩
end L2
namespace Hc.Ts
noncomputable def eX:Bool→YY→Array YY→Nat→Nat→Nat→StateT YZ Sem (Option Nat):=sortPriv% PySem.Builtin.gallop
noncomputable def fI (left:Bool)(key:YY)(arr:Array YY)(base i:Nat):StateT YZ Sem (Option Bool):=do
 let x ←adZ arr (base+i)
 if left then lt' x key else return (←lt' key x).map (!·)
theorem yi (left:Bool)(key:YY)(arr:Array YY)(base n hint:Nat):eX left key arr base n hint=(do
 let mut lastofs:=0
 let mut ofs:=1
 let mut lo:=0
 let mut hi:=0
 let some right ←fI left key arr base hint|return none
 if right then
  let maxofs:=n - hint
  for _ in [0:n] do
   if ofs≥maxofs then break
   let some more ←fI left key arr base (hint+ofs)|return none
   if !more then break
   lastofs:=ofs
   ofs:=2*ofs+1
  lo:=hint+lastofs+1
  hi:=hint+min ofs maxofs
 else
  let maxofs:=hint+1
  for _ in [0:n] do
   if ofs≥maxofs then break
   let some found ←fI left key arr base (hint - ofs)|return none
   if found then break
   lastofs:=ofs
   ofs:=2*ofs+1
  lo:=hint+1 - min ofs maxofs
  hi:=hint - lastofs
 for _ in [0:n] do
  if lo≥hi then break
  let m:=lo+(hi - lo) / 2
  let some more ←fI left key arr base m|return none
  if more then lo:=m+1 else hi:=m
 return some hi):=rfl
section
variable {A:Zw}
noncomputable def G4 (left:Bool)(key:YY)(arr:Array YY)(base n Wz RP:Nat):StateT YZ Sem (Option Nat):=do
 let mut lo:=Wz
 let mut hi:=RP
 for _ in [0:n] do
  if lo≥hi then break
  let m:=lo+(hi - lo) / 2
  let some more ←fI left key arr base m|return none
  if more then lo:=m+1 else hi:=m
 return some hi
theorem zU {left:Bool}{key:YY}{base lo hi:Nat}{st:YZ}{Q:Option Nat→YZ→Prop}(b:Nat→Bool)(hb:∀i,i<n→∀Q:Option Bool→YZ→Prop,Q (some (b i)) st→wpS M A E s (fI left key arr base i) Q st)(mono:∀i j,i≤j→j<n→b j=true→b i=true)(h1:lo≤hi)(h2:hi≤n)(hl:∀i,i<lo→b i=true)(hr:∀i,hi≤i→i<n→b i=false)(h:∀k,k≤n→(∀i,i<k→b i=true)→(∀i,k≤i→i<n→b i=false)→Q (some k) st):wpS M A E s (G4 left key arr base n lo hi) Q st:=by
 unfold G4
 refine YL (aa5 (Z1 (I:=fun x c aE=>aE=st∧∃l r,c=(none,l,r)∧l≤r∧r≤n∧r - l≤n - x∧(∀i,i<l→b i=true)∧∀i,r≤i→i<n→b i=false)
  (Q:=fun c aE=>aE=st∧∃k,c=(none,k,k)∧k≤n∧(∀i,i<k→b i=true)∧∀i,k≤i→i<n→b i=false) ?step ?fin ⟨rfl,lo,hi,rfl,h1,h2,by lia,hl,hr⟩) ?post)
 case fin =>
  rintro c aE ⟨rfl,l,r,rfl,a1,a2,a3,a4,a5⟩
  have:l=r:=by lia
  subst this
  exact⟨rfl,l,rfl,a2,a4,a5⟩
 case step =>
  rintro x c aE _ hx ⟨rfl,l,r,rfl,a1,a2,a3,a4,a5⟩
  dsimp only
  by_cases c:l≥r
  ·rw[if_pos c]
   have:l=r:=by lia
   subst this
   exact YV ⟨rfl,l,rfl,a2,a4,a5⟩
  ·rw[if_neg c]
   refine YL (hb _ (by lia) _ ?_)
   dsimp only
   cases e:b (l+(r - l) / 2) with
   |true =>
    rw[if_pos rfl]
    exact YV ⟨rfl,_,r,rfl,by lia,a2,by lia,fun i hi=>mono i _ (by lia) (by lia) e,a5⟩
   |false =>
    rw[if_neg Yq]
    refine YV ⟨rfl,l,_,rfl,by lia,by lia,by lia,a4,fun i h1 h2 => ?_⟩
    cases e2:b i with
    |false=>rfl
    |true=>rw[mono _ i h1 h2 e2] at e;cases e
 case post =>
  rintro c aE ⟨rfl,k,rfl,a1,a2,a3⟩
  exact YV (h k a1 a2 a3)
theorem sh {left:Bool}{key:YY}{base hint:Nat}{st:YZ}{Q:Option Nat→YZ→Prop}(b:Nat→Bool)(hb:∀i,i<n→∀Q:Option Bool→YZ→Prop,Q (some (b i)) st→wpS M A E s (fI left key arr base i) Q st)(mono:∀i j,i≤j→j<n→b j=true→b i=true)(hh:hint<n)(h:∀k,k≤n→(∀i,i<k→b i=true)→(∀i,k≤i→i<n→b i=false)→Q (some k) st):wpS M A E s (eX left key arr base n hint) Q st:=by
 have Vm:∀i j,i≤j→j<n→b i=false→b j=false:=fun i j h1 h2 e=>by
  cases e2:b j with
  |false=>rfl
  |true=>rw[mono i j h1 h2 e2] at e;cases e
 rw[yi]
 refine YL (hb hint hh _ ?_)
 dsimp only
 cases e0:b hint with
 |true =>
  rw[if_pos rfl]
  refine YL (aa5 (Z1 (I:=fun x c aE=>aE=st∧∃l o,c=(none,l,o)∧l<o∧x+1≤o∧hint+l<n∧b (hint+l)=true)
   (Q:=fun c aE=>aE=st∧∃l o,c=(none,l,o)∧l<o∧hint+l<n∧b (hint+l)=true∧(o≥n - hint∨b (hint+o)=false)) ?step ?fin ⟨rfl,0,1,rfl,by lia,by lia,hh,e0⟩) ?post)
  case fin =>
   rintro c aE ⟨rfl,l,o,rfl,a1,a2,a3,a4⟩
   exact⟨rfl,l,o,rfl,a1,a3,a4,.inl (by lia)⟩
  case step =>
   rintro x c aE _ hx ⟨rfl,l,o,rfl,a1,a2,a3,a4⟩
   dsimp only
   by_cases c:o≥n - hint
   ·rw[if_pos c]
    exact YV ⟨rfl,l,o,rfl,a1,a3,a4,.inl c⟩
   ·rw[if_neg c]
    refine YL (hb _ (by lia) _ ?_)
    dsimp only
    cases e:b (hint+o) with
    |true =>
     rw[if_neg (by decide)]
     exact YV ⟨rfl,o,_,rfl,by lia,by lia,by lia,e⟩
    |false =>
     rw[if_pos (by decide)]
     exact YV ⟨rfl,l,o,rfl,a1,a3,a4,.inr e⟩
  case post =>
   rintro c aE ⟨rfl,l,o,rfl,a1,a3,a4,a5⟩
   show wpS _ _ _ _ (G4 left key arr base n (hint+l+1) (hint+min o (n - hint))) _ _
   refine zU b hb mono (by lia) (by lia) (fun i hi=>mono i _ (by lia) a3 a4) (fun i h1 h2 => ?_) h
   rcases a5 with a5|a5
   ·lia
   ·by_cases c:o≤n - hint
    ·rw[aad c] at h1
     exact Vm _ i h1 h2 a5
    ·lia
 |false =>
  rw[if_neg Yq]
  refine YL (aa5 (Z1 (I:=fun x c aE=>aE=st∧∃l o,c=(none,l,o)∧l<o∧x+1≤o∧l≤hint∧b (hint - l)=false)
   (Q:=fun c aE=>aE=st∧∃l o,c=(none,l,o)∧l<o∧l≤hint∧b (hint - l)=false∧(o≥hint+1∨b (hint - o)=true)) ?step ?fin ⟨rfl,0,1,rfl,by lia,by lia,by lia,e0⟩) ?post)
  case fin =>
   rintro c aE ⟨rfl,l,o,rfl,a1,a2,a3,a4⟩
   exact⟨rfl,l,o,rfl,a1,a3,a4,.inl (by lia)⟩
  case step =>
   rintro x c aE _ hx ⟨rfl,l,o,rfl,a1,a2,a3,a4⟩
   dsimp only
   by_cases c:o≥hint+1
   ·rw[if_pos c]
    exact YV ⟨rfl,l,o,rfl,a1,a3,a4,.inl c⟩
   ·rw[if_neg c]
    refine YL (hb _ (by lia) _ ?_)
    dsimp only
    cases e:b (hint - o) with
    |true =>
     rw[if_pos rfl]
     exact YV ⟨rfl,l,o,rfl,a1,a3,a4,.inr e⟩
    |false =>
     rw[if_neg Yq]
     exact YV ⟨rfl,o,_,rfl,by lia,by lia,by lia,e⟩
  case post =>
   rintro c aE ⟨rfl,l,o,rfl,a1,a3,a4,a5⟩
   show wpS _ _ _ _ (G4 left key arr base n (hint+1 - min o (hint+1)) (hint - l)) _ _
   refine zU b hb mono (by lia) (by lia) (fun i hi => ?_) (fun i h1 h2=>Vm _ i h1 h2 a4) h
   rcases a5 with a5|a5
   ·lia
   ·by_cases c:o≤hint+1
    ·rw[aad c] at hi
     exact mono i _ (by lia) (by lia) a5
    ·lia
end
end Hc.Ts
namespace Hc.Ts
section
variable {O:aei}(key:YY→O.α)
noncomputable def gr (l:List YY):Prop:=l.Pairwise fun x y=>O.kle (key x) (key y)
structure MI (T o ra rb:List YY):Prop where
 perm:(o++(ra++rb)).Perm T
 so:gr key o
 sa:gr key ra
 sb:gr key rb
 oa:∀x∈o,∀y∈ra,O.kle (key x) (key y)
 ob:∀x∈o,∀y∈rb,O.kle (key x) (key y)
structure MH (T ra rb o:List YY):Prop where
 perm:((ra++rb)++o).Perm T
 so:gr key o
 sa:gr key ra
 sb:gr key rb
 oa:∀x∈ra,∀y∈o,O.kle (key x) (key y)
 ob:∀x∈rb,∀y∈o,O.kle (key x) (key y)
variable {key}
theorem bw {l r:List YY}:gr key (l++r)↔gr key l∧gr key r∧∀x∈l,∀y∈r,O.kle (key x) (key y):=List.pairwise_append
theorem MI.stepA {x:List YY}(h:MI key T o (x++ra) rb)(hx:∀a∈x,∀b∈rb,O.kle (key a) (key b)):MI key T (o++x) ra rb:=by
 obtain⟨s1,s2,s3⟩:=bw.mp h.sa
 refine⟨?_,bw.mpr ⟨h.so,s1,fun a ha b hb=>h.oa a ha b (aat _ hb)⟩,s2,h.sb,fun a ha b hb => ?_,fun a ha b hb => ?_⟩
 ·have e:o++x++(ra++rb)=o++(x++ra++rb):=by simp[YW]
  rw[e];exact h.perm
 ·rcases Y4.mp ha with ha|ha
  ·exact h.oa a ha b (Za _ hb)
  ·exact s3 a ha b hb
 ·rcases Y4.mp ha with ha|ha
  ·exact h.ob a ha b hb
  ·exact hx a ha b hb
theorem MI.stepB {y:List YY}(h:MI key T o ra (y++rb))(hy:∀b∈y,∀a∈ra,O.kle (key b) (key a)):MI key T (o++y) ra rb:=by
 obtain⟨s1,s2,s3⟩:=bw.mp h.sb
 refine⟨?_,bw.mpr ⟨h.so,s1,fun a ha b hb=>h.ob a ha b (aat _ hb)⟩,h.sa,s2,fun a ha b hb => ?_,fun a ha b hb => ?_⟩
 ·refine List.Perm.trans ?_ h.perm
  have e:o++y++(ra++rb)=o++((y++ra)++rb):=by simp[YW]
  have e2:o++(ra++(y++rb))=o++((ra++y)++rb):=by simp[YW]
  rw[e,e2]
  exact aal o (Z6 rb ZP)
 ·rcases Y4.mp ha with ha|ha
  ·exact h.oa a ha b hb
  ·exact hy a ha b hb
 ·rcases Y4.mp ha with ha|ha
  ·exact h.ob a ha b (Za _ hb)
  ·exact s3 a ha b hb
theorem MI.endA (h:MI key T o ra []):(o++ra).Perm T∧gr key (o++ra):=by
 refine⟨?_,bw.mpr ⟨h.so,h.sa,h.oa⟩⟩
 have:=h.perm
 rw[Zb] at this;exact this
theorem MI.endB (h:MI key T o [] rb):(o++rb).Perm T∧gr key (o++rb):=⟨h.perm,bw.mpr ⟨h.so,h.sb,h.ob⟩⟩
theorem MI.last (h:MI key T o ra rb)(hl:∀b∈rb,∀a∈ra,O.kle (key b) (key a)):(o++(rb++ra)).Perm T∧gr key (o++(rb++ra)) :=
 ⟨(aal o ZP).trans h.perm,bw.mpr ⟨h.so,bw.mpr ⟨h.sb,h.sa,hl⟩,fun a ha b hb=>by
  rcases Y4.mp hb with hb|hb
  ·exact h.ob a ha b hb
  ·exact h.oa a ha b hb⟩⟩
theorem MH.stepA {x:List YY}(h:MH key T (ra++x) rb o)(hx:∀b∈rb,∀a∈x,O.kle (key b) (key a)):MH key T ra rb (x++o):=by
 obtain⟨s1,s2,s3⟩:=bw.mp h.sa
 refine⟨?_,bw.mpr ⟨s2,h.so,fun a ha b hb=>h.oa a (Za _ ha) b hb⟩,s1,h.sb,fun a ha b hb => ?_,fun a ha b hb => ?_⟩
 ·refine List.Perm.trans ?_ h.perm
  have e:ra++rb++(x++o)=(ra++(rb++x))++o:=by simp[YW]
  have e2:ra++x++rb++o=(ra++(x++rb))++o:=by simp[YW]
  rw[e,e2]
  exact Z6 o (aal ra ZP)
 ·rcases Y4.mp hb with hb|hb
  ·exact s3 a ha b hb
  ·exact h.oa a (aat _ ha) b hb
 ·rcases Y4.mp hb with hb|hb
  ·exact hx a ha b hb
  ·exact h.ob a ha b hb
theorem MH.stepB {y:List YY}(h:MH key T ra (rb++y) o)(hy:∀a∈ra,∀b∈y,O.kle (key a) (key b)):MH key T ra rb (y++o):=by
 obtain⟨s1,s2,s3⟩:=bw.mp h.sb
 refine⟨?_,bw.mpr ⟨s2,h.so,fun a ha b hb=>h.ob a (Za _ ha) b hb⟩,h.sa,s1,fun a ha b hb => ?_,fun a ha b hb => ?_⟩
 ·have e:ra++rb++(y++o)=ra++(rb++y)++o:=by simp[YW]
  rw[e];exact h.perm
 ·rcases Y4.mp hb with hb|hb
  ·exact hy a ha b hb
  ·exact h.oa a ha b hb
 ·rcases Y4.mp hb with hb|hb
  ·exact s3 a ha b hb
  ·exact h.ob a (aat _ ha) b hb
theorem MH.endB (h:MH key T [] rb o):(rb++o).Perm T∧gr key (rb++o):=⟨h.perm,bw.mpr ⟨h.sb,h.so,h.ob⟩⟩
theorem MH.endA (h:MH key T ra [] o):(ra++o).Perm T∧gr key (ra++o):=by
 refine⟨?_,bw.mpr ⟨h.sa,h.so,h.oa⟩⟩
 have:=h.perm
 rw[Zb] at this;exact this
theorem MH.first (h:MH key T ra rb o)(hl:∀b∈rb,∀a∈ra,O.kle (key b) (key a)):((rb++ra)++o).Perm T∧gr key ((rb++ra)++o) :=
 ⟨(Z6 o ZP).trans h.perm,bw.mpr ⟨bw.mpr ⟨h.sb,h.sa,hl⟩,h.so,fun a ha b hb=>by
  rcases Y4.mp ha with ha|ha
  ·exact h.ob a ha b hb
  ·exact h.oa a ha b hb⟩⟩
end
structure j8 (M:Model)(A:Zw)(E:Yv→YK→Prop)(s:YK)(O:aei)(key:YY→O.α)(knd:acs)(D:YY→Prop):Prop where
 lt:∀(x y:YY) (st:YZ) (Q:Option Bool→YZ→Prop),D x→D y→ZY st=knd→Q (some (O.blt (key x) (key y))) st→wpS M A E s (lt' x y) Q st
section
variable {A:Zw}{O:aei}{key:YY→O.α}{knd:acs}{D:YY→Prop}
theorem bF {x:YY}{st:YZ}{Q:YY→YZ→Prop}(h:arr.toList[i]? = some x)(q:Q x st):wpS M A E s (adZ arr i) Q st:=by
 have h:arr[i]? = some x:=by rw[←Zj];exact h
 rw[elem'_eq,h]
 exact YV q
theorem j9 (C:j8 M A E s O key knd D){kx:YY}{base hint:Nat}{seg:List YY}{st:YZ}{Q:Option Nat→YZ→Prop}(MA:∀i x,seg[i]? = some x→arr.toList[base+i]? = some x)(hs:gr key seg)(hD:∀x∈seg,D x)(hk:D kx)(kd:ZY st=knd)(hh:hint<seg.length)(h:∀k,k≤seg.length→(∀x∈seg.take k,O.kle (key x) (key kx))→(∀x∈seg.drop k,O.klt (key kx) (key x))→Q (some k) st):wpS M A E s (eX false kx arr base seg.length hint) Q st:=by
 have at_:∀i,(hi:i<seg.length)→seg[i]? = some seg[i]:=fun i hi=>Ys hi
 refine sh (fun i => !(match seg[i]? with|some x=>O.blt (key kx) (key x)|none=>false)) (fun i hi Q q => ?_) (fun i j rE hj e => ?_) hh fun k JX h1 h2=>h k JX (fun x hx => ?_) fun x hx => ?_
 ·rw[at_ i hi] at q
  unfold fI
  refine YL (bF (MA i _ (at_ i hi)) ?_)
  rw[if_neg Yq]
  exact YL (C.lt _ _ st _ hk (hD _ (YX hi)) kd (YV q))
 ·have hi:i<seg.length:=by lia
  simp only[at_ i hi,at_ j hj,aec] at e ⊢
  by_cases c:i=j
  ·subst c;exact e
  ·have:=ab5.mp hs i j hi hj (by lia)
   exact Zm this e
 ·obtain⟨i,hi,rfl⟩:=abd.mp hx
  rw[YJ] at hi
  have:=h1 i (by lia)
  simp only[at_ i (by lia),aec] at this
  rw[abU]
  exact this
 ·obtain⟨i,hi,rfl⟩:=abd.mp hx
  rw[Y1] at hi
  have:=h2 (k+i) (by lia) (by lia)
  simp only[at_ (k+i) (by lia),Bool.not_eq_false'] at this
  rw[List.getElem_drop]
  exact this
theorem j_ (C:j8 M A E s O key knd D){kx:YY}{base hint:Nat}{seg:List YY}{st:YZ}{Q:Option Nat→YZ→Prop}(MA:∀i x,seg[i]? = some x→arr.toList[base+i]? = some x)(hs:gr key seg)(hD:∀x∈seg,D x)(hk:D kx)(kd:ZY st=knd)(hh:hint<seg.length)(h:∀k,k≤seg.length→(∀x∈seg.take k,O.klt (key x) (key kx))→(∀x∈seg.drop k,O.kle (key kx) (key x))→Q (some k) st):wpS M A E s (eX true kx arr base seg.length hint) Q st:=by
 have at_:∀i,(hi:i<seg.length)→seg[i]? = some seg[i]:=fun i hi=>Ys hi
 refine sh (fun i=>match seg[i]? with|some x=>O.blt (key x) (key kx)|none=>false) (fun i hi Q q => ?_) (fun i j rE hj e => ?_) hh fun k JX h1 h2=>h k JX (fun x hx => ?_) fun x hx => ?_
 ·rw[at_ i hi] at q
  unfold fI
  refine YL (bF (MA i _ (at_ i hi)) ?_)
  rw[if_pos rfl]
  exact C.lt _ _ st _ (hD _ (YX hi)) hk kd q
 ·have hi:i<seg.length:=by lia
  simp only[at_ i hi,at_ j hj] at e ⊢
  by_cases c:i=j
  ·subst c;exact e
  ·have:=ab5.mp hs i j hi hj (by lia)
   exact KeyOrd.klt_of_kle_of_klt this e
 ·obtain⟨i,hi,rfl⟩:=abd.mp hx
  rw[YJ] at hi
  have:=h1 i (by lia)
  simp only[at_ i (by lia)] at this
  rw[abU]
  exact this
 ·obtain⟨i,hi,rfl⟩:=abd.mp hx
  rw[Y1] at hi
  have:=h2 (k+i) (by lia) (by lia)
  simp only[at_ (k+i) (by lia)] at this
  rw[List.getElem_drop]
  exact this
end
end Hc.Ts
namespace Hc.Ts
noncomputable abbrev de (st:YZ)(g:Nat):YZ:=SortSt.mk' (ZY st) (Zq st) (Zl st) g (ab9 st)
noncomputable def bT (g:Nat):StateT YZ Sem Unit:=modify fun s=>de s g
noncomputable def qg:Array YY→Array YY→StateT YZ Sem (Array YY):=sortPriv% PySem.Builtin.mergeLo
noncomputable abbrev Js:=Option (Array YY)×Array YY×Nat×Nat×Nat×Nat×Nat
noncomputable abbrev MR:=Option (Array YY)×Array YY×Nat×Nat×Nat×Nat
noncomputable abbrev PN:=Option (Array YY)×Array YY×Nat×Nat×Nat
noncomputable def fB (a b out:Array YY)(ia ib:Nat):Array YY:=out++a.extract ia a.size++b.extract ib b.size
noncomputable def ka (a b out:Array YY)(ia ib:Nat):Array YY:=out++b.extract ib b.size++a.extract ia a.size
noncomputable def G5 (a b out:Array YY)(ia ib g k k1:Nat):StateT YZ Sem (ForInStep Js):=do
 let x ←adZ a ia
 if (ia+1+1==a.size)=true then pure (.done (some (ka a b (out.push x) (ia+1) ib),out.push x,ia+1,ib,g,k,k1))
 else if (decide (k<7)&&decide (k1<7))=true then pure (.done (none,out.push x,ia+1,ib,g,k,k1))
 else pure (.yield (none,out.push x,ia+1,ib,g,k,k1))
noncomputable def G6 (a b out:Array YY)(ia ib g k bc:Nat):StateT YZ Sem (ForInStep Js):=do
 let y ←adZ b ib
 if (ib+1==b.size)=true then pure (.done (some (fB a b (out.push y) ia (ib+1)),out.push y,ia,ib+1,g,k,bc))
 else do
  let x ←adZ a ia
  let some k1 ←eX true x b (ib+1) (b.size - (ib+1)) 0|pure (.done (some (fB a b (out.push y) ia (ib+1)),out.push y,ia,ib+1,g,k,bc))
  if k1>0 then
   if (ib+1+k1==b.size)=true then pure (.done (some (fB a b (out.push y++b.extract (ib+1) (ib+1+k1)) ia (ib+1+k1)),out.push y++b.extract (ib+1) (ib+1+k1),ia,ib+1+k1,g,k,k1))
   else G5 a b (out.push y++b.extract (ib+1) (ib+1+k1)) ia (ib+1+k1) g k k1
  else G5 a b (out.push y) ia (ib+1) g k k1
noncomputable def G7 (a b out:Array YY)(ia ib g ac bc:Nat):StateT YZ Sem (ForInStep Js):=do
 bT g
 let y ←adZ b ib
 let some k ←eX false y a ia (a.size - ia) 0|pure (.done (some (fB a b out ia ib),out,ia,ib,g,ac,bc))
 if k>0 then
  if (ia+k+1==a.size)=true then pure (.done (some (ka a b (out++a.extract ia (ia+k)) (ia+k) ib),out++a.extract ia (ia+k),ia+k,ib,g,k,bc))
  else if (ia+k==a.size)=true then pure (.done (some (fB a b (out++a.extract ia (ia+k)) (ia+k) ib),out++a.extract ia (ia+k),ia+k,ib,g,k,bc))
  else G6 a b (out++a.extract ia (ia+k)) (ia+k) ib g k bc
 else G6 a b out ia ib g k bc
noncomputable def QX (a b:Array YY)(_:Nat)(c:Js):StateT YZ Sem (ForInStep Js) :=
 if c.2.2.2.2.1>1 then G7 a b c.2.1 c.2.2.1 c.2.2.2.1 (c.2.2.2.2.1 - 1) c.2.2.2.2.2.1 c.2.2.2.2.2.2
 else G7 a b c.2.1 c.2.2.1 c.2.2.2.1 c.2.2.2.2.1 c.2.2.2.2.2.1 c.2.2.2.2.2.2
noncomputable def QY (a b:Array YY)(g:Nat)(_:Nat)(c:MR):StateT YZ Sem (ForInStep MR):=do
 let y ←adZ b c.2.2.2.1
 let x ←adZ a c.2.2.1
 let some bWins ←lt' y x|pure (.done (some (fB a b c.2.1 c.2.2.1 c.2.2.2.1),c.2.1,c.2.2.1,c.2.2.2.1,c.2.2.2.2.1,c.2.2.2.2.2))
 if bWins=true then do
   let y ←adZ b c.2.2.2.1
   if (c.2.2.2.1+1==b.size)=true then pure (.done (some (fB a b (c.2.1.push y) c.2.2.1 (c.2.2.2.1+1)),c.2.1.push y,c.2.2.1,c.2.2.2.1+1,0,c.2.2.2.2.2+1))
   else if c.2.2.2.2.2+1≥g then pure (.done (none,c.2.1.push y,c.2.2.1,c.2.2.2.1+1,0,c.2.2.2.2.2+1))
   else pure (.yield (none,c.2.1.push y,c.2.2.1,c.2.2.2.1+1,0,c.2.2.2.2.2+1))
 else do
   let x ←adZ a c.2.2.1
   if (c.2.2.1+1+1==a.size)=true then pure (.done (some (ka a b (c.2.1.push x) (c.2.2.1+1) c.2.2.2.1),c.2.1.push x,c.2.2.1+1,c.2.2.2.1,c.2.2.2.2.1+1,0))
   else if c.2.2.2.2.1+1≥g then pure (.done (none,c.2.1.push x,c.2.2.1+1,c.2.2.2.1,c.2.2.2.2.1+1,0))
   else pure (.yield (none,c.2.1.push x,c.2.2.1+1,c.2.2.2.1,c.2.2.2.2.1+1,0))
noncomputable def QZ (a b:Array YY)(_:Nat)(c:PN):StateT YZ Sem (ForInStep PN):=do
 let d ←forIn [0:a.size+b.size] (none,c.2.1,c.2.2.1,c.2.2.2.1,0,0) (QY a b c.2.2.2.2)
 match d.1 with
 |some r=>pure (.done (some r,d.2.1,d.2.2.1,d.2.2.2.1,c.2.2.2.2))
 |none=>do
  liftM (rule "list.sort.gallop")
  let e ←forIn [0:a.size+b.size] (none,d.2.1,d.2.2.1,d.2.2.2.1,c.2.2.2.2+1,d.2.2.2.2.1,d.2.2.2.2.2) (QX a b)
  match e.1 with
  |some r=>pure (.done (some r,e.2.1,e.2.2.1,e.2.2.2.1,e.2.2.2.2.1))
  |none=>do
   bT (e.2.2.2.2.1+1)
   pure (.yield (none,e.2.1,e.2.2.1,e.2.2.2.1,e.2.2.2.2.1+1))
theorem t_ (a b:Array YY):qg a b=(do
  liftM (rule "list.sort.merge-lo")
  let y ←adZ b 0
  if (1==b.size)=true then pure (fB a b #[y] 0 1)
  else if (0+1==a.size)=true then pure (ka a b #[y] 0 1)
  else do
   let st ←get
   let c ←forIn [0:a.size+b.size] ((none,#[y],0,1,adM st):PN) (QZ a b)
   match c.1 with
   |some r=>pure r
   |none=>liftM (adt "internal:list.sort.merge-bound")):=by kernel_rfl
section
variable {A:Zw}{O:aei}{key:YY→O.α}{knd:acs}{D:YY→Prop}
theorem oN (a:Array YY)(i:Nat):(a.extract i a.size).toList=a.toList.drop i:=by
 rw[ab0,abb]
 exact aaw (by simp)
theorem uc (a:Array YY)(i k:Nat):(a.extract i (i+k)).toList=(a.toList.drop i).take k:=by
 rw[ab0,abb,aas]
theorem vR (a b out:Array YY)(ia ib:Nat):(fB a b out ia ib).toList=out.toList++(a.toList.drop ia++b.toList.drop ib):=by
 unfold fB;rw[ZF,ZF,oN,oN,YW]
theorem Ey (a b out:Array YY)(ia ib:Nat):(ka a b out ia ib).toList=out.toList++(b.toList.drop ib++a.toList.drop ia):=by
 unfold ka;rw[ZF,ZF,oN,oN,YW]
theorem jF {l:List YY}(h:i<l.length):l.drop i=[l[i]]++l.drop (i+1):=aac h
theorem qh {l:List YY}(i k:Nat):l.drop i=(l.drop i).take k++l.drop (i+k):=by rw[←ad0,Zz]
noncomputable def oO (key:YY→O.α)(T:List YY)(r:Array YY):Prop:=r.toList.Perm T∧gr key r.toList
structure LI (key:YY→O.α)(T:List YY)(a b out:Array YY)(ia ib:Nat):Prop where
 ha:ia+1<a.size
 hb:ib<b.size
 mi:MI key T out.toList (a.toList.drop ia) (b.toList.drop ib)
structure LR (key:YY→O.α)(D:YY→Prop)(a b:Array YY):Prop where
 da:∀x∈a.toList,D x
 db:∀x∈b.toList,D x
 last:∀i,i+1=a.size→∀y∈b.toList,∀x,a.toList[i]? = some x→O.kle (key y) (key x)
variable {a b out:Array YY}{ia ib:Nat}
theorem LR.fin (R:LR key D a b)(h:MI key T out.toList (a.toList.drop ia) (b.toList.drop ib))(e:ia+1=a.size):oO key T (ka a b out ia ib):=by
 unfold oO;rw[Ey]
 refine h.last fun y hy x hx => ?_
 have hl:ia<a.toList.length:=by rw[Yz];lia
 have hn:a.toList.drop (ia+1)=[]:=abF (by rw[Yz];lia)
 rw[jF hl,hn,Zb,Zt] at hx
 subst hx
 exact R.last ia e y (ZW hy) _ (Ys hl)
theorem zV (h:MI key T out.toList (a.toList.drop ia) (b.toList.drop ib))(e:ib=b.size):oO key T (fB a b out ia ib):=by
 have hn:b.toList.drop ib=[]:=abF (by rw[Yz];lia)
 unfold oO;rw[vR]
 rw[hn] at h ⊢;rw[Zb]
 exact h.endA
theorem Oq (h:MI key T out.toList (a.toList.drop ia) (b.toList.drop ib))(e:ia=a.size):oO key T (fB a b out ia ib):=by
 have hn:a.toList.drop ia=[]:=abF (by rw[Yz];lia)
 unfold oO;rw[vR]
 rw[hn] at h ⊢;rw[aaE]
 exact h.endB
theorem jj {l:List YY}(h:gr key (l.drop i))(hl:i<l.length):∀x∈l.drop i,O.kle (key l[i]) (key x):=by
 intro x hx
 rw[jF hl] at h hx
 rcases Y4.mp hx with hx|hx
 ·rw[Zt] at hx;subst hx;exact aae _
 ·exact (bw.mp h).2.2 _ (by simp) x hx
theorem Jt (h:MI key T out.toList (a.toList.drop ia) (b.toList.drop ib))(hl:ia<a.toList.length)(hx:∀y∈b.toList.drop ib,O.kle (key a.toList[ia]) (key y)):MI key T (out.push a.toList[ia]).toList (a.toList.drop (ia+1)) (b.toList.drop ib):=by
 rw[abV]
 rw[jF hl] at h
 exact h.stepA fun x qX y hy=>by rw[Zt] at qX;subst qX;exact hx y hy
theorem Ez (h:MI key T out.toList (a.toList.drop ia) (b.toList.drop ib))(hl:ib<b.toList.length)(hx:∀x∈a.toList.drop ia,O.kle (key b.toList[ib]) (key x)):MI key T (out.push b.toList[ib]).toList (a.toList.drop ia) (b.toList.drop (ib+1)):=by
 rw[abV]
 rw[jF hl] at h
 exact h.stepB fun x qX y hy=>by rw[Zt] at qX;subst qX;exact hx y hy
noncomputable def GE (key:YY→O.α)(T:List YY)(a b:Array YY)(n:Nat)(cg:YZ)(c:Js)(st:YZ):Prop :=
 (∃g,st=de cg g)∧((∃r,c.1=some r∧oO key T r)∨(c.1=none∧LI key T a b c.2.1 c.2.2.1 c.2.2.2.1∧n≤c.2.2.1+c.2.2.2.1))
noncomputable def GS (key:YY→O.α)(T:List YY)(a b:Array YY)(n:Nat)(cg:YZ)(r:ForInStep Js)(st:YZ):Prop :=
 match r with
 | .done c=>GE key T a b n cg c st
 | .yield c=>GE key T a b n cg c st∧c.1=none
theorem zW (R:LR key D a b){k1:Nat}{st cg:YZ}(fN:∃g,st=de cg g)(h:LI key T a b out ia ib)(hn:n≤ia+ib)(hx:∀(hl:ia<a.toList.length),∀y∈b.toList.drop ib,O.kle (key a.toList[ia]) (key y)) :
  wpS M A E s (G5 a b out ia ib g k k1) (GS key T a b n cg) st:=by
 have hl:ia<a.toList.length:=by have:=h.ha;rw[Yz];lia
 have m:=Jt h.mi hl (hx hl)
 unfold G5
 refine YL (bF (Ys hl) ?_)
 by_cases c:ia+1+1=a.size
 ·rw[if_pos (by simpa using c)]
  exact YV ⟨fN,.inl ⟨_,rfl,R.fin m c⟩⟩
 ·rw[if_neg (by simpa using c)]
  have L:LI key T a b (out.push a.toList[ia]) (ia+1) ib:=⟨by have:=h.ha;lia,h.hb,m⟩
  by_cases c2:(decide (k<7)&&decide (k1<7))=true
  ·rw[if_pos c2]
   exact YV ⟨fN,.inr ⟨rfl,L,by simp only;lia⟩⟩
  ·rw[if_neg c2]
   exact YV ⟨⟨fN,.inr ⟨rfl,L,by simp only;lia⟩⟩,rfl⟩
theorem zX (C:j8 M A E s O key knd D)(R:LR key D a b){st cg:YZ}(fN:∃g,st=de cg g)(kd:ZY cg=knd)(h:LI key T a b out ia ib)(hn:n≤ia+ib)(hx:∀(hl:ib<b.toList.length),∀x∈a.toList.drop ia,O.kle (key b.toList[ib]) (key x)) :
  wpS M A E s (G6 a b out ia ib g k bc) (GS key T a b n cg) st:=by
 have ky:ib<b.toList.length:=by have:=h.hb;rw[Yz];lia
 have ou:ia<a.toList.length:=by have:=h.ha;rw[Yz];lia
 have m:=Ez h.mi ky (hx ky)
 have Fu:ZY st=knd:=by obtain⟨g,rfl⟩:=fN;exact kd
 unfold G6
 refine YL (bF (Ys ky) ?_)
 by_cases c:ib+1=b.size
 ·rw[if_pos (by simpa using c)]
  exact YV ⟨fN,.inl ⟨_,rfl,zV m c⟩⟩
 ·rw[if_neg (by simpa using c)]
  refine YL (bF (Ys ou) ?_)
  have cU:b.size - (ib+1)=(b.toList.drop (ib+1)).length:=by rw[Y1,Yz]
  rw[cU]
  refine YL (j_ C (seg:=b.toList.drop (ib+1)) (fun i x e=>by rw[adN] at e;exact e) m.sb (fun x hx=>R.db x (ZW hx)) (R.da _ (YX ou)) Fu (by rw[←cU];have:=h.hb;lia) fun k1 JX p1 p2 => ?_)
  dsimp only
  by_cases c1:k1>0
  ·rw[if_pos c1]
   have m2:MI key T (out.push b.toList[ib]++b.extract (ib+1) (ib+1+k1)).toList (a.toList.drop ia) (b.toList.drop (ib+1+k1)):=by
    rw[ZF,uc]
    have m':=m
    rw[qh (l:=b.toList) (ib+1) k1] at m'
    exact m'.stepB fun y hy x qX=>Zm (ZD (p1 y hy)) (jj h.mi.sa ou x qX)
   by_cases c2:ib+1+k1=b.size
   ·rw[if_pos (by simpa using c2)]
    exact YV ⟨fN,.inl ⟨_,rfl,zV m2 c2⟩⟩
   ·rw[if_neg (by simpa using c2)]
    have:k1≤b.size - (ib+1):=by rw[cU];exact JX
    refine zW R fN ⟨h.ha,by have:=h.hb;lia,m2⟩ (by lia) fun hl y hy => ?_
    rw[←ad0] at hy
    exact p2 y hy
  ·rw[if_neg c1]
   have:k1=0:=by lia
   subst this
   refine zW R fN ⟨h.ha,by have:=h.hb;lia,m⟩ (by lia) fun hl y hy=>p2 y hy
theorem zY (C:j8 M A E s O key knd D)(R:LR key D a b){ac:Nat}{st cg:YZ}(fN:∃g,st=de cg g)(kd:ZY cg=knd)(h:LI key T a b out ia ib)(hn:n≤ia+ib) :
  wpS M A E s (G7 a b out ia ib g ac bc) (GS key T a b n cg) st:=by
 have ky:ib<b.toList.length:=by have:=h.hb;rw[Yz];lia
 have ou:ia<a.toList.length:=by have:=h.ha;rw[Yz];lia
 unfold G7 bT
 have xg:∃g',de st g=de cg g':=by obtain⟨g0,rfl⟩:=fN;exact⟨g,rfl⟩
 have Fu:ZY (de st g)=knd:=by obtain⟨g0,rfl⟩:=fN;exact kd
 refine YL (aci ?_)
 refine YL (bF (Ys ky) ?_)
 have cU:a.size - ia=(a.toList.drop ia).length:=by rw[Y1,Yz]
 rw[cU]
 refine YL (j9 C (seg:=a.toList.drop ia) (fun i x e=>by rw[adN] at e;exact e) h.mi.sa (fun x hx=>R.da x (ZW hx)) (R.db _ (YX ky)) Fu (by rw[←cU];have:=h.ha;lia) fun k hk p1 p2 => ?_)
 dsimp only
 by_cases c1:k>0
 ·rw[if_pos c1]
  have m2:MI key T (out++a.extract ia (ia+k)).toList (a.toList.drop (ia+k)) (b.toList.drop ib):=by
   rw[ZF,uc]
   have m':=h.mi
   rw[qh (l:=a.toList) ia k] at m'
   exact m'.stepA fun x hx y hy=>Zm (p1 x hx) (jj h.mi.sb ky y hy)
  by_cases c2:ia+k+1=a.size
  ·rw[if_pos (by simpa using c2)]
   exact YV ⟨xg,.inl ⟨_,rfl,R.fin m2 c2⟩⟩
  ·rw[if_neg (by simpa using c2)]
   by_cases c3:ia+k=a.size
   ·rw[if_pos (by simpa using c3)]
    exact YV ⟨xg,.inl ⟨_,rfl,Oq m2 c3⟩⟩
   ·rw[if_neg (by simpa using c3)]
    have:k≤a.size - ia:=by rw[cU];exact hk
    refine zX C R xg kd ⟨by have:=h.ha;lia,h.hb,m2⟩ (by lia) fun hl x hx => ?_
    rw[←ad0] at hx
    exact ZD (p2 x hx)
 ·rw[if_neg c1]
  have:k=0:=by lia
  subst this
  exact zX C R xg kd h hn fun hl x hx=>ZD (p2 x hx)
theorem Lu (C:j8 M A E s O key knd D)(R:LR key D a b){c:Js}{st cg:YZ}(fN:∃g,st=de cg g)(kd:ZY cg=knd)(h:LI key T a b c.2.1 c.2.2.1 c.2.2.2.1)(hn:n≤c.2.2.1+c.2.2.2.1) :
  wpS M A E s (QX a b i c) (GS key T a b n cg) st:=by
 unfold QX
 split
 ·exact zY C R fN kd h hn
 ·exact zY C R fN kd h hn
theorem Lv (C:j8 M A E s O key knd D)(R:LR key D a b){c:MR}{st:YZ}{Q:ForInStep MR→YZ→Prop}(kd:ZY st=knd)(h:LI key T a b c.2.1 c.2.2.1 c.2.2.2.1)(h1:∀d:MR,(∃r,d.1=some r∧oO key T r)∨(d.1=none∧LI key T a b d.2.1 d.2.2.1 d.2.2.2.1∧c.2.2.1+c.2.2.2.1+1=d.2.2.1+d.2.2.2.1)→Q (.done d) st)(h2:∀d:MR,d.1=none→LI key T a b d.2.1 d.2.2.1 d.2.2.2.1→c.2.2.1+c.2.2.2.1+1=d.2.2.1+d.2.2.2.1→Q (.yield d) st) :
  wpS M A E s (QY a b g i c) Q st:=by
 obtain⟨r0,out,ia,ib,ac,bc⟩:=c
 dsimp only at h h1 h2 ⊢
 have ky:ib<b.toList.length:=by have:=h.hb;rw[Yz];lia
 have ou:ia<a.toList.length:=by have:=h.ha;rw[Yz];lia
 unfold QY
 dsimp only
 refine YL (bF (Ys ky) ?_)
 refine YL (bF (Ys ou) ?_)
 refine YL (C.lt _ _ st _ (R.db _ (YX ky)) (R.da _ (YX ou)) kd ?_)
 dsimp only
 cases e:O.blt (key b.toList[ib]) (key a.toList[ia]) with
 |true =>
  rw[if_pos rfl]
  have m:=Ez h.mi ky fun x hx=>Zm (ZD e) (jj h.mi.sa ou x hx)
  refine YL (bF (Ys ky) ?_)
  by_cases c:ib+1=b.size
  ·rw[if_pos (by simpa using c)]
   exact YV (h1 _ (.inl ⟨_,rfl,zV m c⟩))
  ·rw[if_neg (by simpa using c)]
   have L:LI key T a b (out.push b.toList[ib]) ia (ib+1):=⟨h.ha,by have:=h.hb;lia,m⟩
   split
   ·exact YV (h1 _ (.inr ⟨rfl,L,by simp only;lia⟩))
   ·exact YV (h2 _ rfl L (by simp only;lia))
 |false =>
  rw[if_neg Yq]
  have m:=Jt h.mi ou fun y hy=>Zm (show O.kle _ _ from e) (jj h.mi.sb ky y hy)
  refine YL (bF (Ys ou) ?_)
  by_cases c:ia+1+1=a.size
  ·rw[if_pos (by simpa using c)]
   exact YV (h1 _ (.inl ⟨_,rfl,R.fin m c⟩))
  ·rw[if_neg (by simpa using c)]
   have L:LI key T a b (out.push a.toList[ia]) (ia+1) ib:=⟨by have:=h.ha;lia,h.hb,m⟩
   split
   ·exact YV (h1 _ (.inr ⟨rfl,L,by simp only;lia⟩))
   ·exact YV (h2 _ rfl L (by simp only;lia))
theorem Lw (C:j8 M A E s O key knd D)(R:LR key D a b){c:PN}{st cg:YZ}(fN:∃g,st=de cg g)(kd:ZY cg=knd)(h:LI key T a b c.2.1 c.2.2.1 c.2.2.2.1) :
  wpS M A E s (QZ a b i c) (fun r aE=>(∃g,aE=de cg g)∧match r with
   | .done d=>∃r,d.1=some r∧oO key T r
   | .yield d=>d.1=none∧LI key T a b d.2.1 d.2.2.1 d.2.2.2.1∧c.2.2.1+c.2.2.2.1+1≤d.2.2.1+d.2.2.2.1) st:=by
 obtain⟨r0,out,ia,ib,g0⟩:=c
 dsimp only at h ⊢
 have Fu:ZY st=knd:=by obtain⟨g,rfl⟩:=fN;exact kd
 unfold QZ
 dsimp only
 have hs:1≤a.size+b.size:=by have:=h.hb;lia
 refine YL (aa5 (Z1 (I:=fun x d aE=>aE=st∧d.1=none∧LI key T a b d.2.1 d.2.2.1 d.2.2.2.1∧ia+ib+x=d.2.2.1+d.2.2.2.1)
  (Q:=fun d aE=>aE=st∧((∃r,d.1=some r∧oO key T r)∨(d.1=none∧LI key T a b d.2.1 d.2.2.1 d.2.2.2.1∧ia+ib+1≤d.2.2.1+d.2.2.2.1))) ?step ?fin ⟨rfl,rfl,h,by simp only;lia⟩) ?post)
 case fin =>
  rintro d aE ⟨rfl,e1,e2,e3⟩
  exact⟨rfl,.inr ⟨e1,e2,by lia⟩⟩
 case step =>
  rintro x d aE _ hx ⟨rfl,e1,e2,e3⟩
  refine Lv C R Fu e2 (fun d' hd => ?_) fun d' p1 p2 p3 => ?_
  ·rcases hd with hd|⟨p1,p2,p3⟩
   ·exact⟨rfl,.inl hd⟩
   ·exact⟨rfl,.inr ⟨p1,p2,by lia⟩⟩
  ·exact⟨rfl,p1,p2,by lia⟩
 case post =>
  rintro d aE ⟨rfl,hd⟩
  obtain⟨dr,dout,dia,dib,dac,dbc⟩:=d
  dsimp only at hd ⊢
  rcases hd with⟨r,rfl,hr⟩|⟨rfl,hL,hn⟩
  ·exact YV ⟨fN,r,rfl,hr⟩
  ·dsimp only
   refine YL (wpS_lift (aaU ⟨rfl,?_⟩))
   refine YL (aa5 (Z1 (I:=fun x d aE=>GE key T a b (ia+ib+1) cg d aE∧d.1=none)
    (Q:=fun d aE=>GE key T a b (ia+ib+1) cg d aE) ?_ (fun d aE h=>h.1) ⟨⟨fN,.inr ⟨rfl,hL,hn⟩⟩,rfl⟩) ?_)
   ·rintro x d aE _ hx ⟨⟨hs',hd⟩,e1⟩
    rcases hd with⟨r,e2,_⟩|⟨_,e3,e4⟩
    ·rw[e1] at e2;cases e2
    ·refine aa5 (Lu C R hs' kd e3 e4) fun r MB hr => ?_
     cases r with
     |done d'=>exact hr
     |yield d'=>exact hr
   ·rintro d aE ⟨hs',hd⟩
    obtain⟨er,eout,eia,eib,eg,eac,ebc⟩:=d
    dsimp only at hd ⊢
    rcases hd with⟨r,rfl,hr⟩|⟨rfl,hL2,JO⟩
    ·exact YV ⟨hs',r,rfl,hr⟩
    ·dsimp only
     unfold bT
     refine YL (aci (YV ⟨?_,rfl,hL2,JO⟩))
     obtain⟨g,rfl⟩:=hs'
     exact⟨_,rfl⟩
theorem yj (C:j8 M A E s O key knd D)(R:LR key D a b){st:YZ}{Q:Array YY→YZ→Prop}(kd:ZY st=knd)(sa:gr key a.toList)(sb:gr key b.toList)(ha:0<a.size)(hb:0<b.size)
  (first:∀y,b.toList[0]? = some y→∀x∈a.toList,O.kle (key y) (key x))
  (h:∀r g,r.toList.Perm (a.toList++b.toList)→gr key r.toList→Q r (de st g)):wpS M A E s (qg a b) Q st:=by
 have ky:0<b.toList.length:=by rw[Yz];exact hb
 have m:MI key (a.toList++b.toList) (#[b.toList[0]]:Array YY).toList (a.toList.drop 0) (b.toList.drop 1):=by
  have m0:MI key (a.toList++b.toList) (#[]:Array YY).toList (a.toList.drop 0) (b.toList.drop 0) :=
   ⟨by simp,List.Pairwise.nil,sa,sb,fun x hx=>absurd hx (by simp),fun x hx=>absurd hx (by simp)⟩
  exact Ez m0 ky (fun x hx=>first _ (Ys ky) x hx)
 have fin:∀r g,oO key (a.toList++b.toList) r→Q r (de st g):=fun r g hr=>h r g hr.1 hr.2
 rw[t_]
 refine YL (wpS_lift (aaU ⟨rfl,?_⟩))
 refine YL (bF (Ys ky) ?_)
 by_cases c:1=b.size
 ·rw[if_pos (by simpa using c)]
  exact YV (fin _ (adM st) (zV m c))
 ·rw[if_neg (by simpa using c)]
  by_cases c2:0+1=a.size
  ·rw[if_pos (by simpa using c2)]
   exact YV (fin _ (adM st) (R.fin m c2))
  ·rw[if_neg (by simpa using c2)]
   refine YL (wpS_get ?_)
   refine YL (aa5 (Z1 (I:=fun x d aE=>(∃g,aE=de st g)∧d.1=none∧LI key (a.toList++b.toList) a b d.2.1 d.2.2.1 d.2.2.2.1∧x≤d.2.2.1+d.2.2.2.1)
    (Q:=fun d aE=>(∃g,aE=de st g)∧∃r,d.1=some r∧oO key (a.toList++b.toList) r) ?step ?fin ⟨⟨adM st,rfl⟩,rfl,⟨by simp only;lia,by simp only;lia,m⟩,by simp only;lia⟩) ?post)
   case fin =>
    rintro d aE ⟨hs',e1,e2,e3⟩
    have:=e2.ha;have:=e2.hb;lia
   case step =>
    rintro x d aE _ hx ⟨hs',e1,e2,e3⟩
    refine aa5 (Lw C R hs' kd e2) fun r MB hr => ?_
    obtain⟨nO,hr⟩:=hr
    cases r with
    |done d'=>exact⟨nO,hr⟩
    |yield d'=>exact⟨nO,hr.1,hr.2.1,by have:=hr.2.2;lia⟩
   case post =>
    rintro d aE ⟨⟨g,rfl⟩,r,e,hr⟩
    obtain⟨dr,d'⟩:=d
    dsimp only at e ⊢
    subst e
    exact YV (fin r g hr)
end
end Hc.Ts
namespace Hc.Ts
noncomputable def qi:Array YY→Array YY→StateT YZ Sem (Array YY):=sortPriv% PySem.Builtin.mergeHi
noncomputable abbrev Ju:=Option (Array YY)×Nat×Nat×Array YY×Nat×Nat×Nat
noncomputable abbrev MT:=Option (Array YY)×Nat×Nat×Array YY×Nat×Nat
noncomputable abbrev PQ:=Option (Array YY)×Nat×Nat×Array YY×Nat
noncomputable def fD (a b out:Array YY)(na nb:Nat):Array YY:=a.extract 0 na++b.extract 0 nb++out.reverse
noncomputable def iE (a b out:Array YY)(na nb:Nat):Array YY:=b.extract 0 nb++a.extract 0 na++out.reverse
noncomputable def G8 (a b out:Array YY)(na nb g k k1:Nat):StateT YZ Sem (ForInStep Ju):=do
 let x ←adZ a (na - 1)
 if (na - 1==0)=true then pure (.done (some (fD a b (out.push x) (na - 1) nb),na - 1,nb,out.push x,g,k,k1))
 else if (decide (k<7)&&decide (k1<7))=true then pure (.done (none,na - 1,nb,out.push x,g,k,k1))
 else pure (.yield (none,na - 1,nb,out.push x,g,k,k1))
noncomputable def G9 (a b out:Array YY)(na nb g k bc:Nat):StateT YZ Sem (ForInStep Ju):=do
 let y ←adZ b (nb - 1)
 if (nb - 1==1)=true then pure (.done (some (iE a b (out.push y) na (nb - 1)),na,nb - 1,out.push y,g,k,bc))
 else do
  let x ←adZ a (na - 1)
  let some kz ←eX true x b 0 (nb - 1) (nb - 1 - 1)|pure (.done (some (fD a b (out.push y) na (nb - 1)),na,nb - 1,out.push y,g,k,bc))
  if nb - 1 - kz>0 then
   if (kz==1)=true then pure (.done (some (iE a b (out.push y++(b.extract kz (nb - 1)).reverse) na kz),na,kz,out.push y++(b.extract kz (nb - 1)).reverse,g,k,nb - 1 - kz))
   else if (kz==0)=true then pure (.done (some (fD a b (out.push y++(b.extract kz (nb - 1)).reverse) na kz),na,kz,out.push y++(b.extract kz (nb - 1)).reverse,g,k,nb - 1 - kz))
   else G8 a b (out.push y++(b.extract kz (nb - 1)).reverse) na kz g k (nb - 1 - kz)
  else G8 a b (out.push y) na (nb - 1) g k (nb - 1 - kz)
noncomputable def G_ (a b out:Array YY)(na nb g ac bc:Nat):StateT YZ Sem (ForInStep Ju):=do
 bT g
 let y ←adZ b (nb - 1)
 let some sR ←eX false y a 0 na (na - 1)|pure (.done (some (fD a b out na nb),na,nb,out,g,ac,bc))
 if na - sR>0 then
  if (sR==0)=true then pure (.done (some (fD a b (out++(a.extract sR na).reverse) sR nb),sR,nb,out++(a.extract sR na).reverse,g,na - sR,bc))
  else G9 a b (out++(a.extract sR na).reverse) sR nb g (na - sR) bc
 else G9 a b out na nb g (na - sR) bc
noncomputable def Q0 (a b:Array YY)(_:Nat)(c:Ju):StateT YZ Sem (ForInStep Ju) :=
 if c.2.2.2.2.1>1 then G_ a b c.2.2.2.1 c.2.1 c.2.2.1 (c.2.2.2.2.1 - 1) c.2.2.2.2.2.1 c.2.2.2.2.2.2
 else G_ a b c.2.2.2.1 c.2.1 c.2.2.1 c.2.2.2.2.1 c.2.2.2.2.2.1 c.2.2.2.2.2.2
noncomputable def Q1 (a b:Array YY)(g:Nat)(_:Nat)(c:MT):StateT YZ Sem (ForInStep MT):=do
 let y ←adZ b (c.2.2.1 - 1)
 let x ←adZ a (c.2.1 - 1)
 let some aWins ←lt' y x|pure (.done (some (fD a b c.2.2.2.1 c.2.1 c.2.2.1),c.2.1,c.2.2.1,c.2.2.2.1,c.2.2.2.2.1,c.2.2.2.2.2))
 if aWins=true then do
  let x ←adZ a (c.2.1 - 1)
  if (c.2.1 - 1==0)=true then pure (.done (some (fD a b (c.2.2.2.1.push x) (c.2.1 - 1) c.2.2.1),c.2.1 - 1,c.2.2.1,c.2.2.2.1.push x,c.2.2.2.2.1+1,0))
  else if c.2.2.2.2.1+1≥g then pure (.done (none,c.2.1 - 1,c.2.2.1,c.2.2.2.1.push x,c.2.2.2.2.1+1,0))
  else pure (.yield (none,c.2.1 - 1,c.2.2.1,c.2.2.2.1.push x,c.2.2.2.2.1+1,0))
 else do
  let y ←adZ b (c.2.2.1 - 1)
  if (c.2.2.1 - 1==1)=true then pure (.done (some (iE a b (c.2.2.2.1.push y) c.2.1 (c.2.2.1 - 1)),c.2.1,c.2.2.1 - 1,c.2.2.2.1.push y,0,c.2.2.2.2.2+1))
  else if c.2.2.2.2.2+1≥g then pure (.done (none,c.2.1,c.2.2.1 - 1,c.2.2.2.1.push y,0,c.2.2.2.2.2+1))
  else pure (.yield (none,c.2.1,c.2.2.1 - 1,c.2.2.2.1.push y,0,c.2.2.2.2.2+1))
noncomputable def Q2 (a b:Array YY)(_:Nat)(c:PQ):StateT YZ Sem (ForInStep PQ):=do
 let d ←forIn [0:a.size+b.size] (none,c.2.1,c.2.2.1,c.2.2.2.1,0,0) (Q1 a b c.2.2.2.2)
 match d.1 with
 |some r=>pure (.done (some r,d.2.1,d.2.2.1,d.2.2.2.1,c.2.2.2.2))
 |none=>do
  liftM (rule "list.sort.gallop")
  let e ←forIn [0:a.size+b.size] (none,d.2.1,d.2.2.1,d.2.2.2.1,c.2.2.2.2+1,d.2.2.2.2.1,d.2.2.2.2.2) (Q0 a b)
  match e.1 with
  |some r=>pure (.done (some r,e.2.1,e.2.2.1,e.2.2.2.1,e.2.2.2.2.1))
  |none=>do
   bT (e.2.2.2.2.1+1)
   pure (.yield (none,e.2.1,e.2.2.1,e.2.2.2.1,e.2.2.2.2.1+1))
theorem ud (a b:Array YY):qi a b=(do
  liftM (rule "list.sort.merge-hi")
  let x ←adZ a (a.size - 1)
  if (a.size - 1==0)=true then pure (fD a b #[x] (a.size - 1) b.size)
  else if (b.size==1)=true then pure (iE a b #[x] (a.size - 1) b.size)
  else do
   let st ←get
   let c ←forIn [0:a.size+b.size] ((none,a.size - 1,b.size,#[x],adM st):PQ) (Q2 a b)
   match c.1 with
   |some r=>pure r
   |none=>liftM (adt "internal:list.sort.merge-bound")):=by kernel_rfl
section
variable {A:Zw}{O:aei}{key:YY→O.α}{knd:acs}{D:YY→Prop}
theorem ue (a:Array YY)(n:Nat):(a.extract 0 n).toList=a.toList.take n:=by
 rw[ab0,abb];rfl
theorem uf (a:Array YY)(i n:Nat):(a.extract i n).toList=(a.toList.take n).drop i:=by
 rw[ab0,abb,List.drop_take]
theorem vS (a b out:Array YY)(na nb:Nat):(fD a b out na nb).toList=(a.toList.take na++b.toList.take nb)++out.toList.reverse:=by
 unfold fD;rw[ZF,ZF,ue,ue,ab1]
theorem BL (a b out:Array YY)(na nb:Nat):(iE a b out na nb).toList=(b.toList.take nb++a.toList.take na)++out.toList.reverse:=by
 unfold iE;rw[ZF,ZF,ue,ue,ab1]
theorem mC {l:List YY}(h0:0<n)(h:n - 1<l.length):l.take n=l.take (n - 1)++[l[n - 1]]:=by
 obtain⟨m,rfl⟩:∃m,n=m+1:=⟨n - 1,by lia⟩
 simp only[adO] at h ⊢
 exact Y_ h
theorem qj {l:List YY}(h:k≤n):l.take n=l.take k++(l.take n).drop k:=by
 conv=>lhs;rw[←Zz k (l.take n)]
 rw[List.take_take,aad h]
structure HI (key:YY→O.α)(T:List YY)(a b out:Array YY)(na nb:Nat):Prop where
 a0:0<na
 a1:na≤a.size
 b0:1<nb
 b1:nb≤b.size
 mh:MH key T (a.toList.take na) (b.toList.take nb) out.toList.reverse
structure HR (key:YY→O.α)(D:YY→Prop)(a b:Array YY):Prop where
 da:∀x∈a.toList,D x
 db:∀x∈b.toList,D x
 first:∀y,b.toList[0]? = some y→∀x∈a.toList,O.kle (key y) (key x)
variable {a b out:Array YY}{na nb:Nat}
theorem HR.fin (R:HR key D a b)(h:MH key T (a.toList.take na) (b.toList.take nb) out.toList.reverse)(e:nb=1):oO key T (iE a b out na nb):=by
 unfold oO;rw[BL]
 refine h.first fun y hy x hx => ?_
 subst e
 cases hb:b.toList with
 |nil=>rw[hb] at hy;cases hy
 |cons z r =>
  rw[hb] at hy
  have:y=z:=by simpa using hy
  subst this
  exact R.first y (by rw[hb];rfl) x (ZJ hx)
theorem ug (h:MH key T (a.toList.take na) (b.toList.take nb) out.toList.reverse)(e:na=0):oO key T (fD a b out na nb):=by
 subst e
 unfold oO;rw[vS]
 rw[List.take_zero] at h ⊢;rw[aaE]
 exact h.endB
theorem Lx (h:MH key T (a.toList.take na) (b.toList.take nb) out.toList.reverse)(e:nb=0):oO key T (fD a b out na nb):=by
 subst e
 unfold oO;rw[vS]
 rw[List.take_zero] at h ⊢;rw[Zb]
 exact h.endA
theorem fZ {l:List YY}(h:gr key (l.take n))(h0:0<n)(hl:n - 1<l.length):∀x∈l.take n,O.kle (key x) (key l[n - 1]):=by
 intro x hx
 rw[mC h0 hl] at h hx
 rcases Y4.mp hx with hx|hx
 ·exact (bw.mp h).2.2 x hx _ (by simp)
 ·rw[Zt] at hx;subst hx;exact aae _
theorem yk (h:MH key T (a.toList.take na) (b.toList.take nb) out.toList.reverse)(h0:0<na)(hl:na - 1<a.toList.length)(hx:∀y∈b.toList.take nb,O.kle (key y) (key a.toList[na - 1])):MH key T (a.toList.take (na - 1)) (b.toList.take nb) (out.push a.toList[na - 1]).toList.reverse:=by
 rw[abV,aca]
 rw[mC h0 hl] at h
 exact h.stepA fun y hy x qX=>by rw[Zt] at qX;subst qX;exact hx y hy
theorem EA (h:MH key T (a.toList.take na) (b.toList.take nb) out.toList.reverse)(h0:0<nb)(hl:nb - 1<b.toList.length)(hx:∀x∈a.toList.take na,O.kle (key x) (key b.toList[nb - 1])):MH key T (a.toList.take na) (b.toList.take (nb - 1)) (out.push b.toList[nb - 1]).toList.reverse:=by
 rw[abV,aca]
 rw[mC h0 hl] at h
 exact h.stepB fun x qX y hy=>by rw[Zt] at hy;subst hy;exact hx x qX
noncomputable def HE (key:YY→O.α)(T:List YY)(a b:Array YY)(n:Nat)(cg:YZ)(c:Ju)(st:YZ):Prop :=
 (∃g,st=de cg g)∧((∃r,c.1=some r∧oO key T r)∨(c.1=none∧HI key T a b c.2.2.2.1 c.2.1 c.2.2.1∧c.2.1+c.2.2.1≤n))
noncomputable def HS (key:YY→O.α)(T:List YY)(a b:Array YY)(n:Nat)(cg:YZ)(r:ForInStep Ju)(st:YZ):Prop :=
 match r with
 | .done c=>HE key T a b n cg c st
 | .yield c=>HE key T a b n cg c st∧c.1=none
theorem zZ (R:HR key D a b){k1:Nat}{st cg:YZ}(fN:∃g,st=de cg g)(h:HI key T a b out na nb)(hn:na+nb≤n)(hx:∀(hl:na - 1<a.toList.length),∀y∈b.toList.take nb,O.kle (key y) (key a.toList[na - 1])) :
  wpS M A E s (G8 a b out na nb g k k1) (HS key T a b n cg) st:=by
 have hl:na - 1<a.toList.length:=by have:=h.a0;have:=h.a1;rw[Yz];lia
 have m:=yk h.mh h.a0 hl (hx hl)
 unfold G8
 refine YL (bF (Ys hl) ?_)
 by_cases c:na - 1=0
 ·rw[if_pos (by simpa using c)]
  exact YV ⟨fN,.inl ⟨_,rfl,ug m c⟩⟩
 ·rw[if_neg (by simpa using c)]
  have L:HI key T a b (out.push a.toList[na - 1]) (na - 1) nb:=⟨by lia,by have:=h.a1;lia,h.b0,h.b1,m⟩
  by_cases c2:(decide (k<7)&&decide (k1<7))=true
  ·rw[if_pos c2]
   exact YV ⟨fN,.inr ⟨rfl,L,by simp only;lia⟩⟩
  ·rw[if_neg c2]
   exact YV ⟨⟨fN,.inr ⟨rfl,L,by simp only;lia⟩⟩,rfl⟩
theorem z9 (C:j8 M A E s O key knd D)(R:HR key D a b){st cg:YZ}(fN:∃g,st=de cg g)(kd:ZY cg=knd)(h:HI key T a b out na nb)(hn:na+nb≤n)(hx:∀(hl:nb - 1<b.toList.length),∀x∈a.toList.take na,O.kle (key x) (key b.toList[nb - 1])) :
  wpS M A E s (G9 a b out na nb g k bc) (HS key T a b n cg) st:=by
 have ky:nb - 1<b.toList.length:=by have:=h.b0;have:=h.b1;rw[Yz];lia
 have ou:na - 1<a.toList.length:=by have:=h.a0;have:=h.a1;rw[Yz];lia
 have b0:=h.b0;have b1:=h.b1;have a0:=h.a0;have a1:=h.a1
 have m:=EA h.mh (by lia) ky (hx ky)
 have Fu:ZY st=knd:=by obtain⟨g,rfl⟩:=fN;exact kd
 unfold G9
 refine YL (bF (Ys ky) ?_)
 by_cases c:nb - 1=1
 ·rw[if_pos (by simpa using c)]
  exact YV ⟨fN,.inl ⟨_,rfl,R.fin m c⟩⟩
 ·rw[if_neg (by simpa using c)]
  refine YL (bF (Ys ou) ?_)
  have cU:(b.toList.take (nb - 1)).length=nb - 1:=by rw[YJ,Yz];lia
  have Fv:=fun Q=>j_ C (Q:=Q) (kx:=a.toList[na - 1]) (arr:=b) (base:=0) (hint:=nb - 1 - 1) (seg:=b.toList.take (nb - 1)) (st:=st) (fun i x e=>by
   rw[abQ];rw[acu] at e;split at e
   ·exact e
   ·cases e) m.sb (fun x hx=>R.db x (ZJ hx)) (R.da _ (YX ou)) Fu (by rw[cU];lia)
  rw[cU] at Fv
  refine YL (Fv _ fun kz JX p1 p2 => ?_)
  dsimp only
  rw[List.take_take,aad JX] at p1
  by_cases c1:nb - 1 - kz>0
  ·rw[if_pos c1]
   have m2:MH key T (a.toList.take na) (b.toList.take kz) (out.push b.toList[nb - 1]++(b.extract kz (nb - 1)).reverse).toList.reverse:=by
    rw[ZF,ab1,aca,List.reverse_reverse,uf]
    have m':=m
    rw[qj (l:=b.toList) (n:=nb - 1) (k:=kz) (by lia)] at m'
    exact m'.stepB fun x qX y hy=>Zm (fZ h.mh.sa a0 ou x qX) (p2 y hy)
   by_cases c2:kz=1
   ·rw[if_pos (by simpa using c2)]
    exact YV ⟨fN,.inl ⟨_,rfl,R.fin m2 c2⟩⟩
   ·rw[if_neg (by simpa using c2)]
    by_cases c3:kz=0
    ·rw[if_pos (by simpa using c3)]
     exact YV ⟨fN,.inl ⟨_,rfl,Lx m2 c3⟩⟩
    ·rw[if_neg (by simpa using c3)]
     refine zZ R fN ⟨a0,a1,by lia,by lia,m2⟩ (by lia) fun hl y hy=>ZD (p1 y hy)
  ·rw[if_neg c1]
   have:kz=nb - 1:=by lia
   subst this
   refine zZ R fN ⟨a0,a1,by lia,by lia,m⟩ (by lia) fun hl y hy=>ZD (p1 y hy)
theorem z_ (C:j8 M A E s O key knd D)(R:HR key D a b){ac:Nat}{st cg:YZ}(fN:∃g,st=de cg g)(kd:ZY cg=knd)(h:HI key T a b out na nb)(hn:na+nb≤n) :
  wpS M A E s (G_ a b out na nb g ac bc) (HS key T a b n cg) st:=by
 have ky:nb - 1<b.toList.length:=by have:=h.b0;have:=h.b1;rw[Yz];lia
 have ou:na - 1<a.toList.length:=by have:=h.a0;have:=h.a1;rw[Yz];lia
 have b0:=h.b0;have b1:=h.b1;have a0:=h.a0;have a1:=h.a1
 unfold G_ bT
 have xg:∃g',de st g=de cg g':=by obtain⟨g0,rfl⟩:=fN;exact⟨g,rfl⟩
 have Fu:ZY (de st g)=knd:=by obtain⟨g0,rfl⟩:=fN;exact kd
 refine YL (aci ?_)
 refine YL (bF (Ys ky) ?_)
 have cU:(a.toList.take na).length=na:=by rw[YJ,Yz];lia
 have Fv:=fun Q=>j9 C (Q:=Q) (kx:=b.toList[nb - 1]) (arr:=a) (base:=0) (hint:=na - 1) (seg:=a.toList.take na) (st:=de st g) (fun i x e=>by
   rw[abQ];rw[acu] at e;split at e
   ·exact e
   ·cases e) h.mh.sa (fun x hx=>R.da x (ZJ hx)) (R.db _ (YX ky)) Fu (by rw[cU];lia)
 rw[cU] at Fv
 refine YL (Fv _ fun sR hk p1 p2 => ?_)
 dsimp only
 rw[List.take_take,aad hk] at p1
 by_cases c1:na - sR>0
 ·rw[if_pos c1]
  have m2:MH key T (a.toList.take sR) (b.toList.take nb) (out++(a.extract sR na).reverse).toList.reverse:=by
   rw[ZF,ab1,aca,List.reverse_reverse,uf]
   have m':=h.mh
   rw[qj (l:=a.toList) (n:=na) (k:=sR) (by lia)] at m'
   exact m'.stepA fun y hy x hx=>Zm (fZ h.mh.sb (by lia) ky y hy) (ZD (p2 x hx))
  by_cases c2:sR=0
  ·rw[if_pos (by simpa using c2)]
   exact YV ⟨xg,.inl ⟨_,rfl,ug m2 c2⟩⟩
  ·rw[if_neg (by simpa using c2)]
   exact z9 C R xg kd ⟨by lia,by lia,b0,b1,m2⟩ (by lia) fun hl x hx=>p1 x hx
 ·rw[if_neg c1]
  have:sR=na:=by lia
  subst this
  exact z9 C R xg kd h hn fun hl x hx=>p1 x hx
theorem Ly (C:j8 M A E s O key knd D)(R:HR key D a b){c:Ju}{st cg:YZ}(fN:∃g,st=de cg g)(kd:ZY cg=knd)(h:HI key T a b c.2.2.2.1 c.2.1 c.2.2.1)(hn:c.2.1+c.2.2.1≤n) :
  wpS M A E s (Q0 a b i c) (HS key T a b n cg) st:=by
 unfold Q0
 split
 ·exact z_ C R fN kd h hn
 ·exact z_ C R fN kd h hn
theorem Lz (C:j8 M A E s O key knd D)(R:HR key D a b){c:MT}{st:YZ}{Q:ForInStep MT→YZ→Prop}(kd:ZY st=knd)(h:HI key T a b c.2.2.2.1 c.2.1 c.2.2.1)(h1:∀d:MT,(∃r,d.1=some r∧oO key T r)∨(d.1=none∧HI key T a b d.2.2.2.1 d.2.1 d.2.2.1∧c.2.1+c.2.2.1=d.2.1+d.2.2.1+1)→Q (.done d) st)(h2:∀d:MT,d.1=none→HI key T a b d.2.2.2.1 d.2.1 d.2.2.1→c.2.1+c.2.2.1=d.2.1+d.2.2.1+1→Q (.yield d) st) :
  wpS M A E s (Q1 a b g i c) Q st:=by
 obtain⟨r0,na,nb,out,ac,bc⟩:=c
 dsimp only at h h1 h2 ⊢
 have ky:nb - 1<b.toList.length:=by have:=h.b0;have:=h.b1;rw[Yz];lia
 have ou:na - 1<a.toList.length:=by have:=h.a0;have:=h.a1;rw[Yz];lia
 have b0:=h.b0;have b1:=h.b1;have a0:=h.a0;have a1:=h.a1
 unfold Q1
 dsimp only
 refine YL (bF (Ys ky) ?_)
 refine YL (bF (Ys ou) ?_)
 refine YL (C.lt _ _ st _ (R.db _ (YX ky)) (R.da _ (YX ou)) kd ?_)
 dsimp only
 cases e:O.blt (key b.toList[nb - 1]) (key a.toList[na - 1]) with
 |true =>
  rw[if_pos rfl]
  have m:=yk h.mh a0 ou fun y hy=>Zm (fZ h.mh.sb (by lia) ky y hy) (ZD e)
  refine YL (bF (Ys ou) ?_)
  by_cases c:na - 1=0
  ·rw[if_pos (by simpa using c)]
   exact YV (h1 _ (.inl ⟨_,rfl,ug m c⟩))
  ·rw[if_neg (by simpa using c)]
   have L:HI key T a b (out.push a.toList[na - 1]) (na - 1) nb:=⟨by lia,by lia,b0,b1,m⟩
   split
   ·exact YV (h1 _ (.inr ⟨rfl,L,by simp only;lia⟩))
   ·exact YV (h2 _ rfl L (by simp only;lia))
 |false =>
  rw[if_neg Yq]
  have m:=EA h.mh (by lia) ky fun x hx=>Zm (fZ h.mh.sa a0 ou x hx) (show O.kle _ _ from e)
  refine YL (bF (Ys ky) ?_)
  by_cases c:nb - 1=1
  ·rw[if_pos (by simpa using c)]
   exact YV (h1 _ (.inl ⟨_,rfl,R.fin m c⟩))
  ·rw[if_neg (by simpa using c)]
   have L:HI key T a b (out.push b.toList[nb - 1]) na (nb - 1):=⟨a0,a1,by lia,by lia,m⟩
   split
   ·exact YV (h1 _ (.inr ⟨rfl,L,by simp only;lia⟩))
   ·exact YV (h2 _ rfl L (by simp only;lia))
theorem LA (C:j8 M A E s O key knd D)(R:HR key D a b){c:PQ}{st cg:YZ}(fN:∃g,st=de cg g)(kd:ZY cg=knd)(h:HI key T a b c.2.2.2.1 c.2.1 c.2.2.1) :
  wpS M A E s (Q2 a b i c) (fun r aE=>(∃g,aE=de cg g)∧match r with
   | .done d=>∃r,d.1=some r∧oO key T r
   | .yield d=>d.1=none∧HI key T a b d.2.2.2.1 d.2.1 d.2.2.1∧d.2.1+d.2.2.1+1≤c.2.1+c.2.2.1) st:=by
 obtain⟨r0,na,nb,out,g0⟩:=c
 dsimp only at h ⊢
 have Fu:ZY st=knd:=by obtain⟨g,rfl⟩:=fN;exact kd
 have b0:=h.b0;have b1:=h.b1;have a0:=h.a0;have a1:=h.a1
 unfold Q2
 dsimp only
 have hs:1≤a.size+b.size:=by lia
 refine YL (aa5 (Z1 (I:=fun x d aE=>aE=st∧d.1=none∧HI key T a b d.2.2.2.1 d.2.1 d.2.2.1∧na+nb=d.2.1+d.2.2.1+x)
  (Q:=fun d aE=>aE=st∧((∃r,d.1=some r∧oO key T r)∨(d.1=none∧HI key T a b d.2.2.2.1 d.2.1 d.2.2.1∧d.2.1+d.2.2.1+1≤na+nb))) ?step ?fin ⟨rfl,rfl,h,by simp only;lia⟩) ?post)
 case fin =>
  rintro d aE ⟨rfl,e1,e2,e3⟩
  exact⟨rfl,.inr ⟨e1,e2,by lia⟩⟩
 case step =>
  rintro x d aE _ hx ⟨rfl,e1,e2,e3⟩
  refine Lz C R Fu e2 (fun d' hd => ?_) fun d' p1 p2 p3 => ?_
  ·rcases hd with hd|⟨p1,p2,p3⟩
   ·exact⟨rfl,.inl hd⟩
   ·exact⟨rfl,.inr ⟨p1,p2,by lia⟩⟩
  ·exact⟨rfl,p1,p2,by lia⟩
 case post =>
  rintro d aE ⟨rfl,hd⟩
  obtain⟨dr,dna,dnb,dout,dac,dbc⟩:=d
  dsimp only at hd ⊢
  rcases hd with⟨r,rfl,hr⟩|⟨rfl,hL,hn⟩
  ·exact YV ⟨fN,r,rfl,hr⟩
  ·dsimp only
   refine YL (wpS_lift (aaU ⟨rfl,?_⟩))
   refine YL (aa5 (Z1 (I:=fun x d aE=>HE key T a b (na+nb - 1) cg d aE∧d.1=none)
    (Q:=fun d aE=>HE key T a b (na+nb - 1) cg d aE) ?_ (fun d aE h=>h.1) ⟨⟨fN,.inr ⟨rfl,hL,by simp only;lia⟩⟩,rfl⟩) ?_)
   ·rintro x d aE _ hx ⟨⟨hs',hd⟩,e1⟩
    rcases hd with⟨r,e2,_⟩|⟨_,e3,e4⟩
    ·rw[e1] at e2;cases e2
    ·refine aa5 (Ly C R hs' kd e3 e4) fun r MB hr => ?_
     cases r with
     |done d'=>exact hr
     |yield d'=>exact hr
   ·rintro d aE ⟨hs',hd⟩
    obtain⟨er,ena,enb,eout,eg,eac,ebc⟩:=d
    dsimp only at hd ⊢
    rcases hd with⟨r,rfl,hr⟩|⟨rfl,hL2,JO⟩
    ·exact YV ⟨hs',r,rfl,hr⟩
    ·dsimp only
     unfold bT
     refine YL (aci (YV ⟨?_,rfl,hL2,by simp only;lia⟩))
     obtain⟨g,rfl⟩:=hs'
     exact⟨_,rfl⟩
theorem ym (C:j8 M A E s O key knd D)(R:HR key D a b){st:YZ}{Q:Array YY→YZ→Prop}(kd:ZY st=knd)(sa:gr key a.toList)(sb:gr key b.toList)(ha:0<a.size)(hb:0<b.size)
  (last:∀i,i+1=a.size→∀y∈b.toList,∀x,a.toList[i]? = some x→O.kle (key y) (key x))
  (h:∀r g,r.toList.Perm (a.toList++b.toList)→gr key r.toList→Q r (de st g)):wpS M A E s (qi a b) Q st:=by
 have ou:a.size - 1<a.toList.length:=by rw[Yz];lia
 have ta:a.toList.take a.size=a.toList:=aaw (by simp)
 have tb:b.toList.take b.size=b.toList:=aaw (by simp)
 have m:MH key (a.toList++b.toList) (a.toList.take (a.size - 1)) (b.toList.take b.size) (#[a.toList[a.size - 1]]:Array YY).toList.reverse:=by
  have m0:MH key (a.toList++b.toList) (a.toList.take a.size) (b.toList.take b.size) (#[]:Array YY).toList.reverse:=by
   rw[ta,tb]
   exact⟨by simp,List.Pairwise.nil,sa,sb,fun x _ y hy=>absurd hy (by simp),fun x _ y hy=>absurd hy (by simp)⟩
  exact yk m0 ha ou (fun y hy=>last (a.size - 1) (by lia) y (ZJ hy) _ (Ys ou))
 have fin:∀r g,oO key (a.toList++b.toList) r→Q r (de st g):=fun r g hr=>h r g hr.1 hr.2
 rw[ud]
 refine YL (wpS_lift (aaU ⟨rfl,?_⟩))
 refine YL (bF (Ys ou) ?_)
 by_cases c:a.size - 1=0
 ·rw[if_pos (by simpa using c)]
  exact YV (fin _ (adM st) (ug m c))
 ·rw[if_neg (by simpa using c)]
  by_cases c2:b.size=1
  ·rw[if_pos (by simpa using c2)]
   exact YV (fin _ (adM st) (R.fin m c2))
  ·rw[if_neg (by simpa using c2)]
   refine YL (wpS_get ?_)
   refine YL (aa5 (Z1 (I:=fun x d aE=>(∃g,aE=de st g)∧d.1=none∧HI key (a.toList++b.toList) a b d.2.2.2.1 d.2.1 d.2.2.1∧d.2.1+d.2.2.1+x≤a.size+b.size)
    (Q:=fun d aE=>(∃g,aE=de st g)∧∃r,d.1=some r∧oO key (a.toList++b.toList) r) ?step ?fin ⟨⟨adM st,rfl⟩,rfl,⟨by simp only;lia,by simp only;lia,by simp only;lia,by simp only;lia,m⟩,by simp only;lia⟩) ?post)
   case fin =>
    rintro d aE ⟨hs',e1,e2,e3⟩
    have:=e2.a0;have:=e2.b0;lia
   case step =>
    rintro x d aE _ hx ⟨hs',e1,e2,e3⟩
    refine aa5 (LA C R hs' kd e2) fun r MB hr => ?_
    obtain⟨nO,hr⟩:=hr
    cases r with
    |done d'=>exact⟨nO,hr⟩
    |yield d'=>exact⟨nO,hr.1,hr.2.1,by have:=hr.2.2;lia⟩
   case post =>
    rintro d aE ⟨⟨g,rfl⟩,r,e,hr⟩
    obtain⟨dr,d'⟩:=d
    dsimp only at e ⊢
    subst e
    exact YV (fin r g hr)
end
end Hc.Ts
namespace Hc.Ts
noncomputable def jG (l:List YY)(sa:Nat)(a:Array YY):Array YY:=l.zipIdx.foldl (fun a (p,j)=>a.setIfInBounds (sa+j) p) a
noncomputable def LB (x y:Array YY)(sa na nb:Nat):StateT YZ Sem Bool:=do
 let merged ←if na≤nb then qg x y else qi x y
 modify fun s=>setArr s (jG merged.toList sa (Zq s))
 let s ←get
 pure (ab9 s).isNone
theorem vT (i:Nat):mergeAt' i=(do
 let st ←get
 let (some (p,n,pw),some (q,m,_)):=((Zl st)[i]?,(Zl st)[i+1]?)|adt "internal:list.sort.pending"
 set (setPending st (((Zl st).setIfInBounds i (p,n+m,pw)).eraseIdxIfInBounds (i+1)))
 let some k ←eX false (←adZ (Zq st) q) (Zq st) p n 0|return false
 let (p,n):=(p+k,n - k)
 if n==0 then return true
 let some m ←eX true (←adZ (Zq st) (p+n - 1)) (Zq st) q m (m - 1)|return false
 if m==0 then return true
 LB ((Zq st).extract p q) ((Zq st).extract q (q+m)) p n m):=by kernel_rfl
section
variable {A:Zw}{O:aei}{key:YY→O.α}{knd:acs}{D:YY→Prop}
theorem qk:∀(l m P S:List YY) (n sa:Nat) (a:Array YY),m.length=l.length→sa+n=P.length→a.toList=P++(m++S)→((l.zipIdx n).foldl (fun a (p,j)=>a.setIfInBounds (sa+j) p) a).toList=P++(l++S)
 | [],m,P,S,n,sa,a,h1,h2,h3=>by
  have:m=[]:=ZT h1
  subst this
  exact h3
 |p::l,[],P,S,n,sa,a,h1,h2,h3=>by cases h1
 |p::l,q::m,P,S,n,sa,a,h1,h2,h3=>by
  rw[List.zipIdx_cons,acv]
  have h4:(a.setIfInBounds (sa+n) p).toList=(P++[p])++(m++S):=by
   rw[adB,h3,h2,ab8,List.set_append_right _ _ (YC _),Nat.sub_self,aa6]
   simp
  have:=qk l m (P++[p]) S (n+1) sa (a.setIfInBounds (sa+n) p) (by simpa using h1) (by rw[Yu,Z0];lia) h4
  rw[this];simp
theorem BM {l m P:List YY}{sa:Nat}{a:Array YY}(h1:m.length=l.length)(h2:sa=P.length)(h3:a.toList=P++(m++S)):(jG l sa a).toList=P++(l++S) :=
 qk l m P S 0 sa a h1 (by lia) h3
theorem Ha (C:j8 M A E s O key knd D){P x y:List YY}{sa:Nat}{st:YZ}{Q:Bool→YZ→Prop}{ax ay:Array YY}{na nb:Nat}(ex:ax.toList=x)(ey:ay.toList=y)(hf:ab9 st=none)(kd:ZY st=knd)(ha:(Zq st).toList=P++((x++y)++S))(hs:sa=P.length)(dx:∀p∈x,D p)(dy:∀p∈y,D p)(sx:gr key x)(sy:gr key y)(x0:0<x.length)(y0:0<y.length)(first:∀q,y[0]? = some q→∀p∈x,O.kle (key q) (key p))(last:∀i,i+1=x.length→∀q∈y,∀p,x[i]? = some p→O.kle (key q) (key p))(h:∀z g,z.Perm (x++y)→gr key z→Q true (de (setArr st (P++(z++S)).toArray) g)):wpS M A E s (LB ax ay sa na nb) Q st:=by
 subst ex;subst ey
 have fin:∀(r:Array YY) (g:Nat),r.toList.Perm (ax.toList++ay.toList)→gr key r.toList→wpS M A E s (do
   modify fun s=>setArr s (jG r.toList sa (Zq s))
   let s ←get
   pure (ab9 s).isNone) Q (de st g):=by
  intro r g hp hr
  refine YL (aci ?_)
  refine YL (wpS_get (YV ?_))
  have e1:jG r.toList sa (Zq st)=(P++(r.toList++S)).toArray:=by
   apply Array.ext'
   rw[BM (m:=ax.toList++ay.toList) hp.length_eq.symm hs ha]
  have e2:(ab9 (setArr (de st g) (jG r.toList sa (Zq (de st g))))).isNone=true:=by
   show (ab9 st).isNone=true
   rw[hf];rfl
  rw[e2]
  have e3:setArr (de st g) (jG r.toList sa (Zq (de st g)))=de (setArr st (P++(r.toList++S)).toArray) g:=by
   rw[←e1]
  rw[e3]
  exact h r.toList g hp hr
 unfold LB
 dsimp only
 split
 ·refine YL ?_
  exact yj C ⟨dx,dy,fun i hi=>last i (by rw[Yz];exact hi)⟩ kd sx sy (by simpa using x0) (by simpa using y0) first fin
 ·refine YL ?_
  exact ym C ⟨dx,dy,first⟩ kd sx sy (by simpa using x0) (by simpa using y0) (fun i hi=>last i (by rw[Yz];exact hi)) fin
theorem Hb {σ:Type}{st aE:σ}{Q:PUnit→σ→Prop}(h:Q ⟨⟩ aE):wpS M A E s (set aE:StateT σ Sem PUnit) Q st:=by
 unfold wpS;rw[StateT.run_set];exact Yr ⟨rfl,h⟩
theorem uh {l P x R:List YY}(h:l=P++(x++R))(i:Nat)(p:YY)(e:x[i]? = some p):l[P.length+i]? = some p:=by
 have hi:i<x.length:=by
  rcases acj i x.length with h|h
  ·exact h
  ·rw[acV h] at e;cases e
 rw[h,ZR (aaM _ _),aas,Z7 hi,e]
noncomputable def su (p:Array (Nat×Nat×Nat))(i sa n pw:Nat):Array (Nat×Nat×Nat):=(p.setIfInBounds i (sa,n,pw)).eraseIdxIfInBounds (i+1)
theorem yn (C:j8 M A E s O key knd D){P x y:List YY}{pw pw2:Nat}{st:YZ}{Q:Bool→YZ→Prop}(hf:ab9 st=none)(kd:ZY st=knd)(ha:(Zq st).toList=P++(x++(y++S)))(h1:(Zl st)[i]? = some (P.length,x.length,pw))(h2:(Zl st)[i+1]? = some (P.length+x.length,y.length,pw2))(dx:∀p∈x,D p)(dy:∀p∈y,D p)(sx:gr key x)(sy:gr key y)(x0:0<x.length)(y0:0<y.length)(h:∀z g,z.Perm (x++y)→gr key z→Q true (de (setArr (setPending st (su (Zl st) i P.length (x.length+y.length) pw)) (P++(z++S)).toArray) g)):wpS M A E s (mergeAt' i) Q st:=by
 have all:∀(hz:gr key (x++y)),Q true (setPending st (su (Zl st) i P.length (x.length+y.length) pw)):=by
  intro hz
  have:=h (x++y) (adM st) (aao _) hz
  have e:(P++(x++y++S)).toArray=Zq st:=by
   apply Array.ext';rw[ha,YW]
  rw[e] at this
  exact this
 have M4:(Zq st).toList=(P++x)++(y++S):=by rw[ha,YW]
 rw[vT]
 refine YL (wpS_get ?_)
 rw[h1,h2]
 dsimp only
 refine YL (Hb ?_)
 have ey:(Zq st).toList[P.length+x.length]? = some y[0]:=by
  have:=uh M4 0 y[0] (Ys y0)
  rw[Yu] at this;exact this
 refine YL (bF ey ?_)
 refine YL (j9 C (seg:=x) (fun i p e=>uh ha i p e) sx dx (dy _ (YX y0)) kd x0 fun k hk p1 p2 => ?_)
 dsimp only
 have yh:∀q∈y,O.kle (key y[0]) (key q):=by
  have:=jj (l:=y) (i:=0) (key:=key) (by simpa using sy) y0
  simpa using this
 by_cases c:x.length - k=0
 ·rw[if_pos (by simpa using c)]
  refine YV (all ?_)
  have:x.take k=x:=aaw (by lia)
  rw[this] at p1
  exact bw.mpr ⟨sx,sy,fun p hp q hq=>Zm (p1 p hp) (yh q hq)⟩
 ·rw[if_neg (by simpa using c)]
  have P_:x.length - 1<x.length:=by lia
  have WA:(Zq st).toList[P.length+k+(x.length - k) - 1]? = some x[x.length - 1]:=by
   have:=uh ha (x.length - 1) _ (Ys P_)
   rw[show P.length+k+(x.length - k) - 1=P.length+(x.length - 1) by lia];exact this
  refine YL (bF WA ?_)
  refine YL (j_ C (seg:=y) (fun i p e=>by have:=uh M4 i p e;rw[Yu] at this;exact this) sy dy (dx _ (YX P_)) kd (by lia) fun nb WB q1 q2 => ?_)
  dsimp only
  have JY:∀p∈x,O.kle (key p) (key x[x.length - 1]):=by
   have:=fZ (l:=x) (n:=x.length) (key:=key) (by rw[ZU];exact sx) x0 P_
   rw[ZU] at this;exact this
  by_cases c2:nb=0
  ·rw[if_pos (by simpa using c2)]
   refine YV (all ?_)
   subst c2
   exact bw.mpr ⟨sx,sy,fun p hp q hq=>Zm (JY p hp) (q2 q hq)⟩
  ·rw[if_neg (by simpa using c2)]
   have xs:x=x.take k++x.drop k:=(Zz k x).symm
   have ys:y=y.take nb++y.drop nb:=(Zz nb y).symm
   obtain⟨sx1,sx2,sx3⟩:=bw.mp (xs▸sx)
   obtain⟨sy1,sy2,sy3⟩:=bw.mp (ys▸sy)
   refine Ha C (P:=P++x.take k) (x:=x.drop k) (y:=y.take nb) (S:=y.drop nb++S) ?ex ?ey hf kd ?ha ?hs (fun p hp=>dx p (ZW hp)) (fun p hp=>dy p (ZJ hp)) sx2 sy1 (by rw[Y1];lia) (by rw[YJ];lia) ?first ?last fun z g hz sz => ?_
   case ex =>
    rw[uf,M4]
    rw[show P.length+x.length=(P++x).length by rw[Yu]]
    rw[List.take_left,List.drop_append,abF (by lia),aas];rfl
   case ey =>
    rw[uc,M4]
    rw[show P.length+x.length=(P++x).length by rw[Yu],List.drop_left,List.take_append_of_le_length WB]
   case ha =>
    show (Zq st).toList=_
    rw[ha]
    conv=>lhs;rw[xs,ys]
    simp only[YW]
   case hs=>rw[Yu,YJ];lia
   case first =>
    intro q hq p hp
    have:(y.take nb)[0]? = y[0]? := by rw[acu,if_pos (by lia)]
    rw[this,Ys y0] at hq
    injection hq with hq
    subst hq
    exact ZD (p2 p hp)
   case last =>
    intro i hi q hq p hp
    rw[Y1] at hi
    rw[adN,show k+i=x.length - 1 by lia,Ys P_] at hp
    injection hp with hp
    subst hp
    exact ZD (q1 q hq)
   have mz:∀r∈z,r∈x.drop k∨r∈y.take nb:=fun r hr=>Y4.mp (hz.mem_iff.mp hr)
   have WC:(x.take k++(z++y.drop nb)).Perm (x++y):=by
    have e:x++y=x.take k++((x.drop k++y.take nb)++y.drop nb):=by
     conv=>lhs;rw[xs,ys]
     simp only[YW]
    rw[e]
    exact aal _ (Z6 _ hz)
   have WD:gr key (x.take k++(z++y.drop nb)):=by
    refine bw.mpr ⟨sx1,bw.mpr ⟨sz,sy2,fun p hp q hq => ?_⟩,fun p hp q hq => ?_⟩
    ·rcases mz p hp with hp|hp
     ·exact Zm (JY p (ZW hp)) (q2 q hq)
     ·exact sy3 p hp q hq
    ·rcases Y4.mp hq with hq|hq
     ·rcases mz q hq with hq|hq
      ·exact sx3 p hp q hq
      ·exact Zm (p1 p hp) (yh q (ZJ hq))
     ·exact Zm (p1 p hp) (yh q (ZW hq))
   have:=h _ g WC WD
   have e:P++(x.take k++(z++y.drop nb)++S)=P++x.take k++(z++(y.drop nb++S)):=by simp only[YW]
   rw[e] at this
   exact this
end
end Hc.Ts
namespace Hc.Ts
noncomputable def Aa (lo n m:Nat):StateT YZ Sem AscSt:=forIn [n:m] ((none,n):AscSt) fun _ c=>do
 let some sm ←ltAt' (lo+c.2) (lo+c.2 - 1)|pure (.done (some none,c.2))
 if sm=true then pure (.done (none,c.2)) else pure (.yield (none,c.2+1))
noncomputable def Ab (lo n m:Nat):StateT YZ Sem (Option Nat):=do
 adb lo (lo+n)
 let c ←Aa lo n m
 match c.1 with
 |some r=>pure r
 |none=>pure (some c.2)
noncomputable def Jv (lo:Nat)(c:DescSt):StateT YZ Sem (ForInStep DescSt):=do
 let some sm ←ltAt' (lo+c.2.1) (lo+c.2.1 - 1)|pure (.done (some none,c.2.1,c.2.2))
 if sm=true then
  if c.2.2>0 then do
   adb (lo+c.2.1 - (c.2.2+1)) (lo+c.2.1)
   pure (.yield (none,c.2.1+1,0))
  else pure (.yield (none,c.2.1+1,0))
 else do
  let some lg ←ltAt' (lo+c.2.1 - 1) (lo+c.2.1)|pure (.done (some none,c.2.1,c.2.2))
  if lg=true then pure (.done (none,c.2.1,c.2.2)) else pure (.yield (none,c.2.1+1,c.2.2+1))
noncomputable def EB (lo n m:Nat):StateT YZ Sem DescSt:=forIn [n:m] ((none,n,0):DescSt) fun _ c=>Jv lo c
noncomputable def Ac (lo n m:Nat):StateT YZ Sem (Option Nat):=do
 liftM (rule "list.sort.descending-run")
 let c ←EB lo (n+1) m
 match c.1 with
 |some r=>pure r
 |none =>
  if c.2.2>0 then do
   adb (lo+c.2.1 - (c.2.2+1)) (lo+c.2.1)
   Ab lo c.2.1 m
  else Ab lo c.2.1 m
theorem vU (lo m:Nat):countRun' lo m=(do
  let c ←Aa lo 1 m
  match c.1 with
  |some r=>pure r
  |none =>
   if (c.2==m)=true then pure (some c.2)
   else if c.2>1 then do
    let some rs ←ltAt' lo (lo+c.2 - 1)|pure none
    if rs=true then pure (some c.2)
    else do
     adb lo (lo+c.2)
     Ac lo c.2 m
   else Ac lo c.2 m):=by kernel_rfl
section
variable {A:Zw}{O:aei}{key:YY→O.α}{knd:acs}{D:YY→Prop}{lo:Nat}{a0:Array YY}{cg:YZ}
noncomputable def kx (key:YY→O.α)(l:Array YY)(i:Nat):O.α:=key ((l[i]?).getD (Value.none,Value.none))
theorem vV {l m:Array YY}(h:l[i]? = m[j]?):kx key l i=kx key m j:=by unfold kx;rw[h]
theorem yo {l:Array YY}(hm:lo+m≤l.size)(k:Nat):kx key (mirror l (lo+n) (lo+m) ((lo+m - (lo+n)) / 2)) (lo+k)=if n≤k∧k<m then kx key l (lo+(n+m - 1 - k)) else kx key l (lo+k):=by
 have e:=getElem?_mirror_all (i:=lo+n) hm (lo+k)
 by_cases c:n≤k∧k<m
 ·rw[if_pos (by lia)] at e;rw[if_pos c];exact vV (e.trans (by congr 1;lia))
 ·rw[if_neg (by lia)] at e;rw[if_neg c];exact vV e
theorem fh {l:Array YY}(hm:lo+m≤l.size)(he:∀k,n≤k→k<m→kx key l (lo+k)=kx key l (lo+m - 1))(k:Nat):kx key (mirror l (lo+n) (lo+m) ((lo+m - (lo+n)) / 2)) (lo+k)=kx key l (lo+k):=by
 rw[yo hm]
 split
 ·rename_i c
  rw[he _ (by lia) (by lia),he k c.1 c.2]
 ·rfl
theorem EC {l:Array YY}{p d:Nat}(hp:lo+p<l.size)(hd:d≤p)(k:Nat):kx key (bubble l (lo+p) d) (lo+k)=if k=p - d then kx key l (lo+p) else if p - d<k∧k≤p then kx key l (lo+(k - 1)) else kx key l (lo+k):=by
 have e:=getElem?_bubble hp d (by lia) (lo+k)
 by_cases c:k=p - d
 ·rw[if_pos (by lia)] at e;rw[if_pos c];exact vV e
 ·rw[if_neg (by lia)] at e;rw[if_neg c]
  by_cases c2:p - d<k∧k≤p
  ·rw[if_pos (by lia)] at e;rw[if_pos c2];exact vV (e.trans (by congr 1;lia))
  ·rw[if_neg (by lia)] at e;rw[if_neg c2];exact vV e
noncomputable def Cd (key:YY→O.α)(lo:Nat)(l:Array YY)(n:Nat):Prop:=∀i j,i≤j→j<n→O.kle (kx key l (lo+i)) (kx key l (lo+j))
noncomputable def MU (key:YY→O.α)(lo:Nat)(l:Array YY)(n:Nat):Prop:=∀i j,i≤j→j<n→O.kle (kx key l (lo+j)) (kx key l (lo+i))
structure SB (lo:Nat)(a0:Array YY)(cg st:YZ):Prop where
 perm:(Zq st).Perm a0
 same:∀k,k<lo→(Zq st)[k]? = a0[k]?
 rest:st=setArr cg (Zq st)
theorem SB.size {st:YZ}(h:SB lo a0 cg st):(Zq st).size=a0.size:=h.perm.size_eq
theorem SB.put {st:YZ}(h:SB lo a0 cg st){l:Array YY}(hp:l.Perm (Zq st))(hs:∀k,k<lo→l[k]? = (Zq st)[k]?):SB lo a0 cg (setArr st l):=by
 refine⟨hp.trans h.perm,fun k hk=>(hs k hk).trans (h.same k hk),?_⟩
 have:=h.rest
 generalize Zq st=z at this
 subst this
 rfl
theorem SB.mir {st:YZ}(h:SB lo a0 cg st)(hm:lo+m≤a0.size):SB lo a0 cg (setArr st (mirror (Zq st) (lo+n) (lo+m) ((lo+m - (lo+n)) / 2))):=by
 refine h.put (mirror_perm _ _ _ _) fun k hk => ?_
 rw[getElem?_mirror_all (by rw[h.size];exact hm),if_neg (by lia)]
theorem SB.bub {st:YZ}(h:SB lo a0 cg st){p d:Nat}(hp:lo+p<a0.size)(hd:d≤p):SB lo a0 cg (setArr st (bubble (Zq st) (lo+p) d)):=by
 refine h.put (bubble_perm _ _ _) fun k hk => ?_
 rw[getElem?_bubble (by rw[h.size];exact hp) d (by lia),if_neg (by lia),if_neg (by lia)]
theorem SB.kind {st:YZ}(h:SB lo a0 cg st)(kd:ZY cg=knd):ZY st=knd:=by rw[h.rest];exact kd
theorem ql (C:j8 M A E s O key knd D){st:YZ}{Q:Option Bool→YZ→Prop}(kd:ZY cg=knd)(hD:∀p∈a0.toList,D p)(hB:SB lo a0 cg st)(hi:i<a0.size)(hj:j<a0.size)(h:Q (some (O.blt (kx key (Zq st) i) (kx key (Zq st) j))) st):wpS M A E s (ltAt' i j) Q st:=by
 have fd:∀i,i<a0.size→∃p,(Zq st)[i]? = some p∧D p∧kx key (Zq st) i=key p:=fun i hi=>by
  have O8:i<(Zq st).size:=by rw[hB.size];exact hi
  refine⟨(Zq st)[i],getElem?_pos _ i O8,hD _ ((adC.mp hB.perm).mem_iff.mp (by simp)),?_⟩
  unfold kx;rw[getElem?_pos _ i O8];rfl
 obtain⟨p,e1,d1,k1⟩:=fd i hi
 obtain⟨q,e2,d2,k2⟩:=fd j hj
 rw[k1,k2] at h
 rw[ltAt'_eq]
 refine YL (wpS_get ?_)
 dsimp only
 rw[elem'_eq,elem'_eq,e1,e2]
 refine YL (YV (YL (YV ?_)))
 exact C.lt p q st Q d1 d2 (hB.kind kd) h
theorem ui {st:YZ}{Q:Unit→YZ→Prop}(h:Q () (setArr st (mirror (Zq st) i j ((j - i) / 2)))):wpS M A E s (adb i j) Q st:=by
 rw[reverseSlice'_eq];exact aci h
theorem vW (C:j8 M A E s O key knd D){st:YZ}{Q:AscSt→YZ→Prop}(kd:ZY cg=knd)(hD:∀p∈a0.toList,D p)(hm:lo+m≤a0.size)(n1:1≤n)(nm:n≤m)(hB:SB lo a0 cg st)(ha:Cd key lo (Zq st) n)(h:∀r,n≤r→r≤m→Cd key lo (Zq st) r→(r=m∨O.klt (kx key (Zq st) (lo+r)) (kx key (Zq st) (lo+r - 1)))→Q (none,r) st):wpS M A E s (Aa lo n m) Q st:=by
 unfold Aa
 refine Z1 (I:=fun x c aE=>aE=st∧c=(none,x)∧Cd key lo (Zq st) x) ?go ?out ⟨rfl,rfl,ha⟩
 case out =>
  rintro c aE ⟨rfl,rfl,Cf⟩
  have e:max n m=m:=by lia
  rw[e] at Cf ⊢
  exact h m nm (YC _) Cf (.inl rfl)
 case go =>
  rintro x c aE h1 h2 ⟨rfl,rfl,Cf⟩
  dsimp only
  refine YL (ql C kd hD hB (by lia) (by lia) ?_)
  dsimp only
  cases e:O.blt (kx key (Zq aE) (lo+x)) (kx key (Zq aE) (lo+x - 1)) with
  |true =>
   rw[if_pos rfl]
   exact YV (h x h1 (by lia) Cf (.inr e))
  |false =>
   rw[if_neg Yq]
   refine YV ⟨rfl,rfl,fun i j rE hj => ?_⟩
   by_cases c1:j<x
   ·exact Cf i j rE c1
   ·have:j=x:=by lia
    subst this
    by_cases c2:i=j
    ·subst c2;exact aae _
    ·have:=Cf i (j - 1) (by lia) (by lia)
     rw[show lo+(j - 1)=lo+j - 1 by lia] at this
     exact Zm this e
theorem vX (C:j8 M A E s O key knd D){st:YZ}{Q:Option Nat→YZ→Prop}(kd:ZY cg=knd)(hD:∀p∈a0.toList,D p)(hm:lo+m≤a0.size)(n1:1≤n)(nm:n≤m)(hB:SB lo a0 cg st)(hd:MU key lo (Zq st) n)(h:∀r aE,SB lo a0 cg aE→1≤r→r≤m→Cd key lo (Zq aE) r→Q (some r) aE):wpS M A E s (Ab lo n m) Q st:=by
 unfold Ab
 refine YL (ui ?_)
 have M5:=hB.mir (n:=0) (m:=n) (by lia)
 have hz:lo+n≤(Zq st).size:=by rw[hB.size];lia
 rw[Nat.add_zero] at M5
 refine YL (vW C kd hD hm n1 nm M5 (fun i j rE hj => ?_) fun r r1 r2 r3 _=>YV (h r _ M5 (by lia) r2 r3))
 have e1:=yo (key:=key) (lo:=lo) (n:=0) hz i
 have e2:=yo (key:=key) (lo:=lo) (n:=0) hz j
 rw[Nat.add_zero,if_pos (by lia)] at e1 e2
 rw[e1,e2]
 exact hd _ _ (by lia) (by lia)
theorem ED (C:j8 M A E s O key knd D){st:YZ}{Q:DescSt→YZ→Prop}(kd:ZY cg=knd)(hD:∀p∈a0.toList,D p)(hm:lo+m≤a0.size)(n1:1≤n)(nm:n≤m)(hB:SB lo a0 cg st)(hd:MU key lo (Zq st) n)(h:∀r q aE,SB lo a0 cg aE→n≤r→r≤m→MU key lo (Zq aE) r→q+1≤r→(∀i,r - (q+1)≤i→i<r→kx key (Zq aE) (lo+i)=kx key (Zq aE) (lo+r - 1))→Q (none,r,q) aE):wpS M A E s (EB lo n m) Q st:=by
 unfold EB
 refine Z1 (I:=fun x c aE=>∃q,c=(none,x,q)∧SB lo a0 cg aE∧MU key lo (Zq aE) x∧q+1≤x∧∀i,x - (q+1)≤i→i<x→kx key (Zq aE) (lo+i)=kx key (Zq aE) (lo+x - 1)) ?go ?out
  ⟨0,rfl,hB,hd,by lia,fun i a1 a2=>by congr 1;lia⟩
 case out =>
  rintro c aE ⟨q,rfl,b1,b2,b3,b4⟩
  have e:max n m=m:=by lia
  rw[e] at b2 b3 b4 ⊢
  exact h m q aE b1 nm (YC _) b2 b3 b4
 case go =>
  rintro x c aE h1 h2 ⟨q,rfl,b1,b2,b3,b4⟩
  have hz:lo+x≤(Zq aE).size:=by rw[b1.size];lia
  unfold Jv
  dsimp only
  refine YL (ql C kd hD b1 (by lia) (by lia) ?_)
  dsimp only
  cases e:O.blt (kx key (Zq aE) (lo+x)) (kx key (Zq aE) (lo+x - 1)) with
  |true =>
   rw[if_pos rfl]
   have nx:∀l:Array YY,(∀k,kx key l (lo+k)=kx key (Zq aE) (lo+k))→MU key lo l (x+1):=by
    intro l hl i j rE hj
    rw[hl,hl]
    by_cases c1:j<x
    ·exact b2 i j rE c1
    ·have:j=x:=by lia
     subst this
     by_cases c2:i=j
     ·subst c2;exact aae _
     ·have:=b2 i (j - 1) (by lia) (by lia)
      rw[show lo+(j - 1)=lo+j - 1 by lia] at this
      exact Zm (ZD e) this
   by_cases c:q>0
   ·rw[if_pos c]
    refine YL (ui ?_)
    have e3:lo+x - (q+1)=lo+(x - (q+1)):=by lia
    rw[e3]
    refine YV ⟨0,rfl,b1.mir (by lia),nx _ (fh hz b4),by lia,fun i a1 a2 => ?_⟩
    congr 1;lia
   ·rw[if_neg c]
    exact YV ⟨0,rfl,b1,nx _ (fun _=>rfl),by lia,fun i a1 a2=>by congr 1;lia⟩
  |false =>
   rw[if_neg Yq]
   refine YL (ql C kd hD b1 (by lia) (by lia) ?_)
   dsimp only
   cases e2:O.blt (kx key (Zq aE) (lo+x - 1)) (kx key (Zq aE) (lo+x)) with
   |true =>
    rw[if_pos rfl]
    exact YV (h x q aE b1 h1 (by lia) b2 b3 b4)
   |false =>
    rw[if_neg Yq]
    have eq:kx key (Zq aE) (lo+x)=kx key (Zq aE) (lo+x - 1):=KeyOrd.kle_antisymm e2 e
    refine YV ⟨q+1,rfl,b1,fun i j rE hj => ?_,by lia,fun i a1 a2 => ?_⟩
    ·by_cases c1:j<x
     ·exact b2 i j rE c1
     ·have:j=x:=by lia
      subst this
      by_cases c2:i=j
      ·subst c2;exact aae _
      ·rw[eq]
       have:=b2 i (j - 1) (by lia) (by lia)
       rw[show lo+(j - 1)=lo+j - 1 by lia] at this
       exact this
    ·rw[show lo+(x+1) - 1=lo+x by lia]
     by_cases c1:i=x
     ·subst c1;rfl
     ·rw[eq];exact b4 i (by lia) (by lia)
theorem vY (C:j8 M A E s O key knd D){st:YZ}{Q:Option Nat→YZ→Prop}(kd:ZY cg=knd)(hD:∀p∈a0.toList,D p)(hm:lo+m≤a0.size)(nm:n+1≤m)(hB:SB lo a0 cg st)(hd:MU key lo (Zq st) (n+1))(h:∀r aE,SB lo a0 cg aE→1≤r→r≤m→Cd key lo (Zq aE) r→Q (some r) aE):wpS M A E s (Ac lo n m) Q st:=by
 unfold Ac
 refine YL (wpS_lift (aaU ⟨rfl,?_⟩))
 refine YL (ED C kd hD hm (by lia) nm hB hd fun r q aE b1 r1 r2 b2 b3 b4 => ?_)
 dsimp only
 have hz:lo+r≤(Zq aE).size:=by rw[b1.size];lia
 by_cases c:q>0
 ·rw[if_pos c]
  refine YL (ui ?_)
  have e3:lo+r - (q+1)=lo+(r - (q+1)):=by lia
  rw[e3]
  refine vX C kd hD hm (by lia) r2 (b1.mir (by lia)) (fun i j rE hj => ?_) h
  have e1:=fh (key:=key) hz b4 i
  have e2:=fh (key:=key) hz b4 j
  rw[e1,e2]
  exact b2 i j rE hj
 ·rw[if_neg c]
  exact vX C kd hD hm (by lia) r2 b1 b2 h
theorem vZ (C:j8 M A E s O key knd D){st:YZ}{Q:Option Nat→YZ→Prop}(kd:ZY cg=knd)(hD:∀p∈a0.toList,D p)(hm:lo+m≤a0.size)(m1:1≤m)(hB:SB lo a0 cg st)(h:∀r aE,SB lo a0 cg aE→1≤r→r≤m→Cd key lo (Zq aE) r→Q (some r) aE):wpS M A E s (countRun' lo m) Q st:=by
 rw[vU]
 refine YL (vW C kd hD hm (YC 1) m1 hB (fun i j rE hj=>by rw[show i=j by lia];exact aae _) fun n n1 n2 ha ho => ?_)
 dsimp only
 by_cases c:n=m
 ·rw[if_pos (by simpa using c)]
  exact YV (h n st hB n1 n2 ha)
 ·rw[if_neg (by simpa using c)]
  have hl:=ho.resolve_left c
  by_cases c2:n>1
  ·rw[if_pos c2]
   refine YL (ql C kd hD hB (by lia) (by lia) ?_)
   dsimp only
   cases e:O.blt (kx key (Zq st) lo) (kx key (Zq st) (lo+n - 1)) with
   |true =>
    rw[if_pos rfl]
    exact YV (h n st hB n1 n2 ha)
   |false =>
    rw[if_neg Yq]
    have hz:lo+n≤(Zq st).size:=by rw[hB.size];lia
    have al:∀k,0≤k→k<n→kx key (Zq st) (lo+k)=kx key (Zq st) (lo+n - 1):=by
     intro k _ hk
     have p1:=ha 0 k (by lia) hk
     have p2:=ha k (n - 1) (by lia) (by lia)
     rw[show lo+(n - 1)=lo+n - 1 by lia] at p2
     exact KeyOrd.kle_antisymm p2 (Zm (show O.kle _ (kx key (Zq st) lo) from e) p1)
    refine YL (ui ?_)
    have M5:=hB.mir (n:=0) (m:=n) (by lia)
    rw[Nat.add_zero] at M5
    refine vY C kd hD hm (by lia) M5 (fun i j rE hj => ?_) h
    have e1:=fh (key:=key) (n:=0) hz al i
    have e2:=fh (key:=key) (n:=0) hz al j
    rw[Nat.add_zero] at e1 e2
    rw[e1,e2]
    by_cases c3:j<n
    ·rw[al i (by lia) (by lia),al j (by lia) c3];exact aae _
    ·have:j=n:=by lia
     subst this
     by_cases c4:i=j
     ·subst c4;exact aae _
     ·rw[al i (by lia) (by lia)];exact ZD hl
  ·rw[if_neg c2]
   have:n=1:=by lia
   subst this
   refine vY C kd hD hm (by lia) hB (fun i j rE hj => ?_) h
   by_cases c4:i=j
   ·subst c4;exact aae _
   ·have RP:i=0:=by lia
    have WE:j=1:=by lia
    subst RP;subst WE
    exact ZD hl
theorem yp (C:j8 M A E s O key knd D){st:YZ}{ok:Nat}{Q:Bool→YZ→Prop}(kd:ZY cg=knd)(hD:∀p∈a0.toList,D p)(hn:lo+n≤a0.size)(hok:ok≤n)(hB:SB lo a0 cg st)(ha:Cd key lo (Zq st) ok)(h:∀aE,SB lo a0 cg aE→Cd key lo (Zq aE) n→Q true aE):wpS M A E s (binarySort' lo n ok) Q st:=by
 rw[binarySort'_eq]
 refine YL (aa5 (Z1 (I:=fun k c aE=>c=(none,())∧SB lo a0 cg aE∧Cd key lo (Zq aE) (min k n))
  (Q:=fun c aE=>c=(none,())∧SB lo a0 cg aE∧Cd key lo (Zq aE) n) ?go ?out ?sR) ?end_)
 case end_ =>
  rintro c aE ⟨rfl,b1,b2⟩
  exact YV (h aE b1 b2)
 case sR =>
  refine⟨rfl,hB,fun i j rE hj => ?_⟩
  by_cases c:ok=0
  ·rw[show i=j by lia];exact aae _
  ·exact ha i j rE (by lia)
 case out =>
  rintro c aE ⟨e,b1,b2⟩
  have e2:min (max (max ok 1) n) n=n:=by lia
  rw[e2] at b2
  exact⟨e,b1,b2⟩
 case go =>
  rintro k c yU JX RU ⟨rfl,b1,b2⟩
  have e1:min k n=k:=by lia
  rw[e1] at b2
  have hk:lo+k<a0.size:=by lia
  refine YL (aa5 (Z1 (I:=fun x c jL=>jL=yU∧∃l r,c=(none,l,r)∧l≤r∧r≤k∧r - l≤k - x ∧
    (∀i,i<l→O.kle (kx key (Zq yU) (lo+i)) (kx key (Zq yU) (lo+k)))∧∀i,r≤i→i<k→O.klt (kx key (Zq yU) (lo+k)) (kx key (Zq yU) (lo+i)))
   (Q:=fun c jL=>jL=yU∧∃l,c=(none,l,l)∧l≤k∧(∀i,i<l→O.kle (kx key (Zq yU) (lo+i)) (kx key (Zq yU) (lo+k)))∧∀i,l≤i→i<k→O.klt (kx key (Zq yU) (lo+k)) (kx key (Zq yU) (lo+i))) ?P2 ?out2 ?RQ) ?end2)
  case RQ=>exact⟨rfl,0,k,rfl,by lia,by lia,by lia,fun i hi=>by lia,fun i a1 a2=>by lia⟩
  case out2 =>
   rintro c jL ⟨rfl,l,r,rfl,q1,q2,q3,q4,q5⟩
   have:l=r:=by lia
   subst this
   exact⟨rfl,l,rfl,q2,q4,q5⟩
  case P2 =>
   rintro x c jL _ hx ⟨rfl,l,r,rfl,q1,q2,q3,q4,q5⟩
   dsimp only
   by_cases c:l≥r
   ·rw[if_pos c]
    have:l=r:=by lia
    subst this
    exact YV ⟨rfl,l,rfl,q2,q4,q5⟩
   ·rw[if_neg c]
    refine YL (ql C kd hD b1 hk (by lia) ?_)
    cases e:O.blt (kx key (Zq jL) (lo+k)) (kx key (Zq jL) (lo+(l+r) / 2)) with
    |true =>
     simp only[if_true]
     exact YV ⟨rfl,l,(l+r) / 2,rfl,by lia,by lia,by lia,q4,fun i a1 a2=>KeyOrd.klt_of_klt_of_kle e (b2 _ _ a1 a2)⟩
    |false =>
     simp only[ZE,if_false]
     exact YV ⟨rfl,(l+r) / 2+1,r,rfl,by lia,by lia,by lia,fun i a1=>Zm (b2 i ((l+r) / 2) (by lia) (by lia)) (show O.kle _ _ from e),q5⟩
  case end2 =>
   rintro c jL ⟨rfl,l,rfl,q2,q4,q5⟩
   dsimp only
   rw[moveDown'_eq]
   have e2:lo+k - (lo+l)=k - l:=by lia
   refine YL (aci (YV ⟨rfl,?_,?_⟩))
   ·rw[e2];exact b1.bub hk (by lia)
   ·rw[show min (k+1) n=k+1 by lia]
    have hz:lo+k<(Zq jL).size:=by rw[b1.size];exact hk
    intro i j rE hj
    show O.kle (kx key (bubble (Zq jL) (lo+k) (lo+k - (lo+l))) (lo+i)) (kx key (bubble (Zq jL) (lo+k) (lo+k - (lo+l))) (lo+j))
    rw[e2,EC hz (by lia),EC hz (by lia),show k - (k - l)=l by lia]
    repeat' split
    all_goals first
     | (exfalso;lia)
     |exact aae _
     |exact q4 _ (by lia)
     |exact ZD (q5 _ (by lia) (by lia))
     |exact b2 _ _ (by lia) (by lia)
end
end Hc.Ts
namespace Hc.Ts
noncomputable def uj (lo n:Nat):StateT YZ Sem (ForInStep (Option Unit×Nat)):=do
 modify fun st=>setPending st ((Zl st).push (lo,n,0))
 pure (.yield (none,lo+n))
noncomputable def Q3 (pw:Nat)(_:Nat)(_:Option Unit×Unit):StateT YZ Sem (ForInStep (Option Unit×Unit)):=do
 let st ←get
 let some (_,_,FE):=(if (Zl st).size>1 then (Zl st)[(Zl st).size - 2]? else none)|pure (.done (none,()))
 if FE≤pw then pure (.done (none,())) else do
  let r ←mergeAt' ((Zl st).size - 2)
  if (!r)=true then pure (.done (some (),())) else pure (.yield (none,()))
noncomputable def Q4 (pw:Nat)(st:YZ):YZ:=setPending st ((Zl st).modify ((Zl st).size - 1) fun x=>match x with|(p,n,_)=>(p,n,pw))
noncomputable def Jw (size lo n pw:Nat):StateT YZ Sem (ForInStep (Option Unit×Nat)):=do
 let c ←forIn [0:size] ((none,()):Option Unit×Unit) (Q3 pw)
 match c.1 with
 |some r=>pure (.done (some r,lo))
 |none=>do
  modify (Q4 pw)
  uj lo n
noncomputable def PR (size lo n:Nat):StateT YZ Sem (ForInStep (Option Unit×Nat)):=do
 let st ←get
 let some (p1,n1,_):=(Zl st).back? | uj lo n
 Jw size lo n (power' size (2*p1+n1) (2*p1+n1+n1+n) size)
noncomputable def Q5 (size mP:Nat)(_:Nat)(c:Option Unit×Nat):StateT YZ Sem (ForInStep (Option Unit×Nat)) :=
 if c.2≥size then pure (.done (none,c.2)) else do
  let some n ←countRun' c.2 (size - c.2)|pure (.done (some (),c.2))
  if n<mP then do
   liftM (rule "list.sort.binary-insertion")
   let r ←binarySort' c.2 (min (size - c.2) mP) n
   if (!r)=true then pure (.done (some (),c.2)) else PR size c.2 (min (size - c.2) mP)
  else PR size c.2 n
noncomputable def Q7 (p:Array (Nat×Nat×Nat)):Nat :=
 if Option.any (fun x=>decide (x<(p[p.size - 2+1]?).elim 0 fun x=>x.2.1)) (if p.size - 2>0 then Option.map (fun x=>x.2.1) p[p.size - 2 - 1]? else none)=true then p.size - 2 - 1 else p.size - 2
noncomputable def UY (_:Nat)(_:Option Unit×Unit):StateT YZ Sem (ForInStep (Option Unit×Unit)):=do
 let st ←get
 if (Zl st).size≤1 then pure (.done (none,())) else do
  let r ←mergeAt' (Q7 (Zl st))
  if (!r)=true then pure (.done (some (),())) else pure (.yield (none,()))
theorem uk:sortRuns'=(do
  let st ←get
  let c ←forIn [0:(Zq st).size] ((none,0):Option Unit×Nat) (Q5 (Zq st).size (minRun' (Zq st).size (Zq st).size 0))
  match c.1 with
  |some r=>pure r
  |none=>do
   let d ←forIn [0:(Zq st).size] ((none,()):Option Unit×Unit) UY
   match d.1 with
   |some r=>pure r
   |none=>pure ()):=by kernel_rfl
section
variable {A:Zw}{O:aei}{key:YY→O.α}{knd:acs}{D:YY→Prop}
noncomputable def qm (key:YY→O.α):Nat→List (List YY)→List (Nat×Nat×Nat)→Prop
 |_,[],[]=>True
 |p,g::gs,e::es=>e.1=p∧e.2.1=g.length∧0<g.length∧gr key g∧qm key (p+g.length) gs es
 |_,_,_=>False
theorem qm.len:∀{p:Nat} {gs:List (List YY)} {es:List (Nat×Nat×Nat)},qm key p gs es→gs.length=es.length∧gs.length≤gs.flatten.length
 |_,[],[],_=>⟨rfl,YC _⟩
 |p,g::gs,e::es,h=>by
  obtain⟨h1,h2⟩:=qm.len h.2.2.2.2
  have:=h.2.2.1
  rw[Zk,Yu,YN,YN]
  lia
theorem qm.app:∀{p:Nat} {gs:List (List YY)} {es:List (Nat×Nat×Nat)} {gs2:List (List YY)} {es2:List (Nat×Nat×Nat)},qm key p gs es→qm key (p+gs.flatten.length) gs2 es2→qm key p (gs++gs2) (es++es2)
 |_,[],[],_,_,_,h2=>h2
 |p,g::gs,e::es,gs2,es2,h,h2=>by
  refine⟨h.1,h.2.1,h.2.2.1,h.2.2.2.1,qm.app h.2.2.2.2 ?_⟩
  rw[Zk,Yu,←abu] at h2
  exact h2
theorem qm.split:∀{i p:Nat} {gs:List (List YY)} {es:List (Nat×Nat×Nat)},qm key p gs es→i+1<es.length→∃g1 x y g2 e1 pw pw2 e2,gs=g1++x::y::g2∧es=e1++(p+g1.flatten.length,x.length,pw)::(p+g1.flatten.length+x.length,y.length,pw2)::e2∧e1.length=i∧qm key p g1 e1∧0<x.length∧gr key x∧0<y.length∧gr key y∧qm key (p+g1.flatten.length+x.length+y.length) g2 e2
 |0,p,x::y::g2,(a,b,pw)::(c,d,pw2)::e2,h,_=>by
  obtain⟨h1,h2,h3,h4,k1,k2,k3,k4,h5⟩:=h
  dsimp only at h1 h2 k1 k2
  subst h1;subst h2;subst k1;subst k2
  exact⟨[],x,y,g2,[],pw,pw2,e2,rfl,rfl,rfl,trivial,h3,h4,k3,k4,h5⟩
 |0,p,[x],[e],h,hl=>absurd hl (by simp)
 |0,p,[],[],h,hl=>absurd hl (by simp)
 |0,p,[x],_::_::_,h,hl=>h.2.2.2.2.elim
 |0,p,_::_::_,[e],h,hl=>h.2.2.2.2.elim
 |i+1,p,[],[],h,hl=>absurd hl (by simp)
 |i+1,p,g::gs,e::es,h,hl=>by
  obtain⟨g1,x,y,g2,e1,pw,pw2,e2,q1,q2,q3,q4,q5⟩:=qm.split h.2.2.2.2 (i:=i) (by simpa using hl)
  refine⟨g::g1,x,y,g2,e::e1,pw,pw2,e2,by rw[q1];rfl,?_,by rw[YN,q3],⟨h.1,h.2.1,h.2.2.1,h.2.2.2.1,q4⟩,?_⟩
  ·rw[q2,Zk,Yu,←abu];rfl
  ·rw[Zk,Yu,←abu];exact q5
theorem qm.power {f:Nat×Nat×Nat→Nat×Nat×Nat}(hf:∀e,(f e).1=e.1∧(f e).2.1=e.2.1):∀{i p:Nat} {gs:List (List YY)} {es:List (Nat×Nat×Nat)},qm key p gs es→qm key p gs (es.modify i f)
 |_,_,[],[],_=>by rw[List.modify_nil];exact trivial
 |0,p,g::gs,e::es,h=>by
  rw[List.modify_zero_cons]
  exact⟨(hf e).1.trans h.1,(hf e).2.trans h.2.1,h.2.2⟩
 |i+1,p,g::gs,e::es,h=>by
  rw[List.modify_succ_cons]
  exact⟨h.1,h.2.1,h.2.2.1,h.2.2.2.1,qm.power hf h.2.2.2.2⟩
structure SI (key:YY→O.α)(knd:acs)(a0:Array YY)(lo:Nat)(rest:List YY)(st:YZ):Prop where
 failed:ab9 st=none
 kind:ZY st=knd
 perm:(Zq st).toList.Perm a0.toList
 segs:∃gs:List (List YY),(Zq st).toList=gs.flatten++rest∧gs.flatten.length=lo∧qm key 0 gs (Zl st).toList
variable {a0:Array YY}{lo:Nat}{rest:List YY}
theorem SI.size {st:YZ}(h:SI key knd a0 lo rest st):lo+rest.length=a0.size:=by
 obtain⟨gs,e,l,_⟩:=h.segs
 have:=h.perm.length_eq
 rw[e,Yu,l,Yz] at this
 exact this
theorem SI.few {st:YZ}(h:SI key knd a0 lo rest st):(Zl st).size≤lo:=by
 obtain⟨gs,e,l,p⟩:=h.segs
 have h1:=p.len
 have h2:(Zl st).toList.length=(Zl st).size:=Yz
 lia
theorem SI.merge (C:j8 M A E s O key knd D)(hD:∀p∈a0.toList,D p){st:YZ}(h:SI key knd a0 lo rest st)(hi:i+1<(Zl st).size){Q:Bool→YZ→Prop}(q:∀aE,SI key knd a0 lo rest aE→(Zl aE).size+1=(Zl st).size→Q true aE):wpS M A E s (mergeAt' i) Q st:=by
 obtain⟨gs,e,l,p⟩:=h.segs
 obtain⟨g1,x,y,g2,e1,pw,pw2,e2,q1,q2,q3,q4,x0,sx,y0,sy,q5⟩:=p.split (i:=i) (by rw[Yz];exact hi)
 rw[abQ] at q2 q5
 subst q3
 have ea:(Zq st).toList=g1.flatten++(x++(y++(g2.flatten++rest))):=by
  rw[e,q1,aaW,Zk,Zk];simp only[YW]
 have mem:∀p∈(Zq st).toList,D p:=fun p hp=>hD p (h.perm.mem_iff.mp hp)
 refine yn C (pw:=pw) (pw2:=pw2) h.failed h.kind ea ?_ ?_ (fun p hp=>mem p (by rw[ea];simp[hp])) (fun p hp=>mem p (by rw[ea];simp[hp])) sx sy x0 y0 fun z g hz sz=>q _ ?_ ?_
 ·rw[←Zj,q2,ZR (YC _),Nat.sub_self];rfl
 ·rw[←Zj,q2,ZR (aaM _ 1),aas];rfl
 all_goals
  have ep:(su (Zl st) e1.length g1.flatten.length (x.length+y.length) pw).toList=e1++(g1.flatten.length,x.length+y.length,pw)::e2:=by
   unfold su
   rw[Array.toList_eraseIdxIfInBounds,adB,q2,List.set_append_right _ _ (YC _),Nat.sub_self,aa6,List.eraseIdx_append_of_length_le (aaM _ 1),aas]
   rfl
 ·refine⟨h.failed,h.kind,?_,g1++z::g2,?_,?_,?_⟩
  ·show (g1.flatten++(z++(g2.flatten++rest))).Perm a0.toList
   refine List.Perm.trans ?_ h.perm
   rw[ea]
   refine aal _ ?_
   rw[←YW x]
   exact Z6 _ hz
  ·show g1.flatten++(z++(g2.flatten++rest))=_
   rw[aaW,Zk];simp only[YW]
  ·rw[←l,q1,aaW,aaW,Zk,Zk,Zk]
   have:=hz.length_eq
   rw[Yu] at this
   simp only[Yu]
   lia
  ·show qm key 0 _ (su (Zl st) e1.length g1.flatten.length (x.length+y.length) pw).toList
   have hl:z.length=x.length+y.length:=by rw[hz.length_eq,Yu]
   rw[ep]
   refine q4.app ⟨by rw[abQ],hl.symm,by rw[hl];lia,sz,?_⟩
   rw[abQ,hl,←abu]
   exact q5
 ·show (su (Zl st) e1.length g1.flatten.length (x.length+y.length) pw).size+1=_
  rw[←Yz,ep,←Yz (xs:=Zl st),q2]
  simp only[Yu,YN]
  lia
theorem LC (C:j8 M A E s O key knd D)(hD:∀p∈a0.toList,D p){st:YZ}(h:SI key knd a0 lo rest st){pw:Nat}{c:Option Unit×Unit}{Q:ForInStep (Option Unit×Unit)→YZ→Prop}(q1:∀aE,SI key knd a0 lo rest aE→Q (.done (none,())) aE)(q2:∀aE,SI key knd a0 lo rest aE→Q (.yield (none,())) aE):wpS M A E s (Q3 pw i c) Q st:=by
 unfold Q3
 refine YL (wpS_get ?_)
 by_cases c1:(Zl st).size>1
 ·rw[if_pos c1,getElem?_pos (Zl st) _ (by lia)]
  obtain⟨a,b,FE⟩:=(Zl st)[(Zl st).size - 2]
  dsimp only
  split
  ·exact YV (q1 st h)
  ·refine YL (h.merge C hD (by lia) fun aE h' _ => ?_)
   rw[if_neg (by decide)]
   exact YV (q2 aE h')
 ·rw[if_neg c1]
  exact YV (q1 st h)
theorem sv {st:YZ}(h:SI key knd a0 lo rest st){Q:ForInStep (Option Unit×Nat)→YZ→Prop}(n1:1≤n)(n2:n≤rest.length)(sr:gr key (rest.take n))(q:∀aE,SI key knd a0 (lo+n) (rest.drop n) aE→Q (.yield (none,lo+n)) aE):wpS M A E s (uj lo n) Q st:=by
 unfold uj
 refine YL (aci (YV (q _ ?_)))
 obtain⟨gs,e,l,p⟩:=h.segs
 have hl:(rest.take n).length=n:=by rw[YJ];lia
 refine⟨h.failed,h.kind,h.perm,gs++[rest.take n],?_,?_,?_⟩
 ·show (Zq st).toList=_
  rw[e,aaW,YW]
  congr 1
  rw[Zk,List.flatten_nil,Zb,Zz]
 ·rw[aaW,Yu,l,Zk,List.flatten_nil,Zb,hl]
 ·show qm key 0 _ ((Zl st).push (lo,n,0)).toList
  rw[abV]
  exact p.app ⟨by rw[abQ,l],hl.symm,by lia,sr,trivial⟩
theorem EE (C:j8 M A E s O key knd D)(hD:∀p∈a0.toList,D p){st:YZ}(h:SI key knd a0 lo rest st){size:Nat}{Q:ForInStep (Option Unit×Nat)→YZ→Prop}(n1:1≤n)(n2:n≤rest.length)(sr:gr key (rest.take n))(q:∀aE,SI key knd a0 (lo+n) (rest.drop n) aE→Q (.yield (none,lo+n)) aE):wpS M A E s (PR size lo n) Q st:=by
 unfold PR
 refine YL (wpS_get ?_)
 cases e:(Zl st).back? with
 |none=>exact sv h n1 n2 sr q
 |some v =>
  obtain⟨p1,m1,w⟩:=v
  dsimp only
  unfold Jw
  refine YL (aa5 (Z1 (I:=fun x c aE=>c=(none,())∧SI key knd a0 lo rest aE) (Q:=fun c aE=>c=(none,())∧SI key knd a0 lo rest aE) ?go (fun _ _ z=>z) ⟨rfl,h⟩) ?fin)
  case go =>
   rintro x c aE _ _ ⟨rfl,h'⟩
   exact LC C hD h' (fun jL z=>⟨rfl,z⟩) fun jL z=>⟨rfl,z⟩
  case fin =>
   rintro c aE ⟨rfl,h'⟩
   dsimp only
   refine YL (aci (sv ?_ n1 n2 sr q))
   obtain⟨gs,e,l,p⟩:=h'.segs
   refine⟨h'.failed,h'.kind,h'.perm,gs,e,l,?_⟩
   show qm key 0 gs ((Zl aE).modify _ _).toList
   rw[Array.toList_modify]
   refine qm.power (fun e => ?_) p
   exact⟨rfl,rfl⟩
theorem Hd {l:Array YY}{P R:List YY}(e:l.toList=P++R)(h:Cd key P.length l n):gr key (R.take n):=by
 refine ab5.mpr fun i j hi hj rE => ?_
 rw[YJ] at hi hj
 have at_:∀k,(hk:k<R.length)→kx key l (P.length+k)=key R[k]:=fun k hk=>by
  unfold kx
  rw[←Zj,e,ZR (aaM _ _),aas,Ys hk];rfl
 have:=h i j (by lia) (by lia)
 rw[at_ i (by lia),at_ j (by lia)] at this
 rw[abU,abU]
 exact this
theorem SI.run {cg st:YZ}(h:SI key knd a0 lo rest cg)(b:SB lo (Zq cg) cg st):∃r,SI key knd a0 lo r st∧r.length=rest.length∧∀n,Cd key lo (Zq st) n→gr key (r.take n):=by
 obtain⟨gs,e,l,p⟩:=h.segs
 have hp:=adC.mp b.perm
 have hl:lo≤(Zq st).toList.length:=by rw[hp.length_eq,e,Yu,l];lia
 have ht:(Zq st).toList.take lo=gs.flatten:=by
  apply ad_
  intro k
  rw[acu]
  split
  ·rename_i c
   rw[Zj,b.same k c,←Zj,e,Z7 (by lia)]
  ·rename_i c
   rw[acV (by lia)]
 have e2:(Zq st).toList=gs.flatten++(Zq st).toList.drop lo:=by
  conv=>lhs;rw[←Zz lo (Zq st).toList,ht]
 refine⟨(Zq st).toList.drop lo,⟨?_,?_,hp.trans h.perm,gs,e2,l,?_⟩,?_,fun n hn => ?_⟩
 ·rw[b.rest];exact h.failed
 ·rw[b.rest];exact h.kind
 ·rw[b.rest];exact p
 ·have:=hp.length_eq
  rw[e,Yu,l] at this
  rw[Y1];lia
 ·subst l
  exact Hd e2 hn
theorem LD (C:j8 M A E s O key knd D)(hD:∀p∈a0.toList,D p){st:YZ}{mP:Nat}{c:Option Unit×Nat}(h:SI key knd a0 c.2 rest st){Q:ForInStep (Option Unit×Nat)→YZ→Prop}(q1:SI key knd a0 a0.size [] st→c.2=a0.size→Q (.done (none,a0.size)) st)(q2:∀n r aE,1≤n→SI key knd a0 (c.2+n) r aE→Q (.yield (none,c.2+n)) aE):wpS M A E s (Q5 a0.size mP i c) Q st:=by
 obtain⟨c1,lo⟩:=c
 dsimp only at h q1 q2
 have hs:=h.size
 unfold Q5
 dsimp only
 by_cases c2:lo≥a0.size
 ·rw[if_pos c2]
  have e1:lo=a0.size:=by lia
  have e2:rest=[]:=ZT (by lia)
  subst e1;subst e2
  exact YV (q1 h rfl)
 ·rw[if_neg c2]
  have Vn:∀p∈(Zq st).toList,D p:=fun p hp=>hD p (h.perm.mem_iff.mp hp)
  have hz:(Zq st).size=a0.size:=by have:=h.perm.length_eq;rwa [Yz,Yz] at this
  have b0:SB lo (Zq st) st st:=⟨Array.Perm.refl _,fun _ _=>rfl,rfl⟩
  refine YL (vZ C h.kind Vn (by lia) (by lia) b0 fun n aE b1 n1 n2 ha => ?_)
  dsimp only
  by_cases c3:n<mP
  ·rw[if_pos c3]
   refine YL (wpS_lift (aaU ⟨rfl,?_⟩))
   refine YL (yp C h.kind Vn (by lia) (by lia) b1 ha fun jL b2 M4 => ?_)
   rw[if_neg (by decide)]
   obtain⟨r,h',hl,hr⟩:=h.run b2
   exact EE C hD h' (by lia) (by lia) (hr _ M4) fun FG h3=>q2 _ _ FG (by lia) h3
  ·rw[if_neg c3]
   obtain⟨r,h',hl,hr⟩:=h.run b1
   exact EE C hD h' n1 (by lia) (hr _ ha) fun FG h3=>q2 _ _ FG n1 h3
theorem LF {p:Array (Nat×Nat×Nat)}(h:¬p.size≤1):Q7 p+1<p.size:=by
 unfold Q7
 generalize (Option.any _ _)=z
 cases z with
 |true=>rw[if_pos rfl];lia
 |false=>rw[if_neg Yq];lia
theorem v5 (C:j8 M A E s O key knd D)(hD:∀p∈a0.toList,D p){st:YZ}(hk:ZY st=knd)(hf:ab9 st=none)(ha:Zq st=a0)(hp:Zl st=#[]){Q:Unit→YZ→Prop}
  (q:∀aE,ab9 aE=none→(Zq aE).toList.Perm a0.toList→gr key (Zq aE).toList→Q () aE):wpS M A E s sortRuns' Q st:=by
 rw[uk]
 refine YL (wpS_get ?_)
 rw[ha]
 have h0:SI key knd a0 0 a0.toList st:=⟨hf,hk,by rw[ha],[],by rw[ha];rfl,rfl,by rw[hp];exact trivial⟩
 refine YL (aa5 (Z1 (I:=fun x c aE=>c.1=none∧x≤c.2∧∃r,SI key knd a0 c.2 r aE) (Q:=fun c aE=>c.1=none∧SI key knd a0 a0.size [] aE) ?go ?out ⟨rfl,YC _,_,h0⟩) ?post)
 case out =>
  rintro⟨c1,lo⟩ aE ⟨e,hx,r,h⟩
  dsimp only at e hx h
  have hs:=h.size
  have e1:lo=a0.size:=by lia
  have e2:r=[]:=ZT (by lia)
  subst e1;subst e2
  exact⟨e,h⟩
 case go =>
  rintro x c aE _ hx ⟨e,Vg,r,h⟩
  refine LD C hD h (fun h1 h2=>⟨rfl,h1⟩) fun n r jL n1 h2=>⟨rfl,?_,r,h2⟩
  show x+1≤c.2+n
  lia
 case post =>
  rintro⟨c1,lo⟩ aE ⟨e,h⟩
  dsimp only at e ⊢
  subst e
  dsimp only
  refine YL (aa5 (Z1 (I:=fun x c aE=>c=(none,())∧SI key knd a0 a0.size [] aE∧(Zl aE).size+x≤a0.size) (Q:=fun c aE=>c=(none,())∧SI key knd a0 a0.size [] aE∧(Zl aE).size≤1) ?_ ?_ ⟨rfl,h,by have:=h.few;lia⟩) ?_)
  ·rintro x c jL _ hx ⟨rfl,h2,h3⟩
   unfold UY
   refine YL (wpS_get ?_)
   by_cases c:(Zl jL).size≤1
   ·rw[if_pos c]
    exact YV ⟨rfl,h2,c⟩
   ·rw[if_neg c]
    refine YL (h2.merge C hD (LF c) fun FG h4 h5 => ?_)
    rw[if_neg (by decide)]
    exact YV ⟨rfl,h4,by lia⟩
  ·rintro c jL ⟨rfl,h2,h3⟩
   exact⟨rfl,h2,by lia⟩
  ·rintro c jL ⟨rfl,h2,h3⟩
   refine YV (q jL h2.failed h2.perm ?_)
   obtain⟨gs,e,l,p⟩:=h2.segs
   rw[e,Zb]
   match gs,(Zl jL).toList,p,(show (Zl jL).toList.length≤1 by rw[Yz];exact h3) with
   | [],_,_,_=>exact List.Pairwise.nil
   | [g],[e1],p,_ =>
    rw[Zk,List.flatten_nil,Zb]
    exact p.2.2.2.1
   |g::g2::gs,[e1],p,_=>exact p.2.2.2.2.elim
   |g::gs,e1::e2::es,p,hl=>exact absurd hl (by simp)
end
end Hc.Ts
namespace Hc.Ts
section
variable {A:Zw}{O:aei}{key:YY→O.α}{knd:acs}{D:YY→Prop}
theorem sA {vs:List Yv}{l:List YY}(h:l.Perm (vs.zip vs)):(l.map (·.2)).Perm vs∧∀p∈l,p=(p.2,p.2):=by
 have e:(vs.zip vs).map (·.2)=vs:=by
  induction vs with
  |nil=>rfl
  |cons v r ih=>rw[adP,Yw,List.map_snd_zip (by simp)]
 refine⟨by have:=h.map (·.2);rwa [e] at this,fun p hp => ?_⟩
 have hp:=h.mem_iff.mp hp
 clear h e
 induction vs with
 |nil=>cases hp
 |cons v r ih =>
  rw[adP,YU] at hp
  rcases hp with hp|hp
  ·subst hp;rfl
  ·exact ih hp
theorem EF {vs:List Yv}{P:Fin→YK→Prop}(ho:s.heap.get? a=some (adL "list" vs.toArray n))(hz:vs.length≤1000000)(hk:2≤vs.length→∀(h6:abr) (Q:acs→YK→Prop),(∀b o,b≠a→s.heap.get? b=some o→h6.get? b=some o)→Q knd {s with heap:=h6}→YR (Y7 prog w) A (keyKind' vs.toArray) Q E {s with heap:=h6})(hC:2≤vs.length→∀h6:abr,(∀b o,b≠a→s.heap.get? b=some o→h6.get? b=some o)→j8 (Y7 prog w) A E {s with heap:=h6} O key knd D)(hD:∀v∈vs,D (v,v))(h:∀out:List Yv,out.Perm vs→out.Pairwise (fun x y=>O.kle (key (x,x)) (key (y,y)))→P (.done (.ret .none)) {s with heap:=sortedHeap s.heap a vs out.toArray}) :
  YR (Y7 prog w) A (Builtin.«list.sort» ⟨[.ref a],[]⟩) P E s:=by
 have FH:vs.length≤Yx:=by rw[aaq];lia
 have la:a<s.heap.objs.size:=YE ho
 rw[list_sort_plain]
 refine Yo (listItems_at ho rfl (Yo (listUpdate_at ho rfl ?_ (hsz:=by rw[YB];exact FH))))
 obtain⟨e1,o1⟩:∃e1,(s.heap.update a (abS fun _=>#[])).get? a=some (adL "list" #[] e1):=⟨_,get?_update_seq ho (fun _=>#[])⟩
 refine Yo (seqEpoch_at o1 rfl (Yo (wpAny_newTuple (Yo (wpAny_newList (ZL ?_))) (by simpa using FH))))
 have kp:∀b o,b≠a→s.heap.get? b=some o→(((s.heap.update a (abS fun _=>#[])).push (adL "tuple" vs.toArray 0)).push (adL "list" #[] 0)).get? b=some o:=fun b o hb e =>
  Yt _ (Yt _ ((Heap.get?_update_ne _ _ _ _ hb).trans e))
 have o6:(((s.heap.update a (abS fun _=>#[])).push (adL "tuple" vs.toArray 0)).push (adL "list" #[] 0)).get? a=some (adL "list" #[] e1):=Yt _ (Yt _ o1)
 change YR (Y7 prog w) A _ P E {s with heap:=((s.heap.update a (abS fun _=>#[])).push (adL "tuple" vs.toArray 0)).push (adL "list" #[] 0)}
 dsimp only
 have fin:∀aE:YZ,ab9 aE=none→(Zq aE).toList.Perm (pairsOf vs).toList→gr key (Zq aE).toList→YR (Y7 prog w) A (do
   let touched:=(←seqEpoch a) != e1
   Builtin.List.listUpdate (.ref a) fun _=>(Zq aE).map (·.2)
   if let some e:=ab9 aE then rule "list.sort.comparison-raised";throw e
   if touched then rule "list.sort.modified";raiseError "ValueError" "list modified during sort"
   ret .none) P E {s with heap:=((s.heap.update a (abS fun _=>#[])).push (adL "tuple" vs.toArray 0)).push (adL "list" #[] 0)}:=by
  intro aE f1 f2 f3
  rw[pairsOf_toList] at f2
  obtain⟨m1,m2⟩:=sA f2
  refine Yo (seqEpoch_at o6 rfl (Yo (listUpdate_at o6 rfl ?_ (hsz2:=by
   rw[Array.size_map,←Yz,f2.length_eq,List.length_zip,Nat.min_self];lia))))
  rw[f1]
  simp only[bne_self_eq_false,ZE,if_false]
  refine Yr ?_
  have e:(Zq aE).map (·.2)=((Zq aE).toList.map (·.2)).toArray:=by apply Array.ext';simp
  rw[e]
  refine h _ m1 (aed.mpr (List.Pairwise.imp_of_mem (fun {x y} hx hy r => ?_) f3))
  rw[←m2 x hx,←m2 y hy]
  exact r
 by_cases h2:vs.length<2
 ·rw[if_pos (by rw[YB];exact h2),if_pos (by rw[YB];exact h2)]
  refine Yo (Yr ?_)
  rw[StateT.run_pure]
  refine Yo (Yr ?_)
  refine fin (SortSt.mk' general' (vs.toArray.zip vs.toArray) #[] 7 none) rfl (aao _) ?_
  change gr key (pairsOf vs).toList
  rw[pairsOf_toList]
  match vs,h2 with
  | [],_=>exact List.Pairwise.nil
  | [v],_=>exact List.pairwise_singleton _ _
  |_::_::_,h2=>exact absurd h2 (by simp)
 ·rw[if_neg (by rw[YB];exact h2),if_neg (by rw[YB];exact h2)]
  refine Yo (hk (by lia) _ _ kp ?_)
  refine Yo (ZI (v5 (hC (by lia) _ kp) (a0:=pairsOf vs) (fun p hp => ?_) (st:=SortSt.mk' knd (vs.toArray.zip vs.toArray) #[] 7 none) rfl rfl rfl rfl
   (Q:=fun _ aE=>ab9 aE=none∧(Zq aE).toList.Perm (pairsOf vs).toList∧gr key (Zq aE).toList) fun aE a1 a2 a3=>⟨a1,a2,a3⟩) ?_ fun _ _ e=>e)
  ·rw[pairsOf_toList] at hp
   obtain⟨m1,m2⟩:=sA (aao (vs.zip vs))
   rw[m2 p hp]
   exact hD _ (m1.mem_iff.mp (ZG hp))
  ·rintro⟨⟨⟩,aE⟩ s' ⟨rfl,f1,f2,f3⟩
   exact fin aE f1 f2 f3
end
end Hc.Ts
namespace Hc.Ts
open PySem.W
noncomputable def fJ:List Int→List Int→Bool
 | [],[]=>false
 | [],_::_=>true
 |_::_,[]=>false
 |x::xs,y::ys=>if x=y then fJ xs ys else decide (x<y)
theorem nI:∀a,fJ a a=false
 | []=>rfl
 |x::xs=>by unfold fJ;rw[if_pos rfl];exact nI xs
theorem qo:∀a b c,fJ a b=true→fJ b c=true→fJ a c=true
 | [],[],_,h,_=>by cases h
 | [],_::_,[],_,h=>by cases h
 | [],_::_,_::_,_,_=>rfl
 |_::_,[],_,h,_=>by cases h
 |_::_,_::_,[],_,h=>by cases h
 |x::xs,y::ys,z::zs,h1,h2=>by
  unfold fJ at h1 h2 ⊢
  by_cases e1:x=y
  ·subst e1
   rw[if_pos rfl] at h1
   by_cases e2:x=z
   ·subst e2
    rw[if_pos rfl] at h2 ⊢
    exact qo xs ys zs h1 h2
   ·rw[if_neg e2] at h2 ⊢;exact h2
  ·rw[if_neg e1] at h1
   have h1:=of_decide_eq_true h1
   by_cases e2:y=z
   ·subst e2
    rw[if_neg e1];exact decide_eq_true h1
   ·rw[if_neg e2] at h2
    have h2:=of_decide_eq_true h2
    rw[if_neg (by lia)]
    exact decide_eq_true (by lia)
theorem v7:∀a b c,fJ a c=true→fJ a b=true∨fJ b c=true
 | [],[],_::_,_=>.inr rfl
 | [],_::_,_::_,_=>.inl rfl
 | [],_,[],h=>by cases h
 |_::_,_,[],h=>by cases h
 |_::_,[],_::_,_=>.inr rfl
 |x::xs,y::ys,z::zs,h=>by
  unfold fJ at h ⊢
  by_cases e:x=z
  ·subst e
   rw[if_pos rfl] at h
   by_cases e2:x=y
   ·subst e2
    rw[if_pos rfl,if_pos rfl]
    exact v7 xs ys zs h
   ·rw[if_neg e2,if_neg (fun q=>e2 q.symm),decide_eq_true_eq,decide_eq_true_eq]
    lia
  ·rw[if_neg e] at h
   have h:=of_decide_eq_true h
   by_cases e2:x=y
   ·subst e2
    exact .inr (by rw[if_neg e];exact decide_eq_true h)
   ·by_cases e3:y=z
    ·subst e3
     exact .inl (by rw[if_neg e];exact decide_eq_true h)
    ·rw[if_neg e2,if_neg e3,decide_eq_true_eq,decide_eq_true_eq]
     lia
theorem ke:∀a b,fJ a b=false→fJ b a=false→a=b
 | [],[],_,_=>rfl
 | [],_::_,h,_=>by cases h
 |_::_,[],_,h=>by cases h
 |x::xs,y::ys,h1,h2=>by
  unfold fJ at h1 h2
  by_cases e:x=y
  ·subst e
   rw[if_pos rfl] at h1 h2
   rw[ke xs ys h1 h2]
  ·rw[if_neg e] at h1
   rw[if_neg (fun q=>e q.symm)] at h2
   have h1:=of_decide_eq_false h1
   have h2:=of_decide_eq_false h2
   lia
noncomputable def EG:aei:=⟨List Int,fJ,nI,qo,v7,ke⟩
noncomputable def uo (h:abr)(v:Yv):List Int:=match v with
 | .ref a=>match h.get? a with
  |some o=>match o.data with
   | .seq aq _=>aq.toList.map numOf
   |_=>[]
  |none=>[]
 |_=>[]
noncomputable def v9 (h:abr)(v:Yv):Prop:=∃a aq ns,v=.ref a∧h.IsTuple a aq∧adn aq.toList ns∧ns≠[]
theorem v_:∀{vs:List Yv} {ns:List Int},adn vs ns→vs.map numOf=ns
 |_,_,.nil=>rfl
 |_,_,.cons n t r=>by rw[Yw,v_ r];rfl
theorem lH {aq:Array Yv}(t:h.IsTuple a aq)(i:adn aq.toList ns):uo h (.ref a)=ns:=by
 obtain⟨o,e,_,n,d⟩:=t
 unfold uo
 dsimp only
 rw[e]
 dsimp only
 rw[d]
 exact v_ i
section
variable {A:Zw}{b fin:Bool}{Q:Bool→YK→Prop}
theorem wa:∀{xs ys:List Yv} {ns ms:List Int} {i:Nat},adn xs ns→adn ys ms→fin=decide (ns.length<ms.length)→Q (fJ ns ms) s→KatLex prog w A b fin Q (xs.zip ys) i s
 |_,_,_,_,i,.nil,.nil,hf,h=>by subst hf;exact kat_nil h
 |_,_,_,_,i,.nil,.cons m t r,hf,h=>by subst hf;exact kat_nil (by rw[show decide (([]:List Int).length<(m::_).length)=true from decide_eq_true (by simp)];exact h)
 |_,_,_,_,i,.cons n t r,.nil,hf,h=>by subst hf;exact kat_nil (by rw[show decide ((n::_).length<([]:List Int).length)=false from decide_eq_false (by simp)];exact h)
 |_,_,_,_,i,.cons n t r,.cons m u q,hf,h=>by
  refine kat_cons (wpAny_eqBool_int ?_)
  unfold fJ at h
  by_cases e:n=m
  ·subst e
   rw[if_pos rfl] at h
   rw[beq_self_eq_true]
   refine kat_yes (wa r q ?_ h)
   rw[hf]
   simp
  ·rw[if_neg e] at h
   rw[show (n==m)=false from beq_eq_false_iff_ne.mpr e]
   refine kat_no ?_
   cases hb:(b&&i==0) with
   |true=>exact oneLt_int h
   |false=>exact kat_one _ _ (lt_int h)
theorem He {hp:abr}(keep:∀v,v9 hp v→v9 s.heap v∧uo s.heap v=uo hp v):j8 (Y7 prog w) A E s EG (fun x=>uo hp x.1) (tuples' true) (fun x=>v9 hp x.1) where
 lt:=fun x y st Q dx dy kd q=>by
  obtain⟨k1,k2⟩:=keep _ dx
  obtain⟨k3,k4⟩:=keep _ dy
  obtain⟨a,xs,ns,e1,t1,i1,_⟩:=k1
  obtain⟨c,ys,ms,e2,t2,i2,_⟩:=k3
  rw[←k2,←k4,e1,e2,lH t1 i1,lH t2 i2] at q
  rw[lt'_eq]
  refine YL (wpS_get ?_)
  rw[kd,e1,e2]
  obtain⟨o1,g1,_,n1,d1⟩:=t1
  obtain⟨o2,g2,_,n2,d2⟩:=t2
  refine YL (wpS_lift (aaB (kat_lt g1 d1 g2 d2 (wa i1 i2 ?_ ⟨rfl,?_⟩))))
  ·rw[←i1.length,←i2.length,Yz,Yz]
  ·exact YV q
end
end Hc.Ts
namespace Hc.Dw
noncomputable def gx (h:abr)(a:YM)(ds:Array aeg)(ep:Nat):Prop:=∃o,h.get? a=some o∧o.ExactDict∧o.data=.dict ds ep
theorem gx.ty (x:gx s.heap a ds ep):s.TypeIs (.ref a) "dict":=by
 obtain⟨o,e,c,_⟩:=x;exact⟨o,e,c.1⟩
theorem gx.at (x:gx h a ds ep)(e:∀o,h.get? a=some o→h'.get? a=some o):gx h' a ds ep:=by
 obtain⟨o,q,r⟩:=x;exact⟨o,e o q,r⟩
theorem gx.lt (x:gx h a ds ep):a<h.objs.size:=by obtain⟨o,e,_⟩:=x;exact YE e
section
variable {A:Zw}{d vw:YM}
theorem Jx (lo:(d==ZQ)=false)(x:gx s.heap d ds ep)(q:Q (.ref s.heap.objs.size) {s with heap:=s.heap.push {cls:=.type "dict_keyiterator",data:=.fields #[.ref d,.int 0 0,.int ds.size 0,.int ep 0]}}):YR (Y7 prog w) A (pyIter (.ref d)) Q E s:=by
 have ty:=x.ty
 obtain⟨od,e1,e2,e3⟩:=x
 refine acN ty F.slot_dict_iter (Y8 F.slot_dict_iter ty F.entry_dict_iter ?_ (F.args_dict_iter_1 _))
 unfold Builtin.«dict.__iter__»
 refine Yo ?_
 unfold Builtin.Dict.dictSlotNone
 refine Yo (aa7 ty ?_)
 change YR _ _ (pure (Value.ref d)) _ _ s
 refine Yr ?_
 change YR _ _ (aam d >>= _) _ _ s
 unfold aam
 rw[if_neg (by rw[lo];exact Yq)]
 refine Yo (Yr (Yo (ZK e1 e3 (Yo (aaf e1 e3 ?_)))))
 refine Yo (Y6 (Yr ⟨_,rfl,"dict_keyiterator",_,⟨_,YA _ rfl,rfl⟩,F.slot_dict_keyiterator_next.lookup,?_⟩))
 simpa [ab2] using q
theorem Jy {Q:Option Yv→YK→Prop}(t:s.heap.IsKeyIter it d i ds.size ep)(x:gx s.heap d ds ep)(hi:i<ds.size)
  (q:∀h',h'.IsKeyIter it d (i+1) ds.size ep→aaC it s.heap h'→Q (some ds[i].key) {s with heap:=h'}):YR (Y7 prog w) A (acf (.ref it)) Q E s:=by
 have ty:=t.typeIs
 obtain⟨oi,i1,i2,i3⟩:=t
 obtain⟨od,e1,e2,e3⟩:=x
 unfold acf
 refine Yo (aaB (Zo (name:=Z5 "__next__") ty aaS (Y8 aaS ty ac1 ?_ (acW _))))
 refine Yo (Yr (Yo (Yo ?_)))
 first|refine Yo (aaN ty (Yr ?_))|refine Yo (abi ty (Yr ?_))
 refine Yo (ab6 i1 i3 ?_)
 simp only[show Zy "dict_keyiterator"=false by decide,ZE,if_false]
 change YR _ _ (if (Value.ref d==Value.none)=true then _ else _) _ _ s
 rw[if_neg (show ¬((Value.ref d==Value.none)=true) from Yq)]
 refine Yo (Yr (Yo (ZK e1 e3 ?_)))
 rw[if_neg (by simp)]
 refine Yo (Yr (Yo (aaf e1 e3 ?_)))
 rw[if_neg (by simp)]
 refine Yr ?_
 simp only[show ¬((i:Int)<0) from by lia,if_false,ZC,aaa hi]
 refine Yo ?_
 first|refine Yo (aaN ty (Yr ?_))|refine Yo (abi ty (Yr ?_))
 refine Yo (wpAny_isOneOf_keyiter ty ?_)
 change YR _ _ (setField (.ref it) 1 (ab2 ((i:Int)+1)) >>= _) _ _ s
 refine Yo (abB i1 i3 (by simp) ?_)
 have t':(s.heap.update it (ade (·.setIfInBounds 1 (ab2 ((i:Int)+1))))).IsKeyIter it d (i+1) ds.size ep :=
  ⟨_,abN _ i1 (acU (aa4 i3 _)),(aeb ..).trans i2,by rw[aa4 i3];simp[ab2]⟩
 refine Yo (ZL (Yo ?_))
 refine wpAny_isOneOf_keyiter (s:={s with heap:=s.heap.update it (ade (·.setIfInBounds 1 (ab2 ((i:Int)+1))))}) t'.typeIs ?_
 change YR _ _ (pure ds[i].key) _ _ _
 exact Yr (Yr ⟨_,rfl,Yr (q _ t' (aay ..))⟩)
theorem Jz {Q:Option Yv→YK→Prop}(hh:A.handled=none)(t:s.heap.IsKeyIter it d i ds.size ep)(x:gx s.heap d ds ep)(hi:ds.size≤i)
  (q:∀h',Heap.ExtBut it s.heap h'→Q none {s with heap:=h'}):YR (Y7 prog w) A (acf (.ref it)) Q E s:=by
 have ty:=t.typeIs
 obtain⟨oi,i1,i2,i3⟩:=t
 obtain⟨od,e1,e2,e3⟩:=x
 unfold acf
 refine Yo (aaB (Zo (name:=Z5 "__next__") ty aaS (Y8 aaS ty ac1 ?_ (acW _))))
 refine Yo (Yr (Yo (Yo ?_)))
 first|refine Yo (aaN ty (Yr ?_))|refine Yo (abi ty (Yr ?_))
 refine Yo (ab6 i1 i3 ?_)
 simp only[show Zy "dict_keyiterator"=false by decide,ZE,if_false]
 change YR _ _ (if (Value.ref d==Value.none)=true then _ else _) _ _ s
 rw[if_neg (show ¬((Value.ref d==Value.none)=true) from Yq)]
 refine Yo (Yr (Yo (ZK e1 e3 ?_)))
 rw[if_neg (by simp)]
 refine Yo (Yr (Yo (aaf e1 e3 ?_)))
 rw[if_neg (by simp)]
 refine Yr ?_
 simp only[show ¬((i:Int)<0) from by lia,if_false,ZC,abG hi]
 refine Yo ?_
 first|refine Yo (aaN ty (Yr ?_))|refine Yo (abi ty (Yr ?_))
 change YR _ _ (setField (.ref it) 0 .none >>= _) _ _ s
 refine Yo (abB i1 i3 (by simp) ?_)
 change YR _ _ (newExc (.type "StopIteration") [] >>= _) _ _ _
 refine Yo ?_
 simp only[newExc,newTuple]
 refine Yo (Y6 (hd:=by size_fits) ?_)
 refine Yo (m:=aba _ _) (acM (a:=Value.none) (by first|rfl|(simp only[aba];rfl)) (Y6 (hd:=by size_fits) ?_))
 simp only[raiseNew]
 refine Yo (wpAny_handled ?_)
 rw[show A.in1.handled=none from hh]
 refine Yo (Yr (wpAny_throw ?_))
 refine Yo (abx (b:=true) (T:="StopIteration") ⟨_,YA _ rfl,rfl⟩ adX ?_)
 exact Yr (q _ (((aay ..).extBut.push _).push _))
theorem JA (lo:(d==ZQ)=false)(x:gx s.heap d ds ep)(q:∀h',h'.IsValuesView s.heap.objs.size d→(∀b o,s.heap.get? b=some o→h'.get? b=some o)→Q (.ref s.heap.objs.size) {s with heap:=h'}) :
  YR (Y7 prog w) A (Builtin.«dict.values» ⟨[.ref d],[]⟩) (fun f s'=>∃v,f=.done (.ret v)∧Q v s') E s:=by
 refine Yo ?_
 unfold Builtin.Dict.noArgs
 refine Yo (aa7 x.ty ?_)
 change YR _ _ (pure d) _ _ s
 refine Yr ?_
 change YR _ _ (aam d >>= _) _ _ s
 unfold aam
 rw[if_neg (by rw[lo];exact Yq)]
 exact Yo (Yr (Yo (Y6 (Yr ⟨_,rfl,q _ ⟨_,YA _ rfl,rfl,rfl⟩ fun b o e=>Yt _ e⟩))))
theorem JB (hv:s.heap.IsValuesView vw d)(x:gx s.heap d ds ep)(q:Q (.ref s.heap.objs.size) {s with heap:=s.heap.push {cls:=.type "dict_valueiterator",data:=.fields #[.ref d,.int 0 0,.int ds.size 0,.int ep 0]}}):YR (Y7 prog w) A (pyIter (.ref vw)) Q E s:=by
 have ty:=hv.typeIs
 obtain⟨ov,v1,v2,v3⟩:=hv
 obtain⟨od,e1,e2,e3⟩:=x
 refine acN ty F.slot_dict_values_iter (Y8 F.slot_dict_values_iter ty F.entry_dict_values_iter ?_ (F.args_dict_values_iter_1 _))
 unfold Builtin.«dict_values.__iter__»
 refine Yo (Yr (Yo ?_))
 unfold ad1
 refine Yo (ZS v1 v3 (x:=.ref d) rfl (Yr (Yo ?_)))
 unfold acX
 refine Yo (ZK e1 e3 (Yo (aaf e1 e3 ?_)))
 simp only[show Zy "dict_valueiterator"=false by decide,ZE,if_false]
 refine Y6 (Yr ⟨_,rfl,"dict_valueiterator",_,⟨_,YA _ rfl,rfl⟩,F.slot_dict_valueiterator_next.lookup,?_⟩)
 simpa [ab2] using q
theorem JC {Q:Option Yv→YK→Prop}(t:s.heap.IsValIter it d i ds.size ep)(x:gx s.heap d ds ep)(hi:i<ds.size)
  (q:∀h',h'.IsValIter it d (i+1) ds.size ep→aaC it s.heap h'→Q (some ds[i].val) {s with heap:=h'}):YR (Y7 prog w) A (acf (.ref it)) Q E s:=by
 have ty:=t.typeIs
 obtain⟨oi,i1,i2,i3⟩:=t
 obtain⟨od,e1,e2,e3⟩:=x
 unfold acf
 refine Yo (aaB (Zo (name:=Z5 "__next__") ty aaG (Y8 aaG ty acO ?_ (acx _))))
 refine Yo (Yr (Yo (Yo ?_)))
 first|refine Yo (aaO ty (Yr ?_))|refine Yo (abj ty (Yr ?_))
 refine Yo (ab6 i1 i3 ?_)
 simp only[show Zy "dict_valueiterator"=false by decide,ZE,if_false]
 change YR _ _ (if (Value.ref d==Value.none)=true then _ else _) _ _ s
 rw[if_neg (show ¬((Value.ref d==Value.none)=true) from Yq)]
 refine Yo (Yr (Yo (ZK e1 e3 ?_)))
 rw[if_neg (by simp)]
 refine Yo (Yr (Yo (aaf e1 e3 ?_)))
 rw[if_neg (by simp)]
 refine Yr ?_
 simp only[show ¬((i:Int)<0) from by lia,if_false,ZC,aaa hi]
 refine Yo ?_
 first|refine Yo (aaO ty (Yr ?_))|refine Yo (abj ty (Yr ?_))
 refine Yo (acY ty ?_)
 change YR _ _ (setField (.ref it) 1 (ab2 ((i:Int)+1)) >>= _) _ _ s
 refine Yo (abB i1 i3 (by simp) ?_)
 have t':(s.heap.update it (ade (·.setIfInBounds 1 (ab2 ((i:Int)+1))))).IsValIter it d (i+1) ds.size ep :=
  ⟨_,abN _ i1 (acU (aa4 i3 _)),(aeb ..).trans i2,by rw[aa4 i3];simp[ab2]⟩
 refine Yo (ZL (Yo ?_))
 refine acY (s:={s with heap:=s.heap.update it (ade (·.setIfInBounds 1 (ab2 ((i:Int)+1))))}) t'.typeIs (Yo ?_)
 refine acY (s:={s with heap:=s.heap.update it (ade (·.setIfInBounds 1 (ab2 ((i:Int)+1))))}) t'.typeIs ?_
 change YR _ _ (pure ds[i].val) _ _ _
 exact Yr (Yr ⟨_,rfl,Yr (q _ t' (aay ..))⟩)
theorem JD {Q:Option Yv→YK→Prop}(hh:A.handled=none)(t:s.heap.IsValIter it d i ds.size ep)(x:gx s.heap d ds ep)(hi:ds.size≤i)
  (q:∀h',Heap.ExtBut it s.heap h'→Q none {s with heap:=h'}):YR (Y7 prog w) A (acf (.ref it)) Q E s:=by
 have ty:=t.typeIs
 obtain⟨oi,i1,i2,i3⟩:=t
 obtain⟨od,e1,e2,e3⟩:=x
 unfold acf
 refine Yo (aaB (Zo (name:=Z5 "__next__") ty aaG (Y8 aaG ty acO ?_ (acx _))))
 refine Yo (Yr (Yo (Yo ?_)))
 first|refine Yo (aaO ty (Yr ?_))|refine Yo (abj ty (Yr ?_))
 refine Yo (ab6 i1 i3 ?_)
 simp only[show Zy "dict_valueiterator"=false by decide,ZE,if_false]
 change YR _ _ (if (Value.ref d==Value.none)=true then _ else _) _ _ s
 rw[if_neg (show ¬((Value.ref d==Value.none)=true) from Yq)]
 refine Yo (Yr (Yo (ZK e1 e3 ?_)))
 rw[if_neg (by simp)]
 refine Yo (Yr (Yo (aaf e1 e3 ?_)))
 rw[if_neg (by simp)]
 refine Yr ?_
 simp only[show ¬((i:Int)<0) from by lia,if_false,ZC,abG hi]
 refine Yo ?_
 first|refine Yo (aaO ty (Yr ?_))|refine Yo (abj ty (Yr ?_))
 change YR _ _ (setField (.ref it) 0 .none >>= _) _ _ s
 refine Yo (abB i1 i3 (by simp) ?_)
 change YR _ _ (newExc (.type "StopIteration") [] >>= _) _ _ _
 refine Yo ?_
 simp only[newExc,newTuple]
 refine Yo (Y6 (hd:=by size_fits) ?_)
 refine Yo (m:=aba _ _) (acM (a:=Value.none) (by first|rfl|(simp only[aba];rfl)) (Y6 (hd:=by size_fits) ?_))
 simp only[raiseNew]
 refine Yo (wpAny_handled ?_)
 rw[show A.in1.handled=none from hh]
 refine Yo (Yr (wpAny_throw ?_))
 refine Yo (abx (b:=true) (T:="StopIteration") ⟨_,YA _ rfl,rfl⟩ adX ?_)
 exact Yr (q _ (((aay ..).extBut.push _).push _))
theorem Ot (lo:(d==ZQ)=false)(x:gx s.heap d ds ep)(q:∀h',h'.IsItemsView s.heap.objs.size d→(∀b o,s.heap.get? b=some o→h'.get? b=some o)→Q (.ref s.heap.objs.size) {s with heap:=h'}) :
  YR (Y7 prog w) A (Builtin.«dict.items» ⟨[.ref d],[]⟩) (fun f s'=>∃v,f=.done (.ret v)∧Q v s') E s:=by
 unfold Builtin.«dict.items»
 refine Yo ?_
 unfold Builtin.Dict.noArgs
 refine Yo (aa7 x.ty ?_)
 change YR _ _ (pure d) _ _ s
 refine Yr ?_
 change YR _ _ (aam d >>= _) _ _ s
 unfold aam
 rw[if_neg (by rw[lo];exact Yq)]
 exact Yo (Yr (Yo (Y6 (Yr ⟨_,rfl,q _ ⟨_,YA _ rfl,rfl,rfl⟩ fun b o e=>Yt _ e⟩))))
theorem Ou (hv:s.heap.IsItemsView vw d)(x:gx s.heap d ds ep)(q:∀h',abC h' s.heap.objs.size d 0 ds.size ep .none .none→(∀b o,s.heap.get? b=some o→h'.get? b=some o)→Q (.ref s.heap.objs.size) {s with heap:=h'}):YR (Y7 prog w) A (pyIter (.ref vw)) Q E s:=by
 have ty:=hv.typeIs
 obtain⟨ov,v1,v2,v3⟩:=hv
 obtain⟨od,e1,e2,e3⟩:=x
 refine acN ty F.slot_dict_items_iter (Y8 F.slot_dict_items_iter ty F.entry_dict_items_iter ?_ (F.args_dict_items_iter_1 _))
 unfold Builtin.«dict_items.__iter__»
 refine Yo (Yr (Yo ?_))
 unfold ad1
 refine Yo (ZS v1 v3 (x:=.ref d) rfl (Yr (Yo ?_)))
 unfold acX
 refine Yo (ZK e1 e3 (Yo (aaf e1 e3 ?_)))
 simp only[show Zy "dict_itemiterator"=true by decide,if_true]
 refine Y6 (Yr ⟨_,rfl,"dict_itemiterator",_,⟨_,YA _ rfl,rfl⟩,F.slot_dict_itemiterator_next.lookup,?_⟩)
  (by simp only[sizeOk,acb,YB,Yu,YN,abO,aaq];lia)
 exact q _ (by
  have:=YA s.heap (o:={cls:=.type "dict_itemiterator",data:=.fields #[.none,.bool false,.ref d,.int 0 0,.int ds.size 0,.int ep 0,.none,.none]}) rfl
  unfold abC;simpa [ab2,acb] using this) fun b o e=>Yt _ e
theorem Ov {ok ov:Yv}{Q:Option Yv→YK→Prop}(t:abC s.heap it d i ds.size ep ok ov)(x:gx s.heap d ds ep)(hi:i<ds.size)
  (q:∀h',IsItemIterOut h' it d (i+1) ds.size ep ds[i].key ds[i].val s.heap.objs.size→h'.get? s.heap.objs.size=some {cls:=.type "tuple",data:=.seq #[ds[i].key,ds[i].val]} →
   (∀b o,b≠it→s.heap.get? b=some o→h'.get? b=some o)→Q (some (.ref s.heap.objs.size)) {s with heap:=h'}):YR (Y7 prog w) A (acf (.ref it)) Q E s:=by
 obtain⟨hp,g,dr,tk,os⟩:=s
 have ty:Shared.TypeIs ⟨hp,g,dr,tk,os⟩ (.ref it) "dict_itemiterator":=⟨_,t,rfl⟩
 obtain⟨od,e1,e2,e3⟩:=x
 unfold acf
 refine Yo (aaB (Zo (name:=Z5 "__next__") ty aaP (Y8 aaP ty acZ ?_ (acP _))))
 refine Yo (Yr (Yo (Yo ?_)))
 first|refine Yo (aaH ty (Yr ?_))|refine Yo (abc ty (Yr ?_))
 refine Yo (ab6 t rfl ?_)
 simp only[show Zy "dict_itemiterator"=true by decide,if_true]
 change YR _ _ (if (Value.ref d==Value.none)=true then _ else _) _ _ _
 rw[if_neg (show ¬((Value.ref d==Value.none)=true) from Yq)]
 refine Yo (Yr (Yo (ZK e1 e3 ?_)))
 rw[if_neg (by simp)]
 refine Yo (Yr (Yo (aaf e1 e3 ?_)))
 rw[if_neg (by simp)]
 refine Yr ?_
 simp only[show ¬((i:Int)<0) from by lia,if_false,ZC,aaa hi]
 refine Yo ?_
 first|refine Yo (aaH ty (Yr ?_))|refine Yo (abc ty (Yr ?_))
 refine Yo (acD ty ?_)
 change YR _ _ (setField (.ref it) 3 (ab2 ((i:Int)+1)) >>= _) _ _ ⟨hp,g,dr,tk,os⟩
 refine Yo (ZO t (by simp) fun g1 t1 b1 => ?_)
 replace b1:aaC it hp g1:=b1
 replace t1:abC g1 it d (i+1) ds.size ep ok ov:=by
  have z:((i+1:Nat):Int)=(i:Int)+1:=by lia
  unfold abC;rw[z];simpa [ab2] using t1
 have Vo:Shared.TypeIs ⟨g1,g,dr,tk,os⟩ (.ref it) "dict_itemiterator":=⟨_,t1,rfl⟩
 refine Yo (ZL (Yo (acD Vo (Yo (acD Vo ?_)))))
 change YR _ _ (acy (.ref it) 6 ds[i].key ds[i].val) _ _ ⟨g1,g,dr,tk,os⟩
 unfold acy
 refine Yo (wpAny_newTuple ?_)
 have t2:abC (g1.push {cls:=.type "tuple",data:=.seq #[ds[i].key,ds[i].val]}) it d (i+1) ds.size ep ok ov:=Yt _ t1
 have n1:g1.objs.size=hp.objs.size:=b1.1
 have lt:it<hp.objs.size:=YE t
 have u2:(g1.push {cls:=.type "tuple",data:=.seq #[ds[i].key,ds[i].val]}).get? hp.objs.size=some {cls:=.type "tuple",data:=.seq #[ds[i].key,ds[i].val]}:=by rw[←n1];exact YA _ rfl
 have k2:∀b o,b≠it→hp.get? b=some o→(g1.push {cls:=.type "tuple",data:=.seq #[ds[i].key,ds[i].val]}).get? b=some o:=fun b o hb e=>Yt _ (b1.extBut b o hb e)
 change YR _ _ (acd (.ref it) >>= _) _ _ ⟨g1.push {cls:=.type "tuple",data:=.seq #[ds[i].key,ds[i].val]},g,dr,tk,os⟩
 rw[n1]
 generalize g1.push {cls:=.type "tuple",data:=.seq #[ds[i].key,ds[i].val]}=g2 at t2 u2 k2 ⊢
 refine Yo ?_
 unfold acd
 refine Yo (ZS t2 rfl (x:=.none) rfl (Yr ?_))
 simp only[if_true]
 refine Yo (ZS t2 rfl (x:=ok) rfl (Yo (ZS t2 rfl (x:=ov) rfl ?_)))
 refine Yo (ZO t2 (by simp) fun g3 t3 b3 => ?_)
 replace b3:aaC it g2 g3:=b3
 replace t3:abC g3 it d (i+1) ds.size ep ds[i].key ov:=t3
 refine Yo (ZO t3 (by simp) fun g4 t4 b4 => ?_)
 replace b4:aaC it g3 g4:=b4
 replace t4:abC g4 it d (i+1) ds.size ep ds[i].key ds[i].val:=t4
 refine Yo (ZO t4 (by simp) fun g5 t5 b5 => ?_)
 replace b5:aaC it g4 g5:=b5
 replace t5:IsItemIterOut g5 it d (i+1) ds.size ep ds[i].key ds[i].val hp.objs.size:=t5
 refine Yo (ZO t5 (by simp) fun g6 t6 b6 => ?_)
 replace b6:aaC it g5 g6:=b6
 replace t6:IsItemIterOut g6 it d (i+1) ds.size ep ds[i].key ds[i].val hp.objs.size:=t6
 have up:∀b o,b≠it→g2.get? b=some o→g6.get? b=some o:=fun b o hb e=>b6.extBut b o hb (b5.extBut b o hb (b4.extBut b o hb (b3.extBut b o hb e)))
 exact Yo (wpAny_letGo (Yr (Yr ⟨_,rfl,Yr (q g6 t6 (up _ _ (abq lt) u2) fun b o hb e=>up b o hb (k2 b o hb e))⟩)))
theorem Ow {ok ov:Yv}{Q:Option Yv→YK→Prop}(hh:A.handled=none)(t:abC s.heap it d i ds.size ep ok ov)(x:gx s.heap d ds ep)(hi:ds.size≤i)
  (q:∀h',Heap.ExtBut it s.heap h'→Q none {s with heap:=h'}):YR (Y7 prog w) A (acf (.ref it)) Q E s:=by
 have ty:s.TypeIs (.ref it) "dict_itemiterator":=⟨_,t,rfl⟩
 obtain⟨od,e1,e2,e3⟩:=x
 unfold acf
 refine Yo (aaB (Zo (name:=Z5 "__next__") ty aaP (Y8 aaP ty acZ ?_ (acP _))))
 refine Yo (Yr (Yo (Yo ?_)))
 first|refine Yo (aaH ty (Yr ?_))|refine Yo (abc ty (Yr ?_))
 refine Yo (ab6 t rfl ?_)
 simp only[show Zy "dict_itemiterator"=true by decide,if_true]
 change YR _ _ (if (Value.ref d==Value.none)=true then _ else _) _ _ s
 rw[if_neg (show ¬((Value.ref d==Value.none)=true) from Yq)]
 refine Yo (Yr (Yo (ZK e1 e3 ?_)))
 rw[if_neg (by simp)]
 refine Yo (Yr (Yo (aaf e1 e3 ?_)))
 rw[if_neg (by simp)]
 refine Yr ?_
 simp only[show ¬((i:Int)<0) from by lia,if_false,ZC,abG hi]
 refine Yo ?_
 first|refine Yo (aaH ty (Yr ?_))|refine Yo (abc ty (Yr ?_))
 change YR _ _ (setField (.ref it) 2 .none >>= _) _ _ s
 refine Yo (abB t rfl (by simp) ?_)
 change YR _ _ (newExc (.type "StopIteration") [] >>= _) _ _ _
 refine Yo ?_
 simp only[newExc,newTuple]
 refine Yo (Y6 (hd:=by size_fits) ?_)
 refine Yo (m:=aba _ _) (acM (a:=Value.none) (by first|rfl|(simp only[aba];rfl)) (Y6 (hd:=by size_fits) ?_))
 simp only[raiseNew]
 refine Yo (wpAny_handled ?_)
 rw[show A.in1.handled=none from hh]
 refine Yo (Yr (wpAny_throw ?_))
 refine Yo (abx (b:=true) (T:="StopIteration") ⟨_,YA _ rfl,rfl⟩ adX ?_)
 exact Yr (q _ (((aay ..).extBut.push _).push _))
end
end Hc.Dw
namespace L2
open Hc.Dw
theorem qp {α β:Type}{R:α→β→Prop}:∀{xs:List α} {ys:List β} {i:Nat} {y:β},abH R xs ys→ys[i]? = some y→∃x,xs[i]? = some x∧R x y
 |_,_,_,_,.nil,h=>by simp at h
 |x::xs,y'::ys,0,y,.cons r t,h=>by simp at h;subst h;exact⟨x,by simp,r⟩
 |x::xs,y'::ys,i+1,y,.cons r t,h=>by
  obtain⟨x',m,q⟩:=qp t (i:=i) (by simpa using h)
  exact⟨x',by simpa using m,q⟩
theorem aw.rawD (I:aw X pins σ H s)(q:H a=some (DN a ep es)):(a==ZQ)=false∧∃ds,gx s.heap a ds ep∧ds.size=es.length∧∀(i:Nat) (hi:i<ds.size),∃e,es[i]? = some e∧ds[i].key=.ref e.2.1∧aO e.2.2 ds[i].val:=by
 obtain⟨⟨l,o,ds,xs,h1,h2,h3,h4,h5⟩,_⟩:=I.hok a _ q
 have n1:ds.size=es.length:=by rw[←Yz,h5,Yp,abt h4]
 refine⟨l,ds,⟨o,h1,h2,h3⟩,n1,fun i hi => ?_⟩
 have e1:ds.toList[i]? = some ds[i]:=by rw[Zj];exact getElem?_pos ds i hi
 rw[h5,YH] at e1
 cases e2:xs[i]? with
 |none=>rw[e2] at e1;cases e1
 |some x =>
  rw[e2] at e1
  have e3:NK x=ds[i]:=by injection e1
  obtain⟨e,m,r⟩:=qp h4 e2
  refine⟨e,m,?_,?_⟩
  ·rw[←e3,r.2.1];rfl
  ·rw[←e3];exact r.2.2
noncomputable def Q8 (a:YM)(ep:Nat)(es:List (List U×YM×V)):It :=
 ⟨fun i H=>H a=some (DN a ep es)∧i<es.length,fun i H v H'=>H'=H∧∃e,es[i]? = some e∧v=.ref e.2.1,fun i H=>H a=some (DN a ep es)∧es.length≤i⟩
noncomputable def Q9 (a:YM)(ep:Nat)(es:List (List U×YM×V)):It :=
 ⟨fun i H=>H a=some (DN a ep es)∧i<es.length,fun i H v H'=>H'=H∧∃e,es[i]? = some e∧v=e.2.2,fun i H=>H a=some (DN a ep es)∧es.length≤i⟩
noncomputable def Q_ (a:YM)(ep:Nat)(es:List (List U×YM×V)):It :=
 ⟨fun i H=>H a=some (DN a ep es)∧i<es.length,fun i H v H'=>∃T e,v=.ref T∧H T=none∧es[i]? = some e∧H'=cm H T (.tup [.ref e.2.1,e.2.2]),fun i H=>H a=some (DN a ep es)∧es.length≤i⟩
theorem BN:sV P w K tg (Q8 a ep es) [it] it (fun i h=>h.IsKeyIter it a i es.length ep) where
 mem:=by simp
 obj:=fun i h st b hb=>by
  have e:b=it:=by simpa using hb
  subst e
  obtain⟨o,e,c,d⟩:=st
  exact⟨o,e,fun v z=>by rw[d] at z;cases z⟩
 keep:=fun i h h' st k=>st.at fun o e=>k it (by simp) o e
 item:=by
  intro X hP hw hK hc i pins s σ H E I hf st hg
  subst hP hw hK
  obtain⟨hq,hi⟩:=hg
  obtain⟨_,ds,rd,n,at_⟩:=I.rawD hq
  obtain⟨f0,f1,f2,f3,f4,f5⟩:=hf it (by simp)
  rw[←n] at st hi
  obtain⟨e,m,ek,rv⟩:=at_ i hi
  refine Jy st rd hi fun h' aE sb => ?_
  have I1:aw X pins σ H {s with heap:=h'}:=I.turned (t':=s.toks) (fun b o hb e=>(sb.2 b hb).trans e) f0 f1 f3 f4 f5
  rw[n] at aE
  obtain⟨o,e1,c,d⟩:=id aE
  exact⟨_,rfl,vg (s:={s with heap:=h'}) e1 c d (by decide) ⟨.ref e.2.1,H,I1,ek,⟨rfl,e,m,rfl⟩,aE,fun b hb=>(hf b hb).1⟩⟩
 done:=by
  intro X hP hw hK hc i pins s σ H E I hf st hg
  subst hP hw hK
  obtain⟨hq,hi⟩:=hg
  obtain⟨_,ds,rd,n,at_⟩:=I.rawD hq
  obtain⟨f0,f1,f2,f3,f4,f5⟩:=hf it (by simp)
  rw[←n] at st hi
  exact Jz (I.ok.hd hc) st rd hi fun h' eb=>⟨rfl,I.turned (t':=s.toks) (fun b o hb e=>eb b o hb e) f0 f1 f3 f4 f5⟩
 self:=fun _ _ _ _ _ st h=>wpAny_pyIter_keyiter st h
theorem BO:sV P w K tg (Q9 a ep es) [it] it (fun i h=>h.IsValIter it a i es.length ep) where
 mem:=by simp
 obj:=fun i h st b hb=>by
  have e:b=it:=by simpa using hb
  subst e
  obtain⟨o,e,c,d⟩:=st
  exact⟨o,e,fun v z=>by rw[d] at z;cases z⟩
 keep:=fun i h h' st k=>st.at fun o e=>k it (by simp) o e
 item:=by
  intro X hP hw hK hc i pins s σ H E I hf st hg
  subst hP hw hK
  obtain⟨hq,hi⟩:=hg
  obtain⟨_,ds,rd,n,at_⟩:=I.rawD hq
  obtain⟨f0,f1,f2,f3,f4,f5⟩:=hf it (by simp)
  rw[←n] at st hi
  obtain⟨e,m,ek,rv⟩:=at_ i hi
  refine JC st rd hi fun h' aE sb => ?_
  have I1:aw X pins σ H {s with heap:=h'}:=I.turned (t':=s.toks) (fun b o hb e=>(sb.2 b hb).trans e) f0 f1 f3 f4 f5
  rw[n] at aE
  obtain⟨o,e1,c,d⟩:=id aE
  exact⟨_,rfl,vg (s:={s with heap:=h'}) e1 c d (by decide) ⟨e.2.2,H,I1,rv,⟨rfl,e,m,rfl⟩,aE,fun b hb=>(hf b hb).1⟩⟩
 done:=by
  intro X hP hw hK hc i pins s σ H E I hf st hg
  subst hP hw hK
  obtain⟨hq,hi⟩:=hg
  obtain⟨_,ds,rd,n,at_⟩:=I.rawD hq
  obtain⟨f0,f1,f2,f3,f4,f5⟩:=hf it (by simp)
  rw[←n] at st hi
  exact JD (I.ok.hd hc) st rd hi fun h' eb=>⟨rfl,I.turned (t':=s.toks) (fun b o hb e=>eb b o hb e) f0 f1 f3 f4 f5⟩
 self:=fun _ _ _ _ _ st h=>wpAny_pyIter_valiter st h
theorem qr:entryFor table "dict_itemiterator.__iter__"=some Builtin.«dict_keyiterator.__iter__» :=
 entryFor_alias (id':="dict_keyiterator.__iter__") (by kernel_rfl) rfl (by decide +kernel) (by kernel_rfl)
theorem yq {A:Zw}{ok ov:Yv}(st:abC s.heap it a i n ep ok ov)(h:Q (.ref it) s):YR (Y7 P w) A (pyIter (.ref it)) Q E s:=by
 have ty:s.TypeIs (.ref it) "dict_itemiterator":=⟨_,st,rfl⟩
 refine acN ty ac2 (Y8 ac2 ty qr ?_ (F.args_dict_itemiterator_iter_1 _))
 change YR _ _ (ret (.ref it)) _ _ s
 exact Yr ⟨_,rfl,"dict_itemiterator",_,ty,F.slot_dict_itemiterator_next.lookup,h⟩
theorem yr:sV P w K (.Tuple elts kt tp) (Q_ a ep es) [it] it (fun i h=>∃ok ov,abC h it a i es.length ep ok ov) where
 mem:=by simp
 obj:=fun i h st b hb=>by
  have e:b=it:=by simpa using hb
  subst e
  obtain⟨ok,ov,q⟩:=st
  exact⟨_,q,fun v z=>by cases z⟩
 keep:=fun i h h' ⟨ok,ov,q⟩ k=>⟨ok,ov,k it (by simp) _ q⟩
 item:=by
  intro X hP hw hK hc i pins s σ H E I hf st hg
  subst hP hw hK
  obtain⟨hq,hi⟩:=hg
  obtain⟨_,ds,rd,n,at_⟩:=I.rawD hq
  obtain⟨ok,ov,st⟩:=st
  rw[←n] at st hi
  obtain⟨e,m,ek,rv⟩:=at_ i hi
  have lt:it<s.heap.objs.size:=YE st
  refine Ov st rd hi fun h' aE tu kp=>⟨_,rfl,?_⟩
  refine wpAny_letOwnedTupleGo_items aE fun h2 jL sb => ?_
  have Vp:=sb.extBut _ _ (abq lt) tu
  have I2:aw X pins σ (cm H s.heap.objs.size (.tup [.ref e.2.1,e.2.2])) {s with heap:=h2}:=I.turnNew (fp:=[it]) (t':=s.toks) hf (fun b o hb q=>by
   have hb:b≠it:=by simpa using hb
   exact sb.extBut _ _ hb (kp b o hb q)) (YC _) ⟨by rw[aaq];simp,[ds[i].key,ds[i].val],.cons ek (.cons rv .nil),⟨_,Vp,rfl,_,rfl⟩,_,Vp⟩
  refine⟨.ref s.heap.objs.size,_,I2,rfl,⟨_,e,rfl,I.hok.fresh (YC _),m,rfl⟩,⟨_,_,by rw[←n];exact jL⟩,fun b hb => ?_⟩
  have Qa:b=it:=by simpa using hb
  rw[aD (by rw[Qa];exact Y0 lt)]
  exact (hf b hb).1
 done:=by
  intro X hP hw hK hc i pins s σ H E I hf st hg
  subst hP hw hK
  obtain⟨hq,hi⟩:=hg
  obtain⟨_,ds,rd,n,at_⟩:=I.rawD hq
  obtain⟨f0,f1,f2,f3,f4,f5⟩:=hf it (by simp)
  obtain⟨ok,ov,st⟩:=st
  rw[←n] at st hi
  exact Ow (I.ok.hd hc) st rd hi fun h' eb=>⟨rfl,I.turned (t':=s.toks) (fun b o hb e=>eb b o hb e) f0 f1 f3 f4 f5⟩
 self:=fun _ _ _ _ _ ⟨ok,ov,st⟩ h=>yq st h
noncomputable def PU (J:YM→Nat→List (List U×YM×V)→It)(tl:TE):TI:=fun σ H R=>tl σ H fun x H1=>∃a ep es,x=.ref a∧H1 a=some (DN a ep es)∧R (J a ep es) H1
structure M0 (X:Cx)(o:aav)(m:Str)(dw cpos:Pos):Prop where
 base:ac9 o m X.env (abE o X.env)=abE o X.env
 few:((aaQ cpos (YF [] X.env)).all (fun x => !x.1)&&(backToKw cpos (keywordEach [] X.env)).all (fun x=>x.1.isSome)
  && decide (([]:List aav).length+([]:List adV).length+(if ([]:List adV).isEmpty then 0 else 1)<30))=true
 line:(dw.endLine==cpos.line)=true
 trees:aaQ cpos (YF [] X.env)=[]
section
variable {e:aav}{tl:TE}{dw cpos:Pos}
theorem yt (I:aw X pins σ H s)(q:H a=some (DN a ep es)):s.TypeIs (.ref a) "dict"∧∀b,Value.ref a=.ref b→∃ob,s.heap.get? b=some ob∧ob.dict=none:=by
 obtain⟨_,ds,rd,_⟩:=I.rawD q
 refine⟨rd.ty,fun b z => ?_⟩
 cases z
 obtain⟨o,h1,h2,_⟩:=rd
 exact⟨o,h1,h2.2.1⟩
theorem Hf (hl:PE X e tl):PI X tg e (PU Q8 tl):=by
 intro pins s σ H R I h
 refine dz (hl pins s σ H _ I h) fun v s1 ⟨x,H1,I1,r1,a,ep,es,ex,hq,q⟩ => ?_
 subst ex
 cases r1
 obtain⟨lo,ds,rd,n,_⟩:=I1.rawD hq
 refine Jx lo rd ?_
 refine⟨s1.heap.objs.size,[s1.heap.objs.size],_,_,H1,rfl,I1.kept (t':=s1.toks) fun b o e=>Yt _ e,BN (a:=a) (ep:=ep) (es:=es),⟨_,YA _ rfl,rfl,by rw[n];rfl⟩,fun b hb => ?_,q⟩
 have e:b=s1.heap.objs.size:=by simpa using hb
 exact I1.fpOk (by rw[e];exact YC _) (I1.hok.fresh (by rw[e];exact YC _))
theorem EH (hl:PE X e tl)(m:M0 X e "items" dw cpos):PI X (.Tuple elts kt tp) (.Call (.Attribute e "items" dw) [] [] cpos) (PU Q_ tl):=by
 intro pins s σ H R I h
 refine acL m.base m.few m.line abv PySem.F.slot_dict_items PySem.F.type_dict_items (dz (hl pins s σ H _ I h) fun v s1 ⟨x,H1,I1,r1,a,ep,es,ex,hq,q⟩ => ?_)
 subst ex
 cases r1
 obtain⟨t1,t2⟩:=yt I1 hq
 refine⟨t1,t2,?_⟩
 rw[m.trees]
 obtain⟨lo,ds,rd,n,_⟩:=I1.rawD hq
 refine aaY rfl (abY ?_)
 refine Y8 PySem.F.slot_dict_items t1 PySem.F.entry_dict_items (Ot lo rd fun h1 vw k1 => ?_) (PySem.F.args_dict_items_1 _)
 refine Ou vw (rd.at fun o z=>k1 _ o z) fun h2 st k2 => ?_
 have I2:aw X pins σ H1 {s1 with heap:=h2}:=I1.kept (t':=s1.toks) fun b o z=>k2 b o (k1 b o z)
 refine⟨h1.objs.size,[h1.objs.size],_,_,H1,rfl,I2,yr (a:=a) (ep:=ep) (es:=es),⟨_,_,by rw[←n];exact st⟩,fun b hb => ?_,q⟩
 have e:b=h1.objs.size:=by simpa using hb
 have ge:s1.heap.objs.size≤h1.objs.size:=by
  obtain⟨o,z,_⟩:=vw
  exact ace (YE z)
 exact I1.fpOk (by rw[e];exact ge) (I1.hok.fresh (by rw[e];exact ge))
theorem Hg (hl:PE X e tl)(m:M0 X e "values" dw cpos):PI X tg (.Call (.Attribute e "values" dw) [] [] cpos) (PU Q9 tl):=by
 intro pins s σ H R I h
 refine acL m.base m.few m.line abv abk aee (dz (hl pins s σ H _ I h) fun v s1 ⟨x,H1,I1,r1,a,ep,es,ex,hq,q⟩ => ?_)
 subst ex
 cases r1
 obtain⟨t1,t2⟩:=yt I1 hq
 refine⟨t1,t2,?_⟩
 rw[m.trees]
 obtain⟨lo,ds,rd,n,_⟩:=I1.rawD hq
 refine aaY rfl (abY ?_)
 refine Y8 abk t1 ad2 (JA lo rd fun h1 vw k1 => ?_) (adD _)
 refine JB vw (rd.at fun o z=>k1 _ o z) ?_
 have I2:aw X pins σ H1 {s1 with heap:=h1.push {cls:=.type "dict_valueiterator",data:=.fields #[.ref a,.int 0 0,.int ds.size 0,.int ep 0]}}:=I1.kept (t':=s1.toks) fun b o z=>Yt _ (k1 b o z)
 refine⟨h1.objs.size,[h1.objs.size],_,_,H1,rfl,I2,BO (a:=a) (ep:=ep) (es:=es),⟨_,YA _ rfl,rfl,by rw[n];rfl⟩,fun b hb => ?_,q⟩
 have e:b=h1.objs.size:=by simpa using hb
 have ge:s1.heap.objs.size≤h1.objs.size:=by
  obtain⟨o,z,_⟩:=vw
  exact ace (YE z)
 exact I1.fpOk (by rw[e];exact ge) (I1.hok.fresh (by rw[e];exact ge))
end
end L2
namespace L2
open Hc.Dw
mutual
theorem Ox {K:Yy}{H:Hp}{A:YM→Prop}:∀{u:U} {v:V},KH H u v→Rp K H A u v
 | .int i,v,h=>by unfold KH at h;unfold Rp;exact h
 | .tup us,v,h=>by
  unfold KH at h;unfold Rp
  obtain⟨b,ys,e,q,l,z⟩:=h
  exact⟨b,ys,e,q,l,yu z⟩
 | .non,v,h=>by unfold KH at h;exact h.elim
 | .bl _,v,h=>by unfold KH at h;exact h.elim
 | .str _,v,h=>by unfold KH at h;exact h.elim
 | .lst _,v,h=>by unfold KH at h;exact h.elim
 | .dct _ _,v,h=>by unfold KH at h;exact h.elim
 | .scr _,v,h=>by unfold KH at h;exact h.elim
theorem yu {K:Yy}{H:Hp}{A:YM→Prop}:∀{us:List U} {vs:List V},pA H us vs→az K H A us vs
 | [],vs,h=>by unfold pA at h;unfold az;exact h
 |u::us,vs,h=>by
  unfold pA at h;unfold az
  obtain⟨x,r,q,p,z⟩:=h
  exact⟨x,r,q,Ox p,yu z⟩
end
theorem JE (h:rg H us b):Rp K H A (.tup us) (.ref b):=by
 obtain⟨_,ys,q,l,z⟩:=h
 unfold Rp
 exact⟨b,ys,rfl,q,l,yu z⟩
noncomputable def Oy:U→Bool
 | .tup _=>true
 |_=>false
noncomputable def oP (ks:List U):Bool := !ks.isEmpty&&ks.all Oy
theorem uq (w:oP ks=true)(d:tG H a ks xs):∃es ep,H a=some (DN a ep es)∧(∀e∈es,rg H e.1 e.2.1)∧ks=es.map (fun p=>.tup p.1)∧xs=es.map (·.2.2):=by
 unfold oP at w
 rw[YG] at w
 rcases d with⟨aJ,h,rfl,rfl⟩|⟨es,n,h,e1,e2⟩
 ·exfalso
  cases aJ with
  |nil=>exact absurd w.1 (by simp)
  |cons p r =>
   have:=w.2
   rw[Yw,ZX,YG] at this
   obtain⟨p1,p2⟩:=p
   cases p1<;>cases this.1
 ·obtain⟨ep,q⟩:=h.ne n
  exact⟨es,ep,q,h.key,e1,e2⟩
theorem EI (mu:∀a,A a→Mu (H1 a))(w:oP ks=true)(h:Rp K H1 A (.dct ks us) v):∃a ep es,v=.ref a∧H1 a=some (DN a ep es) ∧
  Wk K false A ks (Q8 a ep es) H1∧Wk K false A us (Q9 a ep es) H1∧Wk K false A (aaT (fun k u=>.tup [k,u]) ks us) (Q_ a ep es) H1:=by
 unfold Rp at h
 obtain⟨a,xs,rfl,na,d,l,z⟩:=h
 obtain⟨es,ep,q,kt,e1,e2⟩:=uq w d
 subst e1 e2
 have le:es.length=us.length:=by rw[z.length,Yp]
 have key:∀(i:Nat) (e:List U×YM×V),es[i]? = some e→Rp K H1 A (.tup e.1) (.ref e.2.1):=fun i e he=>JE (kt e (Z4 he))
 have val:∀(i:Nat) (u:U),us[i]? = some u→∃e:List U×YM×V,es[i]? = some e∧Rp K H1 A u e.2.2:=fun i u hu=>by
  obtain⟨x,h1,h2⟩:=z.get hu
  rw[YH] at h1
  cases he:es[i]? with
  |none=>rw[he] at h1;cases h1
  |some e=>rw[he] at h1;cases h1;exact⟨e,rfl,h2⟩
 refine⟨a,ep,es,rfl,q,⟨?_,fun H A' hx ha => ?_⟩,⟨l,fun H A' hx ha => ?_⟩,⟨?_,fun H A' hx ha => ?_⟩⟩
 ·rw[Yp,le];exact l
 ·rw[if_neg Yq] at hx
  have qa:=hx a _ na q
  refine⟨fun i u hu => ?_,⟨qa,by rw[Yp];exact YC _⟩⟩
  rw[YH] at hu
  cases he:es[i]? with
  |none=>rw[he] at hu;cases hu
  |some e =>
   rw[he] at hu
   cases hu
   refine⟨⟨qa,(YD.mp he).1⟩,fun x H' y => ?_⟩
   obtain⟨rfl,e',he',rfl⟩:=y
   rw[he] at he';cases he'
   exact⟨aH.refl _,(key i e he).re mu hx ha⟩
 ·rw[if_neg Yq] at hx
  have qa:=hx a _ na q
  refine⟨fun i u hu => ?_,⟨qa,by rw[le];exact YC _⟩⟩
  obtain⟨e,he,r⟩:=val i u hu
  refine⟨⟨qa,(YD.mp he).1⟩,fun x H' y => ?_⟩
  obtain⟨rfl,e',he',rfl⟩:=y
  rw[he] at he';cases he'
  exact⟨aH.refl _,r.re mu hx ha⟩
 ·rw[abw];exact Zd (Nat.min_le_right _ _) l
 ·rw[if_neg Yq] at hx
  have qa:=hx a _ na q
  refine⟨fun i u hu => ?_,⟨qa,by rw[abw,Yp,le,Nat.min_self];exact YC _⟩⟩
  rw[List.getElem?_zipWith,YH] at hu
  cases hU:us[i]? with
  |none=>rw[hU] at hu;cases h:es[i]? <;> rw[h] at hu<;>cases hu
  |some u0 =>
   obtain⟨e,he,r⟩:=val i u0 hU
   rw[hU,he] at hu
   cases hu
   refine⟨⟨qa,(YD.mp he).1⟩,fun x H' y => ?_⟩
   obtain⟨T,e',rfl,hT,he',rfl⟩:=y
   rw[he] at he';cases he'
   have sm:=b_ hT (.tup [.ref e.2.1,e.2.2])
   refine⟨sm,?_⟩
   unfold Rp
   exact⟨T,_,rfl,aI,by have:Yx=16777216:=rfl;rw[this];simp,az.cons (((key i e he).re mu hx ha).same sm) (az.cons ((r.re mu hx ha).same sm) az.nil)⟩
noncomputable def PV (g:Ev→R (U×Ev)):Ev→R (List U×Ev):=fun ρ=>(g ρ).bind fun x=>match x.1 with
 | .dct ks _=>if oP ks=true then .ok (ks,x.2) else .stk
 |_=>.stk
noncomputable def Ra (g:Ev→R (U×Ev)):Ev→R (List U×Ev):=fun ρ=>(g ρ).bind fun x=>match x.1 with
 | .dct ks us=>if oP ks=true then .ok (us,x.2) else .stk
 |_=>.stk
noncomputable def JF (g:Ev→R (U×Ev)):Ev→R (List U×Ev):=fun ρ=>(g ρ).bind fun x=>match x.1 with
 | .dct ks us=>if oP ks=true then .ok (aaT (fun k u=>.tup [k,u]) ks us,x.2) else .stk
 |_=>.stk
section
variable {e:aav}{dw cpos:Pos}{b1:Bool}{m1:Md}{g1:Ev→R (U×Ev)}
theorem mD {f:List U→List U→List U}{J:YM→Nat→List (List U×YM×V)→It}(n1:m1≠.P)(hw:∀{K:Yy} {A:YM→Prop} {H1:Hp} {ks us:List U} {v:V},(∀a,A a→Mu (H1 a))→oP ks=true→Rp K H1 A (.dct ks us) v→∃a ep es,v=.ref a∧H1 a=some (DN a ep es)∧Wk K false A (f ks us) (J a ep es) H1){R:It→Hp→Prop}(h:Py X.K G b1 false (fun ρ=>(g1 ρ).bind fun x=>match x.1 with
   | .dct ks us=>if oP ks=true then .ok (f ks us,x.2) else .stk
   |_=>.stk) σ H R):PU J (tD X.K G b1 m1 g1) σ H R:=by
 obtain⟨Z,A,ρ,q,h⟩:=h
 dsimp only at h
 refine⟨Z,A,ρ,q,?_⟩
 cases e1:g1 ρ with
 |stk=>rw[e1] at h;exact h.elim
 |exc=>rw[e1] at h;exact h.elim
 |ok y =>
  obtain⟨u,ρ1⟩:=y
  rw[e1] at h
  intro v H1 q1 x1 s1 vm
  cases u with
  |dct ks us =>
   dsimp only[L2.R.bind] at h
   split at h
   ·rename_i JS ρ' e2
    split at e2
    ·rename_i c
     cases e2
     obtain⟨a,ep,es,ev,hq,wk⟩:=hw q1.mu c (vm.rp n1)
     exact⟨a,ep,es,ev,hq,h _ H1 q1 x1 s1 wk⟩
    ·cases e2
   ·exact h.elim
  |_=>exact h.elim
theorem Ad (h:DE X G e b1 m1 g1)(n1:m1≠.P:=by decide):DI X G tg e b1 false (PV g1):=⟨(Hf h.un).to fun σ H R z=>mD (f:=fun ks _=>ks) n1 (fun mu w r=>by
 obtain⟨a,ep,es,h1,h2,h3,_⟩:=EI mu w r;exact⟨a,ep,es,h1,h2,h3⟩) z⟩
theorem Hh (h:DE X G e b1 m1 g1)(n1:m1≠.P:=by decide)(m:M0 X e "values" dw cpos:=by exact⟨rfl,rfl,rfl,rfl⟩):DI X G tg (.Call (.Attribute e "values" dw) [] [] cpos) b1 false (Ra g1):=⟨(Hg h.un m).to fun σ H R z=>mD (f:=fun _ us=>us) n1 (fun mu w r=>by
 obtain⟨a,ep,es,h1,h2,_,h3,_⟩:=EI mu w r;exact⟨a,ep,es,h1,h2,h3⟩) z⟩
theorem jk (h:DE X G e b1 m1 g1)(n1:m1≠.P:=by decide)(m:M0 X e "items" dw cpos:=by exact⟨rfl,rfl,rfl,rfl⟩):DI X G (.Tuple elts kt tp) (.Call (.Attribute e "items" dw) [] [] cpos) b1 false (JF g1):=⟨(EH h.un m).to fun σ H R z=>mD (f:=fun ks us=>aaT (fun k u=>.tup [k,u]) ks us) n1 (fun mu w r=>by
 obtain⟨a,ep,es,h1,h2,_,_,h3⟩:=EI mu w r;exact⟨a,ep,es,h1,h2,h3⟩) z⟩
end
end L2
namespace L2
noncomputable def Gm.un (G:Gm)(i:Nat):Gm:=⟨G.own.set i false,G.io,G.W⟩
theorem iF:(G.un i).is i=false:=by
 unfold Gm.un Gm.is
 dsimp only
 rw[aa3,List.getElem?_set]
 split
 ·split<;>rfl
 ·rename_i h;exact absurd rfl h
theorem jm (h:i≠j):(G.un i).is j=G.is j:=by
 unfold Gm.un Gm.is
 dsimp only
 rw[aa3,aa3,Zf h]
section
variable {A':YM→Prop}{ρ':Ev}
theorem cE.un (r:cE K G Z A ρ σ H)(hi:G.io=true→i≠0):∃A',cE K (G.un i) Z A' ρ σ H:=by
 have io0:∀h:(G.un i).io=true,σ[0]? = some (some (.ref Z.a0))∧(G.un i).is 0=true:=fun h=>by
  obtain⟨a,b⟩:=r.io0 h
  exact⟨a,by rw[jm (hi h)];exact b⟩
 by_cases c:G.is i=true∧∃u,ρ[i]? = some (some u)
 ·obtain⟨c,u,hu⟩:=c
  obtain⟨a,h1,h2,h3,h4,h5⟩:=r.own c hu
  have na:¬Z.A0 a:=by
   rcases h4 with h4|⟨h4,h6⟩
   ·exact h4
   ·exact absurd h6 (hi h4)
  have sub:∀b,(A b∧b≠a)→A b:=fun b z=>z.1
  refine⟨fun b=>A b∧b≠a,?_⟩
  exact {
   slot:=fun j w hj=>by
    obtain⟨v,s1,s2⟩:=r.slot j w hj
    refine⟨v,s1,?_⟩
    by_cases e:i=j
    ·subst e
     rw[hu] at hj;cases hj
     rw[h1] at s1;cases s1
     rw[if_neg (by rw[iF];exact Yq)]
     exact h5.rp sub fun z=>z.2 rfl
    ·rw[jm e]
     by_cases cj:G.is j=true
     ·rw[if_pos cj] at s2 ⊢
      obtain⟨b,e1,e2,e3,e4,e5⟩:=s2
      refine⟨b,e1,⟨e2,fun z => ?_⟩,e3,e4,e5.mono sub⟩
      subst z e1
      exact r.dis i j u w b c cj e hu hj h1 s1
     ·rw[if_neg cj] at s2 ⊢
      exact s2.mono sub
   dis:=fun j k w w' b cj ck ne hj hk sj sk=>by
    have e1:i≠j:=fun z=>by subst z;rw[iF] at cj;cases cj
    have e2:i≠k:=fun z=>by subst z;rw[iF] at ck;cases ck
    rw[jm e1] at cj
    rw[jm e2] at ck
    exact r.dis j k w w' b cj ck ne hj hk sj sk
   mu:=fun b z=>r.mu b z.1
   sup:=fun b z=>⟨r.sup b z,fun e=>na (e▸z)⟩
   out:=fun b z=>r.out b z.1
   bas:=r.bas
   io0:=io0
   len:=r.len}
 ·refine⟨A,?_⟩
  exact {
   slot:=fun j w hj=>by
    obtain⟨v,s1,s2⟩:=r.slot j w hj
    refine⟨v,s1,?_⟩
    by_cases e:i=j
    ·subst e
     rw[if_neg (by rw[iF];exact Yq)]
     rw[if_neg (fun z=>c ⟨z,w,hj⟩)] at s2
     exact s2
    ·rw[jm e];exact s2
   dis:=fun j k w w' b cj ck ne hj hk sj sk=>by
    have e1:i≠j:=fun z=>by subst z;rw[iF] at cj;cases cj
    have e2:i≠k:=fun z=>by subst z;rw[iF] at ck;cases ck
    rw[jm e1] at cj
    rw[jm e2] at ck
    exact r.dis j k w w' b cj ck ne hj hk sj sk
   mu:=r.mu
   sup:=r.sup
   out:=r.out
   bas:=r.bas
   io0:=io0
   len:=r.len}
theorem cE.reun (r:cE K (G.un i) Z A ρ σ H):cE K G Z A (ρ.set i none) σ H where
 slot:=fun j w hj=>by
  rcases cK hj with⟨rfl,e⟩|⟨ne,e⟩
  ·cases e
  ·obtain⟨v,s1,s2⟩:=r.slot j w e
   rw[jm ne] at s2
   exact⟨v,s1,s2⟩
 dis:=fun j k w w' a cj ck ne hj hk sj sk=>by
  rcases cK hj with⟨rfl,e⟩|⟨n1,e1⟩
  ·cases e
  ·rcases cK hk with⟨rfl,e⟩|⟨n2,e2⟩
   ·cases e
   ·exact r.dis j k w w' a (by rw[jm n1];exact cj) (by rw[jm n2];exact ck) ne e1 e2 sj sk
 mu:=r.mu
 sup:=r.sup
 out:=r.out
 bas:=r.bas
 io0:=fun h=>by
  obtain⟨a,b⟩:=r.io0 h
  refine⟨a,?_⟩
  by_cases e:i=0
  ·subst e;rw[iF] at b;cases b
  ·rw[jm e] at b;exact b
 len:=by rw[Z8];exact r.len
end
noncomputable def wc (i:Nat)(g:Ev→SR):Ev→SR:=fun ρ=>match g ρ with
 | .nx ρ'=>.nx (ρ'.set i none)
 | .bk ρ'=>.bk (ρ'.set i none)
 | .ct ρ'=>.ct (ρ'.set i none)
 | .rt u ρ'=>.rt u (ρ'.set i none)
 |r=>r
section
variable {e:aav}{Mh:List adh}{m m1:Md}{g:Ev→SR}{g1:Ev→R (U×Ev)}{h1:Ev→R (Bool×Ev)}
theorem EJ (hi:G.io=true→i≠0){D:j3}(h:KW X.K G m (wc i g) D σ H):KW X.K (G.un i) m g D σ H:=by
 obtain⟨Z,A,ρ,q,f⟩:=h
 obtain⟨A',q'⟩:=q.un hi
 refine⟨Z,A',ρ,q',?_⟩
 unfold wc at f
 cases e:g ρ with
 |nx=>rw[e] at f;exact fun A2 σ2 H2 q2=>f A2 σ2 H2 q2.reun
 |bk=>rw[e] at f;exact fun A2 σ2 H2 q2=>f A2 σ2 H2 q2.reun
 |ct=>rw[e] at f;exact fun A2 σ2 H2 q2=>f A2 σ2 H2 q2.reun
 |rt=>rw[e] at f;exact fun A2 σ2 H2 v q2 vm=>f A2 σ2 H2 v q2.reun vm
 |exc=>rw[e] at f;exact f
 |stk=>rw[e] at f;exact f.elim
theorem ur (i:Nat)(h:xm X (G.un i) m Mh g)(hi:G.io=true→i≠0:=by decide):xm X G m Mh (wc i g):=⟨h.un.to fun _ _ _ z=>EJ hi z⟩
end
end L2
namespace Hc.Dw
open PySem.W PySem.Calls
section
variable {A:Zw}{d r I:YM}
theorem LG (hh:A.handled=none)(Fq:d≠I):Walks prog w A I [I,d] [I] ds.size (fun i v=>∃e,ds[i]? = some e∧v=e.key) (fun i h=>h.IsKeyIter I d i ds.size ep∧gx h d ds ep) where
 sub:=fun b hb=>by simp at hb;simp[hb]
 frame:=fun _ _ _ st hk=>⟨st.1.at fun o e=>hk I (by simp) o e,st.2.at fun o e=>hk d (by simp) o e⟩
 item:=fun i s Q E hi st hQ=>Jy st.1 st.2 hi fun h' t' sb=>hQ _ h' s.toks ⟨_,getElem?_pos ds i hi,rfl⟩ ⟨t',st.2.at fun o e=>sb.extBut _ _ Fq e⟩ fun b o hb e=>sb.extBut b o (fun h=>hb (by simp[h])) e
 done:=fun s Q E st hQ=>Jz hh st.1 st.2 (YC _) fun h' eb=>hQ h' s.toks fun b o hb e=>eb b o (fun h=>hb (by simp[h])) e
 self:=fun _ _ _ _ st hQ=>wpAny_pyIter_keyiter st.1 hQ
theorem LH (hh:A.handled=none)(Fq:d≠I):Walks prog w A I [I,d] [I] ds.size (fun i v=>∃e,ds[i]? = some e∧v=e.val) (fun i h=>h.IsValIter I d i ds.size ep∧gx h d ds ep) where
 sub:=fun b hb=>by simp at hb;simp[hb]
 frame:=fun _ _ _ st hk=>⟨st.1.at fun o e=>hk I (by simp) o e,st.2.at fun o e=>hk d (by simp) o e⟩
 item:=fun i s Q E hi st hQ=>JC st.1 st.2 hi fun h' t' sb=>hQ _ h' s.toks ⟨_,getElem?_pos ds i hi,rfl⟩ ⟨t',st.2.at fun o e=>sb.extBut _ _ Fq e⟩ fun b o hb e=>sb.extBut b o (fun h=>hb (by simp[h])) e
 done:=fun s Q E st hQ=>JD hh st.1 st.2 (YC _) fun h' eb=>hQ h' s.toks fun b o hb e=>eb b o (fun h=>hb (by simp[h])) e
 self:=fun _ _ _ _ st hQ=>wpAny_pyIter_valiter st.1 hQ
theorem Rb (lo:(d==ZQ)=false):KdlSrc prog w "dict" d d ds.size (fun i v=>∃e,ds[i]? = some e∧v=e.key) (fun h=>gx h d ds ep) where
 type:=fun _ hm=>hm.ty
 there:=fun _ hm=>⟨hm.lt,hm.lt⟩
 keep:=fun _ _ hm hk=>hm.at fun o e=>hk d (.inl rfl) o e
 notList:=by decide
 notTuple:=by decide
 hint:=fun _ _ _ _ hm hq=>kdl_hint_dict hm.ty hq
 iter:=fun _ s hh hm=>⟨_,_,(fun _ _ hq=>Jx lo hm hq),LG hh (Y0 hm.lt),⟨⟨_,YA _ rfl,rfl,rfl⟩,hm.at fun o e=>Yt _ e⟩⟩
theorem wd {T:String}{P:Nat→Yv→Prop}{OK:abr→Prop}(K:KdlSrc prog w T r d n P OK)(hh:A.handled=none)(hok:OK s.heap)(hn:n≤Yx){Q:List Yv→YK→Prop}(q:∀h' tk du,(∀b o,s.heap.get? b=some o→h'.get? b=some o)→ItemsOf P du n→Q du.toList {s with heap:=h',toks:=tk}):YR (Y7 prog w) A (collect (.ref r)) Q E s:=by
 have lt:=K.there _ hok
 unfold collect
 refine Yo (wpAny_runValue (abh PySem.F.entry_proto_collect ?_))
 rw[aaR PySem.F.plain_proto_collect _]
 change YR _ A.in1 (newList [] >>= fun l=>again (.builtin "list.__iadd__" ⟨[l,.ref r],[]⟩)) _ _ s
 refine Yo (Y6 (Yr ⟨plainId_quiet PySem.F.plain_list_iadd _,abh PySem.F.entry_list_iadd ?_⟩))
 rw[aaR PySem.F.plain_list_iadd _]
 have hS:(s.heap.push {cls:=.type "list",data:=.seq ([]:List Yv).toArray}).get? s.heap.objs.size=some {cls:=.type "list",data:=.seq #[] 0}:=YA _ rfl
 change YR _ A.in1 (ads (.ref s.heap.objs.size) (.ref r) (.ref s.heap.objs.size)) _ _ _
 refine kdl_extend (A:=A) (R:=fun x s'=>match x with
  | .ok (.ret v)=>YR (Y7 prog w) A (match v with
   | .ref a=>do match (←load a).data with
    | .seq xs _=>pure xs.toList
    |_=>adt "internal:collect"
   |_=>adt "internal:collect") Q E s'
  | .ok _=>False
  | .error e=>E e s') (s:={s with heap:=s.heap.push {cls:=.type "list",data:=.seq ([]:List Yv).toArray}}) K hh (K.keep _ _ hok fun b _ o e=>Yt _ e) _ (abq lt.1) (abq lt.2) _ 0 hS (fun h' tk du c' k' O0 ot => ?_) hn
 change YR _ A (load s.heap.objs.size >>= _) _ _ _
 refine Yo (wpAny_load O0 ?_)
 exact Yr (q h' tk du (fun b o e=>k' b o (Y0 (YE e)) (Yt _ e)) ot)
end
end Hc.Dw
namespace L2
open Hc.Dw Hc.Ts
noncomputable def we:V→Int
 | .int i=>i
 |_=>0
noncomputable def ig (H:Hp)(b:YM):List Int:=match H b with
 |some (.tup xs)=>xs.map we
 |_=>[]
theorem wg (ns:List Int):(ns.map V.int).map we=ns:=by
 induction ns with
 |nil=>rfl
 |cons n r ih=>rw[Yw,Yw,ih];rfl
noncomputable def LJ (K:Yy)(H:Hp)(p:YM)(bs:List YM):Prop:=fE K H p (bs.map V.ref)∨fR K H p (bs.map V.ref)∨∃ep es,H p=some (DN p ep es)∧es.map (·.2.1)=bs
theorem mE:∀{bs:List YM} {aq:List Yv},aQ (bs.map V.ref) aq→aq=bs.map Value.ref
 | [],_,.nil=>rfl
 |b::bs,_,.cons r t=>by rw[Yw,mE t];cases r;rfl
theorem sC:∀(bs:List YM),aQ (bs.map V.ref) (bs.map Value.ref)
 | []=>.nil
 |b::bs=>.cons rfl (sC bs)
theorem BP {bs:List YM}{out:List Yv}(h:out.Perm (bs.map Value.ref)):∃mQ:List YM,out=mQ.map Value.ref∧mQ.Perm bs:=by
 let g:Yv→YM:=fun v=>match v with
  | .ref a=>a
  |_=>0
 refine⟨out.map g,?_,?_⟩
 ·rw[Zc]
  conv=>lhs;rw[←List.map_id out]
  apply Zv
  intro v hv
  obtain⟨b,_,rfl⟩:=Y9.mp (h.mem_iff.mp hv)
  rfl
 ·have:=h.map g
  rw[Zc] at this
  have e:bs.map (g∘Value.ref)=bs:=by
   conv=>rhs;rw[←List.map_id bs]
   apply Zv
   intro b _;rfl
  rw[e] at this;exact this
theorem Hi (I:aw X pins σ H s)(h:H b=some (.tup (ns.map V.int)))(n:ns≠[]):v9 s.heap (.ref b)∧uo s.heap (.ref b)=ig H b:=by
 obtain⟨_,aq,rv,it,_⟩:=I.hok b _ h
 have ia:=j6 rv
 refine⟨⟨b,aq.toArray,ns,rfl,it,by simpa using ia,n⟩,?_⟩
 rw[lH it (by simpa using ia)]
 unfold ig;rw[h]
 exact (wg ns).symm
theorem sD {v:Yv}(t:v9 h v)(k:∀b aq,h.IsTuple b aq→h'.IsTuple b aq):v9 h' v∧uo h' v=uo h v:=by
 obtain⟨a,aq,ns,rfl,q,i,n⟩:=t
 refine⟨⟨a,aq,ns,rfl,k a aq q,i,n⟩,?_⟩
 rw[lH q i,lH (k a aq q) i]
theorem Ae {h:abr}:∀{vs:List Yv},(∀v∈vs,v9 h v)→∃fs,PySem.W.KatTups h vs fs∧fs.length=vs.length∧∀f∈fs,∃n t,f=.int n t
 | [],_=>⟨[],.nil,rfl,fun f hf=>by cases hf⟩
 |v::vs,hv=>by
  obtain⟨fs,k1,k2,k3⟩:=Ae (vs:=vs) fun u hu=>hv u (YS _ hu)
  obtain⟨a,aq,ns,rfl,⟨o,e,c,n,d⟩,i,ne⟩:=hv v YO
  have:∃m t r,aq.toList=.int m t::r:=by
   generalize aq.toList=l at i
   cases i with
   |nil=>exact absurd rfl ne
   |cons m t r=>exact⟨m,t,_,rfl⟩
  obtain⟨m,t,r,el⟩:=this
  refine⟨.int m t::fs,.cons e c d (by rw[←Zj,el];rfl) k1,by rw[YN,YN,k2],fun f hf => ?_⟩
  rcases YU.mp hf with rfl|hf
  ·exact⟨m,t,rfl⟩
  ·exact k3 f hf
noncomputable def Oz:Yv→YM
 | .ref a=>a
 |_=>0
theorem yv {bs:List YM}{Q:VK}(kf:YM→List Int)(knd:acs)(I:aw X pins σ H s)(hz:bs.length≤1000000)(hu:X.A.units+64<abp)(kk:∀(A:Zw) (E:Yv→YK→Prop) (nP:List YM) (s6:YK) (Q6:acs→YK→Prop),nP.Perm bs→2≤nP.length→(∀b o,s.heap.get? b=some o→s6.heap.get? b=some o)→Q6 knd s6→YR (Y7 X.prog X.w) A (keyKind' (nP.map Value.ref).toArray) Q6 E s6)(kc:∀(A:Zw) (E:Yv→YK→Prop) (s6:YK),A.units<abp→(∀b o,s.heap.get? b=some o→s6.heap.get? b=some o)→j8 (Y7 X.prog X.w) A E s6 EG (fun x=>kf (Oz x.1)) knd (fun x=>∃b∈bs,x.1=.ref b))(col:∀(Q:List Yv→YK→Prop) (E:Yv→YK→Prop),(∀h1 tk (nP:List YM),nP.Perm bs→(∀b o,s.heap.get? b=some o→h1.get? b=some o)→Q (nP.map Value.ref) {s with heap:=h1,toks:=tk})→YR (Y7 X.prog X.w) X.A.in1 (collect (.ref p)) Q E s)(q:∀(l:YM) (mQ:List YM),H l=none→mQ.Perm bs→mQ.Pairwise (fun x y=>fJ (kf y) (kf x)=false)→Q (.ref l) (cm H l (.lst (mQ.map V.ref)))) :
  YR (Y7 X.prog X.w) X.A (call (.builtin "sorted") [.ref p]) (EP X pins σ Q) X.xe s:=by
 refine adW kind_sorted plain_sorted entry_sorted (args_sorted1 _) ?_
 unfold Builtin.«sorted»
 refine Yo (m:=checkCount "sorted" 1 1 _) (Yr ?_)
 refine Yo (col _ _ fun h1 tk nP Cg k1 => ?_)
 have hz:nP.length≤1000000:=by rw[Cg.length_eq];exact hz
 have FH:nP.length≤Yx:=by rw[aaq];lia
 have I1:aw X pins σ H {s with heap:=h1,toks:=tk}:=I.kept (t':=tk) k1
 refine Yo (wpAny_newList ?_ (by rw[Yp];exact FH))
 have JQ:(h1.push {cls:=.type "list",data:=.seq (nP.map Value.ref).toArray}).get? h1.objs.size=some (adL "list" (nP.map Value.ref).toArray 0):=YA _ rfl
 have kt:∀(h6:abr),(∀b o,b≠h1.objs.size→(h1.push {cls:=.type "list",data:=.seq (nP.map Value.ref).toArray}).get? b=some o→h6.get? b=some o)→∀b o,s.heap.get? b=some o→h6.get? b=some o:=fun h6 k6 b o e =>
  k6 b o (Y0 (YE (k1 b o e))) (Yt _ (k1 b o e))
 refine Yo (ZL (Y8 slot_list_sort ⟨_,JQ,rfl⟩ entry_list_sort (EF (s:={s with heap:=h1.push {cls:=.type "list",data:=.seq (nP.map Value.ref).toArray},toks:=tk}) (O:=EG) (key:=fun x=>kf (Oz x.1)) (knd:=knd) (D:=fun x=>∃b∈bs,x.1=.ref b) JQ (by rw[Yp];exact hz)
  (fun h2 h6 Q6 k6 q6=>kk _ _ nP _ _ Cg (by rw[Yp] at h2;exact h2) (kt h6 k6) q6) (fun h2 h6 k6=>kc _ _ _ (by show X.A.units+1+1<abp;lia) (kt h6 k6)) (fun v hv=>by
   obtain⟨b,hb,rfl⟩:=Y9.mp hv
   exact⟨b,Cg.mem_iff.mp hb,rfl⟩) fun out hp hw=>⟨_,rfl,?_⟩) (args_list_sort _)))
 obtain⟨mQ,e,FF⟩:=BP hp
 subst e
 obtain⟨ee,he⟩:=sortedHeap_at (out:=(mQ.map Value.ref).toArray) JQ
 have keep:∀b o,h1.get? b=some o→(sortedHeap (h1.push {cls:=.type "list",data:=.seq (nP.map Value.ref).toArray}) h1.objs.size (nP.map Value.ref) (mQ.map Value.ref).toArray).get? b=some o:=fun b o e=>by
  have hb:=YE e
  rw[sortedHeap_old (Y0 hb) (by rw[aa_];exact acK hb)]
  exact Yt _ e
 have Fp:(mQ.map V.ref).length≤Yx:=by rw[Yp,FF.length_eq];exact FH
 refine Yr ⟨_,rfl,.ref h1.objs.size,_,I1.laid (t':=tk) keep (YC _) (show bo X.prog X.w _ _ _ (.lst _) from ⟨Fp,mQ.map Value.ref,ee,sC mQ,by simpa using he⟩),rfl,q _ mQ (I1.hok.fresh (YC _)) (FF.trans Cg) ?_⟩
 exact aed.mp hw
theorem wj {bs:List YM}{Q:VK}(I:aw X pins σ H s)(hz:bs.length≤1000000)(hu:X.A.units+64<abp)(tu:∀b∈bs,∃ns:List Int,H b=some (.tup (ns.map V.int))∧ns≠[])(col:∀(Q:List Yv→YK→Prop) (E:Yv→YK→Prop),(∀h1 tk (nP:List YM),nP.Perm bs→(∀b o,s.heap.get? b=some o→h1.get? b=some o)→Q (nP.map Value.ref) {s with heap:=h1,toks:=tk})→YR (Y7 X.prog X.w) X.A.in1 (collect (.ref p)) Q E s)(q:∀(l:YM) (mQ:List YM),H l=none→mQ.Perm bs→mQ.Pairwise (fun x y=>fJ (ig H y) (ig H x)=false)→Q (.ref l) (cm H l (.lst (mQ.map V.ref)))) :
  YR (Y7 X.prog X.w) X.A (call (.builtin "sorted") [.ref p]) (EP X pins σ Q) X.xe s:=by
 have tI:∀b∈bs,v9 s.heap (.ref b)∧uo s.heap (.ref b)=ig H b:=fun b hb=>by
  obtain⟨ns,e,ne⟩:=tu b hb
  exact Hi I e ne
 have kt:∀(h6:abr),(∀b o,s.heap.get? b=some o→h6.get? b=some o)→∀b aq,s.heap.IsTuple b aq→h6.IsTuple b aq:=fun h6 k6 b aq ⟨o,e,z⟩=>⟨o,k6 b o e,z⟩
 refine yv (ig H) (tuples' true) I hz hu (fun A E nP s6 Q6 Cg h2 k6 q6 => ?_) (fun A E s6 hA k6 => ?_) col q
 ·obtain⟨fs,f1,f2,f3⟩:=Ae (h:=s6.heap) (vs:=nP.map Value.ref) fun v hv=>by
   obtain⟨b,hb,rfl⟩:=Y9.mp hv
   exact (sD (tI b (Cg.mem_iff.mp hb)).1 (kt _ k6)).1
  exact PySem.W.kat_kind (T:=.type "int") f1 (by rw[f2,Yp];lia) (fun v hv=>by
   obtain⟨n,t,rfl⟩:=f3 v hv
   exact PySem.W.Looks.of_pure rfl) (by decide) q6
 ·have c:=He (prog:=X.prog) (w:=X.w) (A:=A) (E:=E) (s:=s6) (hp:=s.heap) fun v hv=>sD hv (kt _ k6)
  refine⟨fun x y st Q dx dy kd qq => ?_⟩
  obtain⟨b,hb,e1⟩:=dx
  obtain⟨d,hd,e2⟩:=dy
  refine c.lt x y st Q (by rw[e1];exact (tI b hb).1) (by rw[e2];exact (tI d hd).1) kd ?_
  rw[e1,e2,(tI b hb).2,(tI d hd).2]
  rw[e1,e2] at qq
  exact qq
theorem uu (hc:X.calm=true)(hu:X.A.units+64<abp):dR X (.builtin "sorted") (fun xs H Q=>∃(p:YM) (bs:List YM),xs=[.ref p]∧LJ X.K H p bs∧bs.length≤1000000∧(∀b∈bs,∃ns:List Int,H b=some (.tup (ns.map V.int))∧ns≠[]) ∧
  ∀(l:YM) (mQ:List YM),H l=none→mQ.Perm bs→mQ.Pairwise (fun x y=>fJ (ig H y) (ig H x)=false)→Q (.ref l) (cm H l (.lst (mQ.map V.ref)))):=by
 intro pins s σ H xs us Q I r h
 obtain⟨p,bs,rfl,O2,hz,tu,q⟩:=h
 obtain⟨u,rfl,rx⟩:=i4 r
 cases rx
 have FH:bs.length≤Yx:=by rw[aaq];lia
 have col:∀(Q:List Yv→YK→Prop) (E:Yv→YK→Prop),(∀h1 tk (nP:List YM),nP.Perm bs→(∀b o,s.heap.get? b=some o→h1.get? b=some o)→Q (nP.map Value.ref) {s with heap:=h1,toks:=tk})→YR (Y7 X.prog X.w) X.A.in1 (collect (.ref p)) Q E s:=by
  intro Q E hq
  rcases O2 with hs|hs|⟨ep,es,hs,rfl⟩
  ·obtain⟨aq,rv,pl,_⟩:=I.list hs
   obtain⟨o,e,c,n,d⟩:=pl.isList
   have e2:=mE rv
   subst e2
   exact ad9 p (.inl rfl) e c d (fun h1 k1=>by simpa using hq h1 s.toks bs (aao _) k1) (by rw[YB,Yp];exact FH)
  ·obtain⟨aq,rv,pl,_⟩:=I.tuple hs
   obtain⟨o,e,c,n,d⟩:=pl
   have e2:=mE rv
   subst e2
   exact ad9 p (.inr rfl) e c d (fun h1 k1=>by simpa using hq h1 s.toks bs (aao _) k1) (by rw[YB,Yp];exact FH)
  ·obtain⟨lo,ds,rd,n,at_⟩:=I.rawD hs
   refine wd (A:=X.A.in1) (Rb lo) (I.ok.hd hc) rd (by rw[n];rw[Yp] at FH;exact FH) fun h1 tk du k1 ia => ?_
   have e:du.toList=(es.map (·.2.1)).map Value.ref:=by
    apply ad_
    intro i
    rw[Zj,Zc,YH]
    by_cases hi:i<du.size
    ·rw[getElem?_pos du i hi]
     obtain⟨en,e1,e2⟩:=ia.2 i _ (getElem?_pos du i hi)
     have O8:i<ds.size:=by rw[←ia.1];exact hi
     rw[getElem?_pos ds i O8] at e1
     cases e1
     obtain⟨x,m,ek,_⟩:=at_ i O8
     rw[m,e2,ek];rfl
    ·rw[getElem?_neg du i hi,acV (by rw[←n,←ia.1];lia)];rfl
   rw[e]
   exact hq h1 tk _ (aao _) k1
 exact wj I hz hu tu col q
end L2
namespace Hc.Dw
open PySem.W
section
variable {K:Type}[DecidableEq K]{knd:HeapKind prog w K}{A:Zw}
noncomputable def mF (ys:List (K×YM×Yv))(x:K×YM×Yv):Bool:=match atKey ys x.1 with
 |some p=>numOf x.2.2==numOf p.2
 |none=>false
noncomputable def wm (xs:List (K×YM×Yv)):Prop:=∀x∈xs,∃n t,x.2.2=.int n t
theorem yw {nm:String}{xs ys:List (K×YM×Yv)}{Q:Bool→YK→Prop}(la:(a==ZQ)=false)(lb:(b==ZQ)=false)(hu:knd.room A)(da:s.heap.DictOfH knd a xs)(db:s.heap.DictOfH knd b ys)(nx:wm xs)(ny:wm ys)(h:Q (xs.length==ys.length&&xs.all (mF ys)) s):YR (Y7 prog w) A (Builtin.Dict.samePairs nm a b) Q E s:=by
 obtain⟨oa,es,ep,a1,_,a2,a3,a4,a5⟩:=da
 obtain⟨ob,fs,eq,b1,_,b2,b3,b4,b5⟩:=db
 have n1:es.size=xs.length:=by rw[←Yz,a3,Yp]
 have n2:fs.size=ys.length:=by rw[←Yz,b3,Yp]
 have kz:∀i (hi:i<es.size) (hx:i<xs.length),es[i]=entryOfKey knd xs[i]:=fun i hi hx=>by
  have e:es.toList[i]? = some es[i]:=by rw[Zj];exact getElem?_pos es i hi
  rw[a3,YH,Ys hx] at e
  injection e with e
  exact e.symm
 have RQ:∀(j:Nat) y,ys[j]? = some y→fs[j]? = some (entryOfKey knd y):=fun j y e=>by
  rw[←Zj,b3,YH,e];rfl
 unfold Builtin.Dict.samePairs aam
 rw[if_neg (by rw[la];exact Yq),if_neg (by rw[lb];exact Yq)]
 refine Yo (Yr (Yo (Yr (Yo (ZK a1 a2 (Yo (ZK b1 b2 ?_)))))))
 by_cases c:es.size=fs.size
 ·rw[if_neg (by rw[c];simp)]
  have h':Q (xs.all (mF ys)) s:=by
   have:(xs.length==ys.length)=true:=by rw[←n1,←n2,c];exact beq_self_eq_true _
   rw[this,Bool.true_and] at h;exact h
  refine Yo (aaf a1 a2 (Yo ?_))
  rw[Std.Legacy.Range.forIn_eq_forIn_range']
  simp only[Std.Legacy.Range.size,Nat.sub_zero,adO,Nat.div_one]
  refine wpAny_forIn_list _ (fun l q s'=>s'=s∧q=(none,())∧∃i,l=List.range' i (es.size - i)∧i≤es.size∧xs.all (mF ys)=(xs.drop i).all (mF ys)) _ ?_ ?_ _ _ ⟨rfl,rfl,0,by simp,Nat.zero_le _,rfl⟩
  ·rintro k l q s' ⟨rfl,rfl,i,hl,hi,ha⟩
   have lt:i<es.size:=by
    rcases acj i es.size with z|z
    ·exact z
    ·rw[Nat.sub_eq_zero_of_le z] at hl;simp at hl
   obtain⟨m,hm⟩:∃m,es.size - i=m+1:=⟨es.size - (i+1),by lia⟩
   rw[hm,List.range'_succ] at hl
   injection hl with e1 e2
   subst e1
   have hx:k<xs.length:=by rw[←n1];exact lt
   refine Yo (ZK a1 a2 ?_)
   rw[aaa lt]
   change YR _ _ (adi [es[k].key,es[k].val] _ >>= _) _ _ _
   rw[kz k lt hx]
   rw[aac hx,ZX] at ha
   obtain⟨nn,nt,en⟩:=nx xs[k] (YX hx)
   refine Yo (ZL (Yo (wpAny_dictFind_heap hu (a4 _ (YX hx)) b1 b2 b3 b4 b5 (fun no => ?_) fun j p hj => ?_)))
   ·have e:mF ys xs[k]=false:=by unfold mF;rw[atKey_none_of_get no]
    rw[e,adS] at ha
    rw[ha] at h'
    refine Yr ?_
    change YR _ _ (if (!false)=true then _ else _) _ _ _
    rw[if_pos (by decide)]
    exact Yr (Yr h')
   ·have Qb:=RQ j _ hj
    obtain⟨mn,mt,em⟩:=ny _ (Z4 hj)
    have e:mF ys xs[k]=(nn==mn):=by
     unfold mF
     rw[atKey_of_get b5 hj]
     dsimp only
     rw[en,show p.2=.int mn mt from em];rfl
    rw[e] at ha
    refine Yo (ZK b1 b2 ?_)
    rw[Qb]
    change YR _ _ (adi [p.2] (eqBool xs[k].2.2 p.2)) _ _ _
    rw[en,show p.2=.int mn mt from em]
    refine ZL (wpAny_eqBool_int ?_)
    cases z:(nn==mn) with
    |false =>
     rw[z,adS] at ha
     rw[ha] at h'
     change YR _ _ (if (!false)=true then _ else _) _ _ _
     rw[if_pos (by decide)]
     exact Yr (Yr h')
    |true =>
     rw[z,Bool.true_and] at ha
     change YR _ _ (if (!true)=true then _ else _) _ _ _
     rw[if_neg (by decide)]
     refine Yo (aaf a1 a2 ?_)
     rw[if_neg (by simp)]
     exact Yr ⟨rfl,rfl,k+1,by rw[e2];congr 1;lia,lt,ha⟩
  ·rintro q s' ⟨rfl,rfl,i,hl,hi,ha⟩
   have e:i=es.size:=by
    rcases acj i es.size with z|z
    ·obtain⟨m,hm⟩:∃m,es.size - i=m+1:=⟨es.size - (i+1),by lia⟩
     rw[hm,List.range'_succ] at hl;cases hl
    ·lia
   rw[e,n1,aby] at ha
   rw[ha] at h'
   exact Yr h'
 ·rw[if_pos (by simpa using c)]
  have e:(xs.length==ys.length)=false:=by rw[←n1,←n2];simpa using c
  rw[e,adS] at h
  exact Yo (aaU (Yr h))
theorem VY {xs ys:List (K×YM×Yv)}(la:(a==ZQ)=false)(lb:(b==ZQ)=false)(hu:knd.room A.in1)(hc:A.units<abp)(da:s.heap.DictOfH knd a xs)(db:s.heap.DictOfH knd b ys)(nx:wm xs)(ny:wm ys)(h:Q (.bool (xs.length==ys.length&&xs.all (mF ys))) s):YR (Y7 prog w) A (abL .Eq (.ref a) (.ref b)) Q E s:=by
 refine wpAny_richCompare_same_room (op:=.Eq) da.typeIs db.typeIs PySem.F.slot_dict_eq (Y8 PySem.F.slot_dict_eq da.typeIs PySem.F.entry_dict_eq ?_ (PySem.F.args_dict_eq_2 _ _)) hc
 change YR _ _ (ad3 "__eq__" ⟨[.ref a,.ref b],[]⟩ >>= _) _ _ s
 refine Yo ?_
 unfold ad3
 refine Yo (aa7 da.typeIs ?_)
 change YR _ _ (pure (Value.ref a,Value.ref b)) _ _ s
 refine Yr (Yo (abx (T:="dict") db.typeIs PySem.F.sub_dict_dict ?_))
 simp only[abT,ZE,if_false]
 refine Yo (Yr (Yo (Yr (Yo (yw la lb hu da db nx ny (Yr ⟨_,rfl,(?_:_∧_)⟩))))))
 refine⟨fun x => ?_,by simpa using h⟩
 cases x
end
end Hc.Dw
namespace Hc.Dw
theorem uv:typeLookup (.type "list") "keys"=pure none:=by rw[typeLookup_type,builtinLookup_eq_fast];kernel_rfl
section
variable {A:Zw}{o:Obj}
theorem uw {g:Array GenState}{d:Drawn}{t:Nat}{os:OsState}{tk:Tok}{xs:Array Yv}{Q:Fin→YK→Prop}(hx:h.get? a=some {cls:=.type "list",data:=.seq xs n})(hh:A.handled=none)(hE:∀h' t' e,Heap.NewAttrErr h h' e (.ref a) "keys"→E (.ref e) ⟨h',g,d,t',os⟩):YR (Y7 prog w) A (Builtin.«object.__getattribute__» ⟨[.ref a,.str "keys" tk],[]⟩) Q E ⟨h,g,d,t,os⟩:=by
 have ty:(⟨h,g,d,t,os⟩:YK).TypeIs (.ref a) "list":=⟨_,hx,rfl⟩
 have f4:=uv
 repeat (any_goals (first|assumption|wp_step))
 exact wpAny_raiseAttrError hh hE
theorem LK {xs:Array Yv}{Q:Option Yv→YK→Prop}(hx:s.heap.get? a=some {cls:=.type "list",data:=.seq xs n})(hh:A.handled=none)(q:∀h' tk,(∀b o,s.heap.get? b=some o→h'.get? b=some o)→Q none {s with heap:=h',toks:=tk}):YR (Y7 prog w) A (getAttr? (.ref a) "keys") Q E s:=by
 obtain⟨hp,g,d,tk,os⟩:=s
 have hT:∀Mr,(⟨hp,g,d,Mr,os⟩:YK).TypeIs (.ref a) "list":=fun _=>⟨_,hx,rfl⟩
 have f1:=sub_AttributeError
 have f3:=F.slot_list_getattribute.lookup
 have f4:=F.slot_list_getattribute.bind (.ref a)
 have f5:=am_list_getattr_none
 unfold getAttr? getAttrBy? getAttrBy
 repeat (any_goals (first|assumption|exact hT _|((with_reducible show YR _ _ (call (Value.builtin "list.__getattribute__") _ _) _ _ _);fail)|wp_step))
 refine ac8 F.slot_list_getattribute.plain am_entry_list_getattribute (F.slot_list_getattribute.check _ _ _ _ _ _ _ _ (hT _) (F.args_list_getattribute_2 _ _) (uw hx hh fun h' t' e ne => ?_))
 obtain⟨t2,u2,he⟩:=ne.there
 change YR _ _ (getattributeRaised _ _ _ _ _ _ _) _ _ _
 unfold getattributeRaised
 repeat (any_goals (first|assumption|wp_step))
 exact q _ _ ne.keeps
end
end Hc.Dw
namespace Hc.Dw
section
open PySem.W PyProof.Rows L2
theorem jW:entryFor table "dict.update.loop"=some Builtin.«dict.update.loop»:=entryFor_of_fast (by kernel_rfl)
theorem eY:plainId "dict.update.loop"=true:=by decide +kernel
theorem TK.keep' {k:List U}(x:TK h k b)(kp:∀c aq,h.IsTuple c aq→h'.IsTuple c aq):TK h' k b:=by
 obtain⟨l,aq,t,z⟩:=x
 exact⟨l,aq,kp _ _ t,z.keep kp⟩
noncomputable def eE (xs:List (List U×YM×Yv))(aq:List (List U×YM×Yv)):List (List U×YM×Yv):=aq.foldl (fun xs e=>storedH xs e.1 e.2.1 e.2.2) xs
theorem wo {xs:List (List U×YM×Yv)}{k:List U}{v:Yv}:(storedH xs k b v).length≤xs.length+1:=by
 unfold storedH;split
 ·rw[Yp];lia
 ·rw[Yu,Z0];exact YC _
variable {A:Zw}{d l:YM}
noncomputable def yx (h:abr)(v:Yv)(e:List U×YM×Yv):Prop:=∃T,v=.ref T∧h.IsTuple T #[.ref e.2.1,e.2.2]∧TK h e.1 e.2.1
theorem EK {c:YM}{aq:Array Yv}{o:Obj}(t:h.IsTuple c aq)(q:h.get? b=some o)(n:o.cls≠.type "tuple"):c≠b:=fun e=>by
 subst e
 obtain⟨o',q',z,_⟩:=t
 rw[q] at q';cases q'
 exact n z
theorem lJ {es:List (List U×YM×Yv)}(hi:i<es.length):eE [] (es.take (i+1))=storedH (eE [] (es.take i)) es[i].1 es[i].2.1 es[i].2.2:=by
 unfold eE
 rw[Y_ hi,acQ]
 rfl
theorem Hj {h0:abr}{vs:List Yv}{es:List (List U×YM×Yv)}{R:Result→YK→Prop}(hh:A.handled=none)(hu:A.units+40<abp)(hl:h0.IsList l vs.toArray)(hp:∀(i:Nat) v,vs[i]? = some v→∃e,es[i]? = some e∧yx h0 v e)(n:vs.length=es.length)(hz:es.length≤1000000)
  (nt:∀b aq,h0.IsTuple b aq→b≠d∧b≠it) (nl:l≠d∧l≠it) (nd:d≠it) :
  ∀(m i:Nat) (s:YK),es.length - i=m→i≤es.length→s.heap.IsListIter it l i→s.heap.DictOfH (fc prog w) d (eE [] (es.take i))→(∀b o,b≠d→b≠it→h0.get? b=some o→s.heap.get? b=some o)→(eE [] (es.take i)).length≤i →
   (∀h' tk,h'.DictOfH (fc prog w) d (eE [] es)→(∀b o,b≠d→b≠it→h0.get? b=some o→h'.get? b=some o)→R (.ok (.ret .none)) {s with heap:=h',toks:=tk}) →
   adU (Y7 prog w) A (.builtin "dict.update.loop" ⟨[.ref d,.ref it,ab2 i,.none],[]⟩) R s:=by
 intro m
 induction m with
 |zero =>
  intro i s hm hi st dd kp WG hR
  have e:i=es.length:=by lia
  subst e
  rw[ZU] at dd
  have JZ:s.heap.IsList l vs.toArray:=by obtain⟨o,q,r⟩:=hl;exact⟨o,kp l o nl.1 nl.2 q,r⟩
  refine abh jW ?_
  rw[aaR eY _]
  change YR _ A.in1 (acf (.ref it) >>= _) _ _ s
  refine Yo (wpAny_pyNext_list_end hh st JZ (by simp;lia) fun h' eb => ?_)
  change YR _ A.in1 (Builtin.Dict.addKeywords d [] >>= fun _=>ret .none) _ _ _
  refine Yo (Yr (Yr ?_))
  refine hR h' s.toks ?_ fun b o b1 b2 z=>eb b o b2 (kp b o b1 b2 z)
  obtain⟨o,ds,ep,q1,q2,q3,q4,q5,q6⟩:=dd
  obtain⟨oi,i1,i2,_⟩:=id st
  refine⟨o,ds,ep,eb d o nd q1,q2,q3,q4,fun x hx=>TK.keep' (q5 x hx) fun c aq tc => ?_,q6⟩
  have Fq:=EK tc i1 (by rw[i2];decide)
  obtain⟨oc,z1,z2⟩:=tc
  exact⟨oc,eb c oc Fq z1,z2⟩
 |succ m ih =>
  intro i s hm hi st dd kp WG hR
  have lt:i<es.length:=by lia
  have JZ:s.heap.IsList l vs.toArray:=by obtain⟨o,q,r⟩:=hl;exact⟨o,kp l o nl.1 nl.2 q,r⟩
  have hv:i<vs.length:=by lia
  obtain⟨e,he,T,ev,tT,tk⟩:=hp i vs[i] (Ys hv)
  rw[Ys lt] at he
  injection he with he
  have kT:∀b aq,h0.IsTuple b aq→s.heap.IsTuple b aq:=fun b aq h00=>by
   obtain⟨o,q,r⟩:=h00
   obtain⟨b1,b2⟩:=nt b aq ⟨o,q,r⟩
   exact⟨o,kp b o b1 b2 q,r⟩
  refine abh jW ?_
  rw[aaR eY _]
  change YR _ A.in1 (acf (.ref it) >>= _) _ _ s
  refine Yo (wpAny_pyNext_list_item st JZ (x:=vs[i]) (by simp[hv]) fun h1 yU RS => ?_)
  obtain⟨oi,i1,i2,_⟩:=id st
  have k1:∀b aq,s.heap.IsTuple b aq→h1.IsTuple b aq:=fun b aq tb=>by
   have Fq:=EK tb i1 (by rw[i2];decide)
   obtain⟨oc,z1,z2⟩:=tb
   exact⟨oc,RS.extBut b oc Fq z1,z2⟩
  have WH:h1.DictOfH (fc prog w) d (eE [] (es.take i)):=by
   obtain⟨o,ds,ep,q1,q2,q3,q4,q5,q6⟩:=dd
   exact⟨o,ds,ep,RS.extBut d o nd q1,q2,q3,q4,fun x hx=>TK.keep' (q5 x hx) k1,q6⟩
  rw[ev]
  have WI:h1.IsTuple T #[.ref e.2.1,e.2.2]:=k1 _ _ (kT _ _ tT)
  obtain⟨oT,g1,g2,nT,g3⟩:=id WI
  refine Yo (ZL (Yo (wpAny_tryCatch ?_)))
  unfold Builtin.Dict.pairItems
  refine Yo (acT (T:="tuple") ⟨_,g1,g2⟩ ?_)
  rw[if_pos (by decide)]
  refine Yo (aaA g1 g3 (Yr ?_))
  change YR _ A.in1 (adi [.ref e.2.1,e.2.2] (dictSet d (.ref e.2.1) e.2.2)) _ _ _
  refine ZL (wpAny_dictSet_heap (knd:=fc prog w) (by show A.units+1+20<abp;lia) (TK.keep' tk fun b aq z=>k1 b aq (kT b aq z)) WH (fun h2 M6 Vq => ?_) (by rw[aaq];lia))
  refine Yr ⟨plainId_quiet eY _,?_⟩
  have e1:((i:Int)+1)=((i+1:Nat):Int):=by lia
  change adU _ A (.builtin "dict.update.loop" ⟨[.ref d,.ref it,ab2 ((i:Int)+1),.none],[]⟩) _ _
  rw[e1]
  refine ih (i+1) _ (by lia) (by lia) ?_ ?_ (fun b o b1 b2 z => ?_) ?_ fun h' Mr q1 q2=>hR h' Mr q1 q2
  ·obtain⟨o1,s1,s2⟩:=yU
   exact⟨o1,Vq.extBut it o1 nd.symm s1,s2⟩
  ·rw[lJ lt,he];exact M6
  ·exact Vq.extBut b o b1 (RS.extBut b o b2 (kp b o b1 b2 z))
  ·rw[lJ lt];exact Zd wo (by lia)
end
end Hc.Dw
namespace Hc.Dw
open PySem.W L2
section
variable {A:Zw}{l:YM}
theorem BQ {vs:List Yv}{n0:Nat}{es:List (List U×YM×Yv)}(hh:A.handled=none)(hu:A.units+64<abp)(hl:s.heap.get? l=some {cls:=.type "list",data:=.seq vs.toArray n0})(hp:∀(i:Nat) v,vs[i]? = some v→∃e,es[i]? = some e∧yx s.heap v e)(n:vs.length=es.length)(hz:es.length≤1000000)(q:∀h' tk,h'.DictOfH (fc prog w) s.heap.objs.size (eE [] es)→(∀b o,s.heap.get? b=some o→h'.get? b=some o)→Q (.ref s.heap.objs.size) {s with heap:=h',toks:=tk}) :
  YR (Y7 prog w) A (call (.type "dict") [.ref l]) Q E s:=by
 refine callType_codes (Q₁:=fun obj s₁=>obj=.ref s.heap.objs.size∧s₁={s with heap:=s.heap.push {cls:=.type "dict",data:=.dict #[]}}) F.kt_called_dict (F.kt_typeCall_dict_1 _) PySem.F.entry_dict_init (kt_code_dict_new _ ⟨rfl,rfl⟩) ?_
 rintro obj s₁ ⟨rfl,rfl⟩
 have od:(s.heap.push {cls:=.type "dict",data:=.dict #[]}).get? s.heap.objs.size=some {cls:=.type "dict",data:=.dict #[]}:=YA _ rfl
 have ty:(⟨s.heap.push {cls:=.type "dict",data:=.dict #[]},s.gens,s.drawn,s.toks,s.os⟩:YK).TypeIs (.ref s.heap.objs.size) "dict":=⟨_,od,rfl⟩
 have ol:(s.heap.push {cls:=.type "dict",data:=.dict #[]}).get? l=some {cls:=.type "list",data:=.seq vs.toArray n0}:=Yt _ hl
 refine⟨ty,PySem.F.args_dict_init_2 _ _,?_⟩
 unfold Builtin.«dict.__init__»
 refine Yo ?_
 unfold Builtin.Dict.selfAndRest
 refine Yo (aa7 ty ?_)
 change YR _ _ (pure (s.heap.objs.size,[Value.ref l])) _ _ _
 refine Yr ?_
 change YR _ _ (Builtin.Dict.updateFrom "dict.__init__" s.heap.objs.size (.ref l) [] .none) _ _ _
 unfold Builtin.Dict.updateFrom
 refine Yo (acT (T:="list") ⟨_,ol,rfl⟩ ?_)
 rw[if_pos (by decide)]
 refine Yo (LK ol hh fun h2 tk k2 => ?_)
 rw[if_pos (by rfl)]
 refine Yo (aaU (Yo ?_))
 have l2:h2.IsList l vs.toArray:=⟨_,k2 _ _ ol,rfl,_,rfl⟩
 refine acE l2 ?_
 refine Yr ⟨plainId_quiet eY _,?_⟩
 have ge:s.heap.objs.size<h2.objs.size:=YE (k2 _ _ od)
 have k3:∀b o,s.heap.get? b=some o→(h2.push {cls:=.type "list_iterator",data:=.fields #[.ref l,.int 0 0]}).get? b=some o:=fun b o z=>Yt _ (k2 b o (Yt _ z))
 refine Hj (A:=A.in1) (h0:=s.heap) hh (by show A.units+1+40<abp;lia) ⟨_,hl,rfl,_,rfl⟩ hp n hz (fun b aq t => ?_) ?_ ?_ es.length 0 _ (by lia) (Nat.zero_le _) ⟨_,YA _ rfl,rfl,rfl⟩ ?_ (fun b o _ _ z=>k3 b o z) (YC _) fun h' Mr q1 q2 => ?_
 ·obtain⟨o,z,_⟩:=t
  have:=YE z
  exact⟨Y0 this,Y0 (Nat.lt_trans this ge)⟩
 ·have:=YE hl
  exact⟨Y0 this,Y0 (Nat.lt_trans this ge)⟩
 ·exact Y0 ge
 ·exact⟨_,#[],0,Yt _ (k2 _ _ od),⟨rfl,rfl,rfl⟩,rfl,rfl,(fun x hx=>by cases hx),abA⟩
 ·refine⟨rfl,q h' Mr q1 fun b o z => ?_⟩
  have:=YE z
  exact q2 b o (Y0 this) (Y0 (Nat.lt_trans this ge)) z
end
end Hc.Dw
namespace L2
open Hc.Dw Hc.Ts
noncomputable def au (ns:List Int):U:=.tup (ns.map .int)
noncomputable def Hk:U→Option (List Int)
 | .tup xs=>match dW xs with
  |some (n::ns)=>some (n::ns)
  |_=>none
 |_=>none
noncomputable def qt:List U→Option (List (List Int))
 | []=>some []
 |u::us=>match Hk u,qt us with
  |some ns,some ow=>some (ns::ow)
  |_,_=>none
noncomputable def BR (x:List Int):List (List Int)→List (List Int)
 | []=>[x]
 |y::r=>if fJ y x=true then y::BR x r else x::y::r
noncomputable def eN (l:List (List Int)):List (List Int):=l.foldr BR []
theorem mG (x:List Int):∀l,(BR x l).Perm (x::l)
 | []=>.refl _
 |y::r=>by
  unfold BR
  split
  ·exact ((mG x r).cons y).trans (.swap x y r)
  ·exact .refl _
theorem dD:∀l,(eN l).Perm l
 | []=>.refl _
 |x::l=>(mG x _).trans ((dD l).cons x)
noncomputable def OA (l:List (List Int)):Prop:=l.Pairwise fun x y=>fJ y x=false
theorem Af (x:List Int):∀{l},OA l→OA (BR x l)
 | [],_=>List.pairwise_singleton _ _
 |y::r,h=>by
  obtain⟨h1,h2⟩:=abK.mp h
  unfold BR
  split
  ·rename_i c
   refine abK.mpr ⟨fun z hz => ?_,Af x h2⟩
   rcases YU.mp ((mG x r).mem_iff.mp hz) with rfl|hz
   ·exact KeyOrd.klt_asymm (O:=EG) c
   ·exact h1 z hz
  ·rename_i c
   have c:fJ y x=false:=by simpa using c
   refine abK.mpr ⟨fun z hz => ?_,h⟩
   rcases YU.mp hz with rfl|hz
   ·exact c
   ·exact Zm (O:=EG) (a:=x) (b:=y) (c:=z) c (h1 z hz)
theorem lK:∀l,OA (eN l)
 | []=>List.Pairwise.nil
 |x::l=>Af x (lK l)
theorem ux:∀{l m:List (List Int)},l.Perm m→OA l→OA m→l=m
 | [],m,p,_,_=>(List.nil_perm.mp p).symm
 |x::l,[],p,_,_=>absurd p.length_eq (by simp)
 |x::l,y::m,p,h1,h2=>by
  obtain⟨a1,a2⟩:=abK.mp h1
  obtain⟨b1,b2⟩:=abK.mp h2
  have e:x=y:=by
   have hx:x∈y::m:=p.mem_iff.mp YO
   have hy:y∈x::l:=p.mem_iff.mpr YO
   rcases YU.mp hx with rfl|hx
   ·rfl
   ·rcases YU.mp hy with rfl|hy
    ·rfl
    ·exact ke x y (b1 x hx) (a1 y hy)
  subst e
  rw[ux (p.cons_inv) a2 b2]
theorem Hl (h:Hk u=some ns):u=au ns∧ns≠[]:=by
 unfold Hk at h
 split at h
 ·split at h
  ·rename_i xs n r e
   cases h
   rw[iB e];exact⟨rfl,by simp⟩
  ·cases h
 ·cases h
theorem lL:∀{us:List U} {ow:List (List Int)},qt us=some ow→us=ow.map au∧∀ns∈ow,ns≠[]
 | [],_,h=>by cases h;exact⟨rfl,fun ns hn=>by cases hn⟩
 |u::us,ow,h=>by
  unfold qt at h
  split at h
  ·rename_i ns r e1 e2
   cases h
   obtain⟨e3,n3⟩:=Hl e1
   obtain⟨e4,n4⟩:=lL e2
   refine⟨by rw[Yw,←e3,←e4],fun z hz => ?_⟩
   rcases YU.mp hz with rfl|hz
   ·exact n3
   ·exact n4 z hz
  ·cases h
theorem LL (h:Rp K H A (au ns) v):∃b,v=.ref b∧H b=some (.tup (ns.map V.int))∧ns.length≤Yx:=by
 unfold au Rp at h
 obtain⟨b,ys,e,q,l,r⟩:=h
 rw[r.toI] at q
 exact⟨b,e,q,by simpa using l⟩
theorem LM (q:H b=some (.tup (ns.map V.int)))(l:ns.length≤Yx):Rp K H A (au ns) (.ref b):=by
 unfold au Rp
 exact⟨b,_,rfl,q,by simpa using l,kY ns⟩
theorem Ag (q:H b=some (.tup (ns.map V.int))):ig H b=ns:=by unfold ig;rw[q];exact wg ns
theorem lM:∀{ow:List (List Int)} {xs:List V},az K H A (ow.map au) xs→∃bs:List YM,xs=bs.map V.ref∧bs.map (ig H)=ow∧∀b∈bs,H b=some (.tup ((ig H b).map V.int))∧(ig H b).length≤Yx
 | [],xs,h=>by rw[ZM] at h;unfold az at h;subst h;exact⟨[],rfl,rfl,fun b hb=>by cases hb⟩
 |ns::ow,xs,h=>by
  rw[Yw] at h
  unfold az at h
  obtain⟨x,r,rfl,h1,h2⟩:=h
  obtain⟨b,rfl,q,l⟩:=LL h1
  obtain⟨bs,rfl,e,z⟩:=lM h2
  refine⟨b::bs,rfl,by rw[Yw,e,Ag q],fun c hc => ?_⟩
  rcases YU.mp hc with rfl|hc
  ·rw[Ag q];exact⟨q,l⟩
  ·exact z c hc
theorem EL {bs:List YM}(h:∀b∈bs,H b=some (.tup ((ig H b).map V.int))∧(ig H b).length≤Yx):az K H A ((bs.map (ig H)).map au) (bs.map V.ref):=by
 induction bs with
 |nil=>exact az.nil
 |cons b bs ih=>exact az.cons (LM (h b YO).1 (h b YO).2) (ih fun c hc=>h c (YS _ hc))
noncomputable def iG (us:List U):R U:=match qt us with
 |some ow=>if ow.length≤1000000 then .ok (.lst ((eN ow).map au)) else .stk
 |none=>.stk
noncomputable def yy:List U→R U:=fun us=>match us with
 | [.lst xs]=>iG xs
 | [.tup xs]=>iG xs
 | [.dct ks _]=>if oP ks=true then iG ks else .stk
 |_=>.stk
noncomputable def uy (K:Yy):List V→Hp→VK→Prop:=fun xs H Q=>∃(p:YM) (bs:List YM),xs=[.ref p]∧LJ K H p bs∧bs.length≤1000000∧(∀b∈bs,∃ns:List Int,H b=some (.tup (ns.map V.int))∧ns≠[]) ∧
  ∀(l:YM) (mQ:List YM),H l=none→mQ.Perm bs→mQ.Pairwise (fun x y=>fJ (ig H y) (ig H x)=false)→Q (.ref l) (cm H l (.lst (mQ.map V.ref)))
theorem BS:mv K (uy K) .O yy:=fun A H vs us z Q h mu e q=>by
 have fin:∀(xs:List U) (p:YM) (bs:List YM),iG xs=.ok z→az K H A xs (bs.map V.ref)→LJ K H p bs→uy K [.ref p] H Q:=by
  intro xs p bs e r O2
  unfold iG at e
  split at e
  ·rename_i ow e1
   split at e
   ·rename_i hz
    cases e
    obtain⟨e2,ne⟩:=lL e1
    subst e2
    obtain⟨nP,e3,e4,e5⟩:=lM r
    have e6:bs=nP:=by
     have:Function.Injective V.ref:=fun a b h=>by cases h;rfl
     exact (List.map_inj_right fun _ _ h=>by cases h;rfl).mp e3
    subst e6
    have n1:bs.length=ow.length:=by rw[←e4,Yp]
    refine⟨p,bs,rfl,O2,by lia,fun b hb=>⟨_,(e5 b hb).1,ne _ (by rw[←e4];exact ZG hb)⟩,fun l mQ hn hp hw => ?_⟩
    have e7:mQ.map (ig H)=eN ow:=ux ((hp.map (ig H)).trans (by rw[e4];exact (dD ow).symm)) (aed.mpr hw) (lK ow)
    refine q _ _ (b_ hn _) ⟨l,rfl,hn,?_⟩
    rw[←e7]
    refine cH mu (EL fun b hb=>e5 b (hp.mem_iff.mp hb)) hn ?_
    have:Yx=16777216:=rfl
    rw[Yp,Yp,hp.length_eq];lia
   ·cases e
  ·cases e
 unfold yy at e
 split at e
 ·obtain⟨v,rfl,p⟩:=h.one
  unfold Pk at p
  obtain⟨a,ys,rfl,h1,l1,r1⟩:=p
  have e':=e
  unfold iG at e'
  split at e'
  ·rename_i ow e1
   have r2:=r1
   rw[(lL e1).1] at r2
   obtain⟨bs,rfl,_⟩:=lM r2
   exact fin _ a bs e r1 (.inl (fE.of h1))
  ·cases e'
 ·obtain⟨v,rfl,p⟩:=h.one
  unfold Pk at p
  obtain⟨a,ys,rfl,h1,l1,r1⟩:=p
  have e':=e
  unfold iG at e'
  split at e'
  ·rename_i ow e1
   have r2:=r1
   rw[(lL e1).1] at r2
   obtain⟨bs,rfl,_⟩:=lM r2
   exact fin _ a bs e r1 (.inr (.inl (fR.of h1)))
  ·cases e'
 ·rename_i ks ws
  split at e
  ·rename_i c
   obtain⟨v,rfl,p⟩:=h.one
   unfold Pk at p
   obtain⟨a,ys,rfl,h1,l1,r1⟩:=p
   obtain⟨es,ep,q1,kt,e1,e2⟩:=uq c h1
   refine fin ks a (es.map (·.2.1)) e ?_ (.inr (.inr ⟨ep,es,q1,rfl⟩))
   subst e1
   clear e fin e2 r1 h1 c q1 h
   induction es with
   |nil=>exact az.nil
   |cons x es ih=>exact az.cons (JE (kt x YO)) (ih fun y hy=>kt y (YS _ hy))
  ·cases e
 ·cases e
noncomputable def EM (K:Yy):List V→Hp→VK→Prop:=fun xs H Q=>∃(p:YM) (ns:List Int),xs=[.ref p]∧(fE K H p (ns.map V.int)∨fR K H p (ns.map V.int))∧ns.length<64 ∧
  ∀(l:YM) (sQ:List Int),H l=none→sQ.Perm ns→sQ.Pairwise (·≤·)→Q (.ref l) (cm H l (.lst (sQ.map V.int)))
noncomputable def sE:List U→R U:=fun us=>match xP us with
 | .ok z=>.ok z
 |_=>yy us
theorem wq:mv K (fun xs H Q=>EM K xs H Q∨uy K xs H Q) .O sE:=fun A H vs us z Q h mu e q=>by
 unfold sE at e
 split at e
 ·rename_i z' e1
  cases e
  exact .inl (Bn A H vs us _ Q h mu e1 q)
 ·exact .inr (BS A H vs us z Q h mu e q)
theorem sF (hc:X.calm=true)(hu:X.A.units+64<abp):dR X (.builtin "sorted") (fun xs H Q=>EM X.K xs H Q∨uy X.K xs H Q):=by
 intro pins s σ H xs us Q I r h
 rcases h with h|h
 ·exact tE pins s σ H xs us Q I r h
 ·exact uu hc hu pins s σ H xs us Q I r h
end L2
namespace L2
open Hc.Dw Hc.Ts
noncomputable def JG:R2:=fun x y H Q=>∃(p:YM) (xs:List V) (n:Int),x=.ref p∧y=.int n∧H p=some (.lst xs)∧0≤n∧n≤100000∧xs≠[]∧xs.length*n.toNat≤100000∧∀l,H l=none→Q (.ref l) (cm H l (.lst (Zh n.toNat xs).flatten))
theorem Ah:j5 X (abI .Mult) JG:=by
 intro pins s σ H x y v u Q I rx ry h
 obtain⟨p,xs,n,rfl,rfl,hp,h0,h1,Fq,hs,q⟩:=h
 obtain rfl:v=Value.ref p:=rx
 obtain⟨tk,rfl⟩:∃t,u=.int n t:=ry
 obtain⟨_,aq,n0,rv,hl,ho⟩:=I.lstM hp
 have hl:xs.length=aq.length:=rv.length
 have he:aq.toArray.isEmpty=false:=by cases aq with
  |nil=>cases xs with
   |nil=>exact absurd rfl Fq
   |cons=>simp at hl
  |cons=>simp
 have sl:Yx=16777216:=rfl
 refine wpAny_binaryOp_repeat_ref (T:="list") (U:="int") (by decide) ⟨_,ho,rfl⟩ (fun s'=>typeIs_int s' n tk) noFill_list_mul PySem.F.fills_int_mul PySem.F.slot_int_rmul repeat_list PySem.F.slot_int_index.lookup
  (acI PySem.F.slot_int_rmul (typeIs_int s n tk) PySem.F.entry_int_rmul (PySem.F.args_int_rmul_2 _ _) (int___rmul___int_list n tk p aq.toArray n0)
   ⟨ho,rfl,⟨_,ho,rfl⟩,acI PySem.F.slot_list_mul ⟨_,ho,rfl⟩ PySem.F.entry_list_mul (PySem.F.args_list_mul_2 _ _)
    (AutoListH.list___mul___list_int_3 p aq.toArray n0 n tk ?c0 ?c1 ?c2) ⟨ho,?_⟩⟩)
 case c0=>unfold Builtin.List.listFitsIndex;simp;lia
 case c1=>rw[YB,←hl];lia
 case c2=>rw[YB,←hl,kH (by rw[sl];lia)];exact Yq
 rw[he,if_neg Yq,listMul_foldl]
 have el:(#[]:Array Yv).toList=[]:=rfl
 simp only[el,aaE]
 have z2:(Zh n.toNat xs).flatten.length≤Yx:=by rw[zC,sl];lia
 exact⟨.ref s.heap.objs.size,_,I.laid (a:=s.heap.objs.size) (o:=.lst (Zh n.toNat xs).flatten) (t':=s.toks) (fun _ _ e=>Yt _ e) (YC _) ⟨z2,_,0,vM rv n.toNat,by
  have:=YA s.heap (o:={cls:=Value.type "list",data:=Data.seq (Zh n.toNat aq.toArray.toList).flatten.toArray}) rfl
  simpa using this⟩,rfl,q _ (I.hok.fresh (YC _))⟩
noncomputable def nJ:U→U→R U:=fun u w=>match u,w with
 | .lst us,.int n=>if 0≤n∧n≤100000∧us.length*n.toNat≤100000∧us.isEmpty=false then .ok (.lst (Zh n.toNat us).flatten) else .stk
 |_,_=>.stk
theorem wt:fU K JG .O nJ:=fun A H x y u w z Q hx hy mu e q=>by
 unfold nJ at e
 split at e
 ·rename_i us n
  split at e
  ·rename_i c
   cases e
   unfold Pk at hx hy
   obtain⟨a,xs,rfl,h1,l1,r1⟩:=hx
   subst hy
   have hl:=r1.length
   refine⟨a,xs,n,rfl,rfl,h1,c.1,c.2.1,fun z => ?_,by rw[←hl];exact c.2.2.1,fun l hn => ?_⟩
   ·have:us=[]:=ZT (by rw[hl,z];rfl)
    have c4:=c.2.2.2
    rw[this] at c4;cases c4
   ·refine q _ _ (b_ hn _) ⟨l,rfl,hn,cH mu (zD r1 _) hn ?_⟩
    rw[zC];have:Yx=16777216:=rfl;lia
  ·cases e
 ·cases e
noncomputable def VW (l a:YM)(h:abr):Prop:=h.IsValuesView l a
section
variable {e:aav}{tl:TE}{dw cpos p1:Pos}{b1:Bool}{m1:Md}{g1:Ev→R (U×Ev)}
noncomputable def OB (tl:TE):TE:=fun σ H Q=>tl σ H fun x H1=>∃a ep es,x=.ref a∧H1 a=some (DN a ep es)∧∀l,H1 l=none→Q (.ref l) (cm H1 l (.ext (VW l a)))
theorem BU (hl:PE X e tl)(m:M0 X e "values" dw cpos):PE X (.Call (.Attribute e "values" dw) [] [] cpos) (OB tl):=by
 intro pins s σ H Q I h
 refine acL m.base m.few m.line abv abk aee (dz (hl pins s σ H _ I h) fun v s1 ⟨x,H1,I1,r1,a,ep,es,ex,hq,q⟩ => ?_)
 subst ex
 cases r1
 obtain⟨t1,t2⟩:=yt I1 hq
 refine⟨t1,t2,?_⟩
 rw[m.trees]
 obtain⟨lo,ds,rd,n,_⟩:=I1.rawD hq
 refine aaY rfl (abY ?_)
 refine Y8 abk t1 ad2 (JA lo rd fun h1 vw k1 => ?_) (adD _)
 exact⟨.ref s1.heap.objs.size,_,I1.laid (a:=s1.heap.objs.size) (o:=.ext (VW s1.heap.objs.size a)) (t':=s1.toks) k1 (YC _) ⟨vw,by obtain⟨o,z,_⟩:=vw;exact⟨o,z⟩,fun g1 g2 x kp=>by obtain⟨o,z,r⟩:=x;exact⟨o,kp _ z,r⟩⟩,rfl,q _ (I1.hok.fresh (YC _))⟩
noncomputable def kg (ns:List Int):Bool:=decide (ns.length≤1000000)&&ns.all fun n=>decide (0≤n∧n≤1000000000)
theorem jn (ns:List Int):∀j,j≤ns.length→preSum (fun i=>ns.getD i 0) j=(ns.take j).sum
 |0,_=>rfl
 |j+1,h=>by
  unfold preSum
  rw[jn ns j (by lia),Y_ (show j<ns.length by lia),List.sum_append]
  simp[List.getD,Ys (show j<ns.length by lia)]
theorem sG:∀{ns:List Int},(ns.all fun n=>decide (0≤n∧n≤1000000000))=true→0≤ns.sum∧ns.sum≤ns.length*1000000000
 | [],_=>by simp
 |n::ns,h=>by
  rw[ZX,YG] at h
  obtain⟨a,b⟩:=sG h.2
  have:=of_decide_eq_true h.1
  rw[ZH,YN]
  constructor
  ·lia
  ·push_cast;lia
noncomputable def OC:List V→Hp→VK→Prop:=fun xs H Q=>∃l a ep es ns,xs=[.ref l]∧H l=some (.ext (VW l a))∧H a=some (DN a ep es)∧es.map (·.2.2)=ns.map V.int∧kg ns=true∧Q (.int ns.sum) H
theorem BV (hc:X.calm=true):dR X (.builtin "sum") OC:=by
 intro pins s σ H xs us Q I r h
 obtain⟨l,a,ep,es,ns,rfl,hl,ha,ev,sm,q⟩:=h
 obtain⟨u,rfl,rx⟩:=i4 r
 cases rx
 obtain⟨vw,_,_⟩:=I.hok l _ hl
 obtain⟨lo,ds,rd,n,at_⟩:=I.rawD ha
 have vw:s.heap.IsValuesView l a:=vw
 unfold kg at sm
 rw[YG] at sm
 have s1:=of_decide_eq_true sm.1
 have nn:es.length=ns.length:=by have:=congrArg List.length ev;simpa using this
 have lt:a<s.heap.objs.size:=rd.lt
 refine call_sum_walk (JB vw rd ⟨s.heap.objs.size,[s.heap.objs.size,a],[s.heap.objs.size],ds.size,_,_,fun i=>ns.getD i 0,rfl,LH (I.ok.hd hc) (Y0 lt),⟨⟨_,YA _ rfl,rfl,rfl⟩,rd.at fun o z=>Yt _ z⟩,?_,?_,?_,fun h' tk t' k => ?_⟩)
 ·intro b hb
  show b<(s.heap.push _).objs.size
  rw[aa_]
  simp only[YU,ac3,or_false] at hb
  rcases hb with rfl|rfl
  ·exact Nat.lt_succ_self _
  ·exact acK lt
 ·rintro i v ⟨e,e1,rfl⟩
  have hi:i<ds.size:=by
   rcases acj i ds.size with z|z
   ·exact z
   ·rw[abG z] at e1;cases e1
  rw[getElem?_pos ds i hi] at e1
  cases e1
  obtain⟨x,m,_,rv⟩:=at_ i hi
  have e2:(es.map (·.2.2))[i]? = some x.2.2:=by rw[YH,m];rfl
  rw[ev,YH] at e2
  have Vr:i<ns.length:=by lia
  rw[Ys Vr] at e2
  injection e2 with e2
  rw[←e2] at rv
  obtain⟨t,et⟩:=rv
  exact⟨t,by rw[et];simp[List.getD,Ys Vr]⟩
 ·intro j hj
  have Qb:j<ns.length:=by lia
  have al:=sm.2
  refine⟨?_,?_⟩
  ·have:=ZN.mp al ns[j] (YX Qb)
   have:=of_decide_eq_true this
   unfold InLong
   simp only[List.getD,Ys Qb,Option.getD_some]
   lia
  ·rw[jn ns (j+1) (by lia)]
   have WJ:((ns.take (j+1)).all fun n=>decide (0≤n∧n≤1000000000))=true:=ZN.mpr fun x hx=>ZN.mp al x (ZJ hx)
   obtain⟨p1,p2⟩:=sG WJ
   have:(ns.take (j+1)).length≤1000000:=by rw[YJ];lia
   unfold InLong
   lia
 ·have e:preSum (fun i=>ns.getD i 0) ds.size=ns.sum:=by rw[jn ns ds.size (by lia),n,nn,ZU]
  rw[e]
  refine⟨.int ns.sum,H,I.kept (t':=tk) fun b o z => ?_,⟨t',rfl⟩,q⟩
  refine k b o (fun hb => ?_) (Yt _ z)
  have:b=s.heap.objs.size:=by simpa using hb
  exact absurd (YE z) (by rw[this];exact aaz _)
noncomputable def wu (g:Ev→R (U×Ev)):Ev→R (U×Ev):=fun ρ=>(g ρ).bind fun x=>match x.1 with
 | .dct ks us=>if oP ks=true then (match dW us with
  |some ns=>if kg ns=true then .ok (.int ns.sum,x.2) else .stk
  |none=>.stk) else .stk
 |_=>.stk
theorem Ai (hc:X.calm=true)(h:DE X G e b1 m1 g1)(hm:X.mg "sum"=none)(hg:Gl X "sum":=by rfl)(m:M0 X e "values" dw cpos:=by exact⟨rfl,rfl,rfl,rfl⟩)
  (P9:YF [.Call (.Attribute e "values" dw) [] [] cpos] X.env=(false,abE (.Call (.Attribute e "values" dw) [] [] cpos) X.env)::YF [] X.env:=by rfl) (Fs:(aaQ pos (YF [] X.env)).any (·.1)=false:=by rfl) :
  DE X G (.Call (.Name "sum" p1) [.Call (.Attribute e "values" dw) [] [] cpos] [] pos) b1 .S (wu g1):=⟨(gU (BV hc) hg hm KJ (aL (BU h.un m) dA P9) (by decide) (by decide) P9 Fs).to fun σ H Q h00=>by
 obtain⟨Z,A,ρ,q,f⟩:=h00
 refine⟨Z,A,ρ,q,?_⟩
 unfold wu at f
 cases e1:g1 ρ with
 |stk=>rw[e1] at f;exact f.elim
 |exc=>rw[e1] at f;exact f.elim
 |ok y =>
  obtain⟨u,ρ1⟩:=y
  rw[e1] at f
  intro v H1 q1 x1 s1 vm
  cases u with
  |dct ks us =>
   dsimp only[L2.R.bind] at f
   by_cases c:oP ks=true
   ·rw[if_pos c] at f
    cases e2:dW us with
    |none=>rw[e2] at f;exact f.elim
    |some ns =>
     rw[e2] at f
     dsimp only at f
     by_cases c2:kg ns=true
     ·rw[if_pos c2] at f
      have pk:=vm.pk
      unfold Pk at pk
      obtain⟨a,xs,rfl,d,l,r⟩:=pk
      obtain⟨es,ep,hq,kt,e3,e4⟩:=uq c d
      rw[iB e2] at r
      have r2:=r.toI
      rw[e4] at r2
      refine⟨a,ep,es,rfl,hq,fun l hn => ?_⟩
      have ne:a≠l:=fun z=>by rw[←z,hq] at hn;cases hn
      have sm:=b_ hn (.ext (VW l a))
      exact⟨l,a,ep,es,ns,rfl,aI,by rw[aD ne];exact hq,r2,c2,f _ _ (q1.same sm) (x1.trans (ej.same sm)) (nX s1 sm) (show Rp X.K _ A _ _ from eA)⟩
     ·rw[if_neg c2] at f;exact f.elim
   ·rw[if_neg c] at f;exact f.elim
  |_=>exact f.elim⟩
end
end L2
namespace L2
open Hc.Dw Hc.Ts
noncomputable def LN (ls ws:List U)(p:U×U):Bool:=match gu ls ws p.1 with
 |some w=>decide (w=p.2)
 |none=>false
noncomputable def EN (ks us ls ws:List U):Bool:=ks.length==ls.length&&(ks.zip us).all (LN ls ws)
noncomputable def qu (f:Bool→Bool):U→U→R U:=fun u w=>match u,w with
 | .dct ks us,.dct ls ws=>if (oP ks&&oP ls&&(dW us).isSome&&(dW ws).isSome)=true then .ok (.bl (f (EN ks us ls ws))) else .stk
 |_,_=>.stk
noncomputable def yz (fs:List (List U×YM×V))(e:List U×YM×V):Bool:=match iX fs e.1 with
 |some v=>decide (we v=we e.2.2)
 |none=>false
noncomputable def yA (es:List (List U×YM×V)):Prop:=∃ns:List Int,es.map (·.2.2)=ns.map V.int
theorem qv (h:yA es){e:List U×YM×V}(m:e∈es):∃n,e.2.2=.int n:=by
 obtain⟨ns,z⟩:=h
 have:e.2.2∈ns.map V.int:=by rw[←z];exact ZG m
 obtain⟨n,_,q⟩:=Y9.mp this
 exact⟨n,q.symm⟩
noncomputable def JH (f:Bool→Bool):R2:=fun x y H Q=>∃a b es fs,x=.ref a∧y=.ref b∧fT H a es∧fT H b fs∧yA es∧yA fs∧Q (.bl (f (es.length==fs.length&&es.all (yz fs)))) H
theorem Aj {fs:List (List U×YM×V)}{k:List U}(h:iX fs k=some v):∃e∈fs,e.2.2=v:=by
 unfold iX at h
 obtain⟨e,h1,h2⟩:=acB.mp h
 exact⟨e,List.mem_of_find?_eq_some h1,h2⟩
theorem Ak {xs:List (List U×YM×Yv)}(p:abH xH es xs)(h:yA es):wm xs:=by
 intro x hx
 obtain⟨e,he,r⟩:=j7 p hx
 obtain⟨n,en⟩:=qv h he
 have:=r.2.2
 rw[en] at this
 obtain⟨t,z⟩:=this
 exact⟨n,t,z⟩
theorem EO {fs:List (List U×YM×V)}{ys:List (List U×YM×Yv)}(pf:abH xH fs ys)(hf:yA fs):∀{xs:List (List U×YM×Yv)},abH xH es xs→yA es→xs.all (mF ys)=es.all (yz fs):=by
 intro xs p h
 have one:∀e x,xH e x→(∃n,e.2.2=.int n)→mF ys x=yz fs e:=by
  rintro e x ⟨r1,r2,r3⟩ ⟨n,en⟩
  rw[en] at r3
  obtain⟨t,ex⟩:=r3
  unfold mF yz
  rw[←r1]
  have rel:=i7 e.1 pf
  cases c:atKey ys e.1 with
  |none =>
   rw[c] at rel
   cases d:iX fs e.1 with
   |none=>rfl
   |some v=>rw[d] at rel;exact rel.elim
  |some q =>
   rw[c] at rel
   cases d:iX fs e.1 with
   |none=>rw[d] at rel;exact rel.elim
   |some v =>
    rw[d] at rel
    obtain⟨g,gm,gv⟩:=Aj d
    obtain⟨m,em⟩:=qv hf gm
    rw[gv] at em
    subst em
    obtain⟨t2,eq⟩:∃t,q.2=.int m t:=rel
    dsimp only
    rw[ex,eq,en]
    show (n==m)=decide (m=n)
    by_cases z:n=m
    ·subst z;simp
    ·rw[beq_eq_false_iff_ne.mpr z,decide_eq_false (fun q=>z q.symm)]
 obtain⟨ns,hn⟩:=h
 induction p generalizing ns with
 |nil=>rfl
 | @cons e x es xs r t ih =>
  cases ns with
  |nil=>cases hn
  |cons n ns =>
   rw[Yw,Yw] at hn
   injection hn with h1 h2
   rw[ZX,ZX,one e x r ⟨n,h1⟩,ih ns h2]
theorem Al (hu:X.A.units+64<abp):j5 X (abL .Eq) (JH id):=by
 intro pins s σ H x y v u Q I rx ry h
 obtain⟨a,b,es,fs,rfl,rfl,da,db,ie,jf,q⟩:=h
 cases rx
 cases ry
 obtain⟨xs,p1,d1⟩:=da.of I.hok
 obtain⟨ys,p2,d2⟩:=db.of I.hok
 have l1:es.length=xs.length:=abt p1
 have l2:fs.length=ys.length:=abt p2
 refine VY (da.lo I.hok) (db.lo I.hok) (tF hu) (by lia) d1 d2 (Ak p1 ie) (Ak p2 jf) ⟨.bl (xs.length==ys.length&&xs.all (mF ys)),H,I,rfl,?_⟩
 rw[EO p2 jf p1 ie,←l1,←l2]
 exact q
theorem Am {ls ws:List U}{fs:List (List U×YM×V)}{H:Hp}{A:YM→Prop}(rl:az K H A ws (fs.map (·.2.2)))(el:ls=fs.map (fun p=>.tup p.1))(jf:yA fs):∀{es:List (List U×YM×V)} {ns:List Int},es.map (·.2.2)=ns.map V.int →
  ((es.map fun p=>U.tup p.1).zip (ns.map U.int)).all (LN ls ws)=es.all (yz fs)
 | [],[],_=>rfl
 | [],_::_,h=>by cases h
 |_::_,[],h=>by cases h
 |e::es,n::ns,h=>by
  rw[Yw,Yw] at h
  injection h with h1 h2
  rw[Yw,Yw,adP,ZX,ZX,Am rl el jf h2]
  congr 1
  unfold LN yz
  subst el
  obtain⟨g1,g2⟩:=tY (k:=e.1) rl
  dsimp only
  cases c:gu (fs.map fun p=>U.tup p.1) ws (.tup e.1) with
  |none=>rw[g2 c]
  |some w =>
   obtain⟨v,d,rp⟩:=g1 w c
   rw[d]
   obtain⟨g,gm,gv⟩:=Aj d
   obtain⟨m,em⟩:=qv jf gm
   rw[gv] at em
   subst em
   have ew:w=.int m:=by
    cases w<;>unfold Rp at rp<;>first|(cases rp;rfl)|(cases rp;done)|(obtain⟨_,_,z,_⟩:=rp;cases z)
   subst ew
   rw[h1]
   show decide (U.int m=U.int n)=decide (we (V.int m)=we (V.int n))
   by_cases z:m=n
   ·subst z;simp
   ·rw[decide_eq_false (p:=U.int m=U.int n) (fun q=>z (by cases q;rfl)),decide_eq_false (p:=we (V.int m)=we (V.int n)) z]
theorem wx {f:Bool→Bool}:fU K (JH f) .S (qu f):=fun A H x y u w z Q hx hy mu e q=>by
 unfold qu at e
 split at e
 ·rename_i ks us ls ws
  split at e
  ·rename_i c
   cases e
   rw[YG,YG,YG] at c
   obtain⟨⟨⟨c1,c2⟩,c3⟩,c4⟩:=c
   obtain⟨ns,e3⟩:=aaI.mp c3
   obtain⟨ms,e4⟩:=aaI.mp c4
   unfold Pk at hx hy
   obtain⟨a,xs,rfl,d1,_,r1⟩:=hx
   obtain⟨b,ys,rfl,d2,_,r2⟩:=hy
   have Vs:∀{a:YM} {ks:List U} {xs:List V},oP ks=true→tG H a ks xs→∃es,fT H a es∧ks=es.map (fun p=>.tup p.1)∧xs=es.map (·.2.2):=by
    intro a ks xs w d
    rcases d with⟨aJ,h,rfl,rfl⟩|⟨es,n,h,e1,e2⟩
    ·obtain⟨es,ep,q1,_⟩:=uq w (.inl ⟨aJ,h,rfl,rfl⟩)
     rw[h] at q1;cases q1
    ·exact⟨es,h,e1,e2⟩
   obtain⟨es,n1,f1,g1⟩:=Vs c1 d1
   obtain⟨fs,n2,f2,g2⟩:=Vs c2 d2
   have eu:=iB e3
   have ew:=iB e4
   subst eu ew
   have t1:=r1.toI
   have t2:=r2.toI
   rw[g1] at t1
   rw[g2] at t2
   rw[g2] at r2
   refine⟨a,b,es,fs,rfl,rfl,n1,n2,⟨ns,t1⟩,⟨ms,t2⟩,q _ H (aH.refl _) (show Rp K H A _ _ from ?_)⟩
   have:EN ks (ns.map .int) ls (ms.map .int)=(es.length==fs.length&&es.all (yz fs)):=by
    unfold EN
    rw[f1,Am r2 f2 ⟨ms,t2⟩ t1,f2,Yp,Yp]
   rw[this]
   exact iQ
  ·cases e
 ·cases e
end L2
namespace L2
open Hc.Dw Hc.Ts
noncomputable def eF (es fs:List (List U×YM×V)):List (List U×YM×V):=fs.foldl (fun es e=>gL es e.1 e.2.1 e.2.2) es
theorem sH:∀{fs:List (List U×YM×V)} {ys:List (List U×YM×Yv)} {es:List (List U×YM×V)} {xs:List (List U×YM×Yv)},abH xH fs ys→abH xH es xs→abH xH (eF es fs) (eE xs ys)
 |_,_,es,xs,.nil,p=>p
 |f::fs,y::ys,es,xs,.cons r t,p=>by
  unfold eF eE
  rw[acv,acv]
  have:=vv f.1 (b:=f.2.1) r.2.2 p
  have e1:=r.1
  have e2:=r.2.1
  rw[show storedH xs f.1 f.2.1 y.2.2=storedH xs y.1 y.2.1 y.2.2 by rw[e1,e2]] at this
  exact sH t this
noncomputable def ER (H:Hp)(z:V)(e:List U×YM×V):Prop:=∃T,z=.ref T∧H T=some (.tup [.ref e.2.1,e.2.2])∧rg H e.1 e.2.1
noncomputable def ES:List V→Hp→VK→Prop:=fun xs H Q=>∃(p:YM) (zs:List V) (es:List (List U×YM×V)),xs=[.ref p]∧H p=some (.lst zs)∧zs.length≤1000000∧abH (ER H) zs es∧∀l ep,H l=none→Q (.ref l) (cm H l (DN l ep (eF [] es)))
theorem wy {pins:List (YM×Obj)}{σ:St}{H:Hp}{s:YK}(I:aw X pins σ H s):∀{zs:List V} {es:List (List U×YM×V)} {aq:List Yv},abH (ER H) zs es→aQ zs aq→∃xs,abH xH es xs∧aq.length=xs.length∧∀(i:Nat) v,aq[i]? = some v→∃e,xs[i]? = some e∧yx s.heap v e
 |_,_,_,.nil,.nil=>⟨[],.nil,rfl,fun i v h=>by simp at h⟩
 |z::zs,e::es,v::aq,.cons r t,.cons rv tv=>by
  obtain⟨xs,p,n,at_⟩:=wy I t tv
  obtain⟨T,rfl,hT,kt⟩:=r
  cases rv
  obtain⟨_,ts,rt,it,_⟩:=I.hok T _ hT
  cases rt with
  |cons r1 rr =>
   cases rr with
   | @cons _ w _ _ r2 rr2 =>
    cases rr2
    cases r1
    refine⟨(e.1,e.2.1,w)::xs,.cons ⟨rfl,rfl,r2⟩ p,by rw[YN,YN,n],fun i v h => ?_⟩
    cases i with
    |zero =>
     simp at h
     subst h
     exact⟨(e.1,e.2.1,w),by simp,T,rfl,it,kt.tk I.hok⟩
    |succ i =>
     obtain⟨e',h1,h2⟩:=at_ i v (by simpa using h)
     exact⟨e',by simpa using h1,h2⟩
theorem yB (hc:X.calm=true)(hu:X.A.units+64<abp):dR X (.type "dict") ES:=by
 intro pins s σ H xs us Q I r h
 obtain⟨p,zs,es,rfl,hp,hz,pr,q⟩:=h
 obtain⟨u,rfl,rx⟩:=i4 r
 cases rx
 obtain⟨_,aq,n0,rv,n1,e⟩:=I.lstM hp
 obtain⟨ys,p1,n2,at_⟩:=wy I pr rv
 refine BQ (I.ok.hd hc) hu e at_ n2 (by lia) fun h' tk dd kp => ?_
 have rel:abH xH (eF [] es) (eE [] ys):=sH p1 .nil
 obtain⟨o,ds,ep,q1,q2,q3,q4,q5,q6⟩:=dd
 have ns:(s.heap.objs.size==ZQ)=false:=beq_eq_false_iff_ne.mpr (abq I.big)
 exact⟨.ref s.heap.objs.size,_,I.laid (a:=s.heap.objs.size) (o:=DN s.heap.objs.size ep (eF [] es)) (t':=tk) kp (YC _) ⟨⟨ns,o,ds,_,q1,q2,q3,rel,q4⟩,⟨o,q1⟩,fun g1 g2 ⟨l,o,ds,xs,z1,z2⟩ kp=>⟨l,o,ds,xs,kp _ z1,z2⟩⟩,rfl,q _ ep (I.hok.fresh (YC _))⟩
noncomputable def rk:List U→List U→List U→Option (List U×List U)
 |ks,us,[]=>some (ks,us)
 |ks,us,.tup [k,v]::ps=>if Bs k=true then rk (gE ks k) (fg ks us k v) ps else none
 |_,_,_=>none
noncomputable def qw:List U→R U:=fun us=>match us with
 | [.lst ps]=>if ps.isEmpty=false∧ps.length≤1000000 then (match rk [] [] ps with
  |some (ks,us)=>.ok (.dct ks us)
  |none=>.stk) else .stk
 |_=>.stk
theorem ET {H:Hp}{A:YM→Prop}:∀{ps:List U} {ks us ks' JS:List U} {zs:List V} {fs:List (List U×YM×V)},rk ks us ps=some (ks',JS)→az K H A ps zs→ks=fs.map (fun p=>.tup p.1)→az K H A us (fs.map (·.2.2))→(fs.map (·.1)).Nodup→(∀e∈fs,rg H e.1 e.2.1) →
  ∃es,abH (ER H) zs es∧ks'=(eF fs es).map (fun p=>.tup p.1)∧az K H A JS ((eF fs es).map (·.2.2))∧((eF fs es).map (·.1)).Nodup∧(∀e∈eF fs es,rg H e.1 e.2.1)∧es.length=ps.length∧(eF fs es).length≤fs.length+es.length
 | [],ks,us,ks',JS,zs,fs,h,r,ek,ru,nd,kt=>by
  unfold rk at h
  cases h
  unfold az at r
  subst r
  exact⟨[],.nil,ek,ru,nd,kt,rfl,YC _⟩
 |p::ps,ks,us,ks',JS,zs,fs,h,r,ek,ru,nd,kt=>by
  unfold rk at h
  split at h
  ·rename_i RT;cases RT
  ·rename_i k v Ym RT
   cases RT
   split at h
   ·rename_i c
    unfold az at r
    obtain⟨z,zr,rfl,r1,r2⟩:=r
    unfold Rp at r1
    obtain⟨T,ys,rfl,hT,cU,rr⟩:=r1
    clear cU
    unfold az at rr
    obtain⟨x1,xr,rfl,k1,rr⟩:=rr
    unfold az at rr
    obtain⟨x2,xr2,rfl,v1,rr⟩:=rr
    unfold az at rr
    subst rr
    cases k<;>first|(cases c;done)|skip
    rename_i kk
    obtain⟨b,rfl,ktb⟩:=vK c k1
    have RU:=rX (k:=kk) (b:=b) fs x2
    rw[←ek] at RU
    have Vt:=rY (k:=kk) (b:=b) v1 ru
    rw[←ek] at Vt
    obtain⟨es,a1,a2,a3,a4,a5,a6,a7⟩:=ET h r2 RU.symm Vt (zA nd) (vL kt ktb)
    have pl:(gL fs kk b x2).length≤fs.length+1:=by
     unfold gL;split
     ·rw[Yp];lia
     ·rw[Yu,Z0];exact YC _
    refine⟨(kk,b,x2)::es,.cons ⟨T,rfl,hT,ktb⟩ a1,a2,a3,a4,a5,by rw[YN,YN,a6],?_⟩
    show (eF (gL fs kk b x2) es).length≤_
    rw[YN];lia
   ·cases h
  ·cases h
theorem sI:∀{es fs:List (List U×YM×V)},(es≠[]∨fs≠[])→eF es fs≠[]
 |es,[],h=>by rcases h with h|h;exact h;exact absurd rfl h
 |es,f::fs,_=>sI (es:=gL es f.1 f.2.1 f.2.2) (fs:=fs) (.inl zB)
theorem BW:mv K ES .O qw:=fun A H vs us z Q h mu e q=>by
 unfold qw at e
 split at e
 ·rename_i ps
  split at e
  ·rename_i c
   split at e
   ·rename_i ks JS e1
    cases e
    obtain⟨v,rfl,p⟩:=h.one
    unfold Pk at p
    obtain⟨a,zs,rfl,h1,l1,r1⟩:=p
    obtain⟨es,a1,a2,a3,a4,a5,a6,a7⟩:=ET (fs:=[]) e1 r1 rfl az.nil abA (fun e he=>by cases he)
    have ne:es≠[]:=fun z=>by
     rw[z] at a6
     have:=ZT a6.symm
     rw[this] at c;cases c.1
    have nz:zs.length≤1000000:=by rw[←r1.length];exact c.2
    refine⟨a,zs,es,rfl,h1,nz,a1,fun l ep hn => ?_⟩
    have sm:=b_ hn (DN l ep (eF [] es))
    refine q _ _ sm ⟨l,rfl,hn,?_⟩
    refine⟨_,.inr ⟨eF [] es,sI (.inr ne),⟨.inl ⟨ep,aI⟩,a4,fun e he=>(a5 e he).to fun b ys w=>sm b _ w⟩,a2,rfl⟩,?_,a3.re mu (ej.same sm) fun b z => ?_⟩
    ·have n1:=a3.length
     rw[Yp] at n1
     have:Yx=16777216:=rfl
     have:es.length≤1000000:=by rw[a6];exact c.2
     simp only[abO,abQ] at a7
     lia
    ·rcases z with z|z
     ·exact .inl z
     ·subst z;exact .inr hn
   ·cases e
  ·cases e
 ·cases e
end L2
namespace L2
open Hc.Dw Hc.Ts
noncomputable def LO:U→U→R Bool
 | .int a,.int b=>.ok (a==b)
 | .bl a,.bl b=>.ok (a==b)
 | .str a,.str b=>.ok (a==b)
 |_,_=>.stk
noncomputable def gP (f:Bool→Bool):U→U→R U:=fun u w=>(LO u w).bind fun b=>.ok (.bl (f b))
theorem fK:fU K UI .S (gP id):=fun A H x y u w z Q hx hy mu e q=>by
 unfold gP at e
 obtain⟨b,e1,e2⟩:=R.bind_ok e
 unfold LO at e1
 split at e1
 ·cases e1;cases e2;rw[hx.int,hy.int]
  refine⟨rfl,?_⟩
  rw[oA]
  exact q _ H (aH.refl _) (show Rp K H A _ _ from iQ)
 ·cases e1;cases e2;rw[hx.bl,hy.bl]
  refine⟨rfl,?_⟩
  rw[sW]
  exact q _ H (aH.refl _) (show Rp K H A _ _ from iQ)
 ·cases e1;cases e2;rw[hx.str,hy.str]
  refine⟨rfl,?_⟩
  rw[oB]
  exact q _ H (aH.refl _) (show Rp K H A _ _ from iQ)
 ·cases e1
theorem lN:fU K UJ .S (gP not):=fun A H x y u w z Q hx hy mu e q=>by
 unfold gP at e
 obtain⟨b,e1,e2⟩:=R.bind_ok e
 unfold LO at e1
 split at e1
 ·cases e1;cases e2;rw[hx.int,hy.int]
  refine⟨rfl,?_⟩
  rw[oA]
  exact q _ H (aH.refl _) (show Rp K H A _ _ from iQ)
 ·cases e1;cases e2;rw[hx.bl,hy.bl]
  refine⟨rfl,?_⟩
  rw[sW]
  exact q _ H (aH.refl _) (show Rp K H A _ _ from iQ)
 ·cases e1;cases e2;rw[hx.str,hy.str]
  refine⟨rfl,?_⟩
  rw[oB]
  exact q _ H (aH.refl _) (show Rp K H A _ _ from iQ)
 ·cases e1
end L2
namespace Hc
open L2
theorem JI {f:Bool→Bool}{u w:U}:gP f u w=(LO u w).bind fun b=>.ok (.bl (f b)):=nr rfl
theorem cL {a b:Int}:LO (.int a) (.int b)=.ok (a==b):=nr rfl
theorem uz {a b:Bool}:LO (.bl a) (.bl b)=.ok (a==b):=nr rfl
theorem An {a b:Str}:LO (.str a) (.str b)=.ok (a==b):=nr rfl
theorem dE:type_of% @Yw.{0,0}∧type_of% @ZM.{0,0}∧type_of% @YN.{0}∧type_of% @abO.{0}∧type_of% @ab8.{0}∧type_of% @aaE.{0}∧type_of% @aah.{0}∧type_of% @List.replicate_zero.{0}∧type_of% @List.getElem?_cons_zero.{0}∧type_of% @aar.{0}∧type_of% @aa6.{0}∧type_of% @acw.{0}∧type_of% @Option.getD_some.{0}∧type_of% @ac0.{0}∧type_of% @if_true.{1}∧type_of% @if_false.{1}∧type_of% @ZE∧type_of% @II∧type_of% @abT∧type_of% @Bool.not_false∧type_of% @JI∧type_of% @cL∧type_of% @uz∧type_of% @An :=
 ⟨@Yw.{0,0},@ZM.{0,0},@YN.{0},@abO.{0},@ab8.{0},@aaE.{0},@aah.{0},@List.replicate_zero.{0},@List.getElem?_cons_zero.{0},@aar.{0},@aa6.{0},@acw.{0},@Option.getD_some.{0},@ac0.{0},@if_true.{1},@if_false.{1},@ZE,@II,@abT,@Bool.not_false,@JI,@cL,@uz,@An⟩
end Hc
noncomputable section
namespace Hc
open PySem L2
noncomputable abbrev kh:Gm:=⟨[false,false,false],false,fun _=>False⟩
noncomputable def d6:Ev→SR:=(aN (bj 0 (iR vD (aa (ae 0) ak)))
 (aN (bj 1 (iR vD (aa (ae 1) ak)))
 (aN (ft (gB (aZ (gP not) (ae 1) (gC (.int 0))))
 (aN (bj 2 (aZ n6 (ae 0) (ae 1)))
 (aN (bj 0 (ae 1))
 (bj 1 (ae 2)))) 1000)
 (cz (ae 0)))))
noncomputable def bH:List U→R U:=eP .S 3 d6
noncomputable abbrev yC:Gm:=⟨[false,false],false,fun _=>False⟩
noncomputable def ki:Ev→SR:=(cz (iR fw (aa (jO (g7 (ae 1)) [none,some 0] (cF 0) eO (aZ u_ (ae 1) (ae 0))) ak)))
noncomputable def f_:List U→R U:=eP .S 2 ki
noncomputable abbrev LP:Gm:=⟨[false,false],false,fun _=>False⟩
noncomputable def yD:Ev→SR:=(cz (fF 2 f_ (aa (ae 0) (aa (ae 1) ak))))
noncomputable def gQ:List U→R U:=eP .S 2 yD
noncomputable abbrev BX:Gm:=⟨[false,true,false],false,fun _=>False⟩
noncomputable def mH:Ev→SR:=(aN (bj 1 K9)
 (aN (fG (g7 (ae 0)) (cF 2)
 (eQ 1 (aZ bR (fA 1 (ae 2) (gC (.int 0))) (gC (.int 1))) (ae 2)))
 (cz (ae 1))))
noncomputable def bM:List U→R U:=eP .O 3 mH
noncomputable abbrev yE:Gm:=⟨[false,false,false,true,false],false,fun _=>False⟩
noncomputable def kj:Ev→SR:=(aN (bj 1 (gC (.int 0)))
 (aN (fG (Ra (ae 0)) (cF 2)
 (bj 1 (fF 2 bH (aa (ae 1) (aa (ae 2) ak)))))
 (aN (bj 3 K9)
 (aN (fG (JF (ae 0)) (ed 2 (aT (cF 4) (aT (cF 2) d_)))
 (eQ 3 (aZ jT (ae 2) (ae 1)) (ae 4)))
 (cz (ae 3))))))
noncomputable def bX:List U→R U:=eP .O 5 kj
noncomputable abbrev LQ:Gm:=⟨[false,false],false,fun _=>False⟩
noncomputable def yF:Ev→SR:=(cz (aZ (qu id) (fF 1 bX (aa (fF 1 bM (aa (ae 0) ak)) ak)) (fF 1 bX (aa (fF 1 bM (aa (ae 1) ak)) ak))))
noncomputable def qx:List U→R U:=eP .S 2 yF
noncomputable abbrev mI:Gm:=⟨[false,false,true,false,false,false,false,false,false,true],false,fun _=>False⟩
noncomputable def yG:Ev→SR:=(aN (bj 2 K9)
 (aN (fG (JF (fF 1 bM (aa (ae 0) ak))) (ed 2 (aT (cF 3) (aT (cF 4) d_)))
 (fG (JF (fF 1 bM (aa (ae 1) ak))) (ed 2 (aT (cF 5) (aT (cF 6) d_)))
 (aN (bj 7 (fF 2 gQ (aa (ae 3) (aa (ae 5) ak))))
 (eQ 2 (aZ bR (fA 2 (ae 7) (gC (.int 0))) (aZ gA (ae 4) (ae 6))) (ae 7)))))
 (wc 2 (aN (bj 8 (fF 1 bX (aa (ae 2) ak)))
 (aN (qW (gB (aZ GG (wu (ae 8)) (gC (.int 24)))) (fun _=>.exc "TooMany" .non) dO)
 (aN (bj 9 (eL ak))
 (aN (fG (g7 (iR sE (aa (ae 8) ak))) (cF 7)
 (gZ (gM "list" 9 cZ (aa (aZ nJ (eL (aa (ae 7) ak)) (aZ mx (ae 8) (ae 7))) ak))))
 (cz (iR fw (aa (ae 9) ak))))))))))
noncomputable def eT:List U→R U:=eP .S 10 yG
noncomputable abbrev qy:Gm:=⟨[false,false],false,fun _=>False⟩
noncomputable def eG:Ev→SR:=(aN (qW (gB (aZ NS (ae 1) (iR iA (aa (ae 0) ak)))) (cz (aZ u_ (ae 0) (ae 1))) dO)
 (cz (gC (.int 0))))
noncomputable def cO:List U→R U:=eP .S 2 eG
noncomputable abbrev uA:Gm:=⟨[false,false,false],false,fun _=>False⟩
noncomputable def fL:Ev→SR:=(aN (bj 2 (fF 2 cO (aa (ae 0) (aa (ae 1) ak))))
 (aN (qW (gB (aZ QR (ae 2) (aZ GF (gC (.int 10)) (gC (.int 18))))) (cz (eL (aa (aZ GB (ae 2) (aZ GF (gC (.int 10)) (gC (.int 18)))) (aa (gC (.bl true)) ak)))) dO)
 (cz (eL (aa (aZ n6 (ae 2) (gC (.int 2147483647))) (aa (gC (.bl false)) ak))))))
noncomputable def dN:List U→R U:=eP .O 3 fL
noncomputable abbrev wz:Gm:=⟨[true,false,false,false],true,fun _=>False⟩
noncomputable def gF:Ev→SR:=(aN (qW (gB (aZ u_ (ae 0) (gC (.int 1)))) (aN (bj 2 (aZ n6 (aZ u_ (ae 0) (gC (.int 0))) (ae 1)))
 (aN (zo 0 (aZ jT (aZ u_ (ae 0) (gC (.int 0))) (ae 1)) (gC (.int 0)))
 (cz (ae 2)))) dO)
 (aN (zo 0 (aZ n6 (aZ bR (aZ gA (aZ u_ (ae 0) (gC (.int 0))) (gC (.int 48271))) (gC (.int 29))) (gC (.int 2147483647))) (gC (.int 0)))
 (aN (bj 3 (aZ n6 (aZ bR (aZ bR (aZ gA (aZ u_ (ae 0) (gC (.int 0))) (aZ u_ (ae 0) (gC (.int 0)))) (aZ gA (gC (.int 39373)) (aZ u_ (ae 0) (gC (.int 0))))) (gC (.int 7))) (gC (.int 2147483629))))
 (aN (bj 3 (aZ n6 (aZ bR (aZ gA (ae 3) (ae 3)) (aZ gA (gC (.int 16807)) (ae 3))) (gC (.int 2147483587))))
 (cz (aZ n6 (aZ jT (ae 3) (gC (.int 8))) (ae 1)))))))
noncomputable def aG:List U→R (U×U):=xN 4 gF
noncomputable abbrev iH:Gm:=⟨[true,false,true],true,fun _=>False⟩
noncomputable def iI:Ev→SR:=(aN (bj 2 (Di (aa (ae 1) ak)))
 (cz (iR fw (aa (C6 iH (g8 (aa (ae 1) ak)) [none,some 2,some 0] (cF 0) eO (gM "list" 1 mw (aa (pF 2 2 aG (aa (iR iA (aa (ae 1) ak)) ak)) ak))) ak))))
noncomputable def c_:List U→R (U×U):=xN 3 iI
noncomputable abbrev gb:Gm:=⟨[true,false,false,false,false,false,false,false,false,true],true,fun _=>False⟩
noncomputable def bY:Ev→SR:=(aN (bj 2 (Dj (aa (ae 1) ak)))
 (aN (bj 3 (pF 2 0 aG (aa (gC (.int 6)) ak)))
 (aN (qW (gB (aZ (gP id) (ae 3) (gC (.int 0)))) (cz (iR fw (aa (jO (g8 (aa (ae 1) ak)) [none,some 2] (cF 0) eO (aZ bR (kP jU (ae 1) (bW (ae 0)) cI) (kP jU (ae 1) cI (bW (ae 0))))) ak))) dO)
 (aN (qW (gB (aZ (gP id) (ae 3) (gC (.int 1)))) (aN (bj 4 (pF 2 0 c_ (aa (ae 1) ak)))
 (cz (cw (aa (ae 2) (aa (ae 4) ak))))) dO)
 (aN (qW (gB (aZ (gP id) (ae 3) (gC (.int 2)))) (aN (bj 5 (aZ jT (ae 1) (gC (.int 2))))
 (cz (cw (aa (ae 2) (aa (aZ bR (aZ bR (kP jU (ae 2) (bW (ae 5)) (bW (aZ gA (gC (.int 2)) (ae 5)))) (kP jU (ae 2) cI (bW (ae 5)))) (kP jU (ae 2) (bW (aZ gA (gC (.int 2)) (ae 5))) cI)) ak))))) dO)
 (aN (qW (gB (aZ (gP id) (ae 3) (gC (.int 3)))) (aN (bj 6 (eL (aa (cw ak) ak)))
 (aN (bj 7 (iR rT (aa (ae 1) (aa (aZ bR (gC (.int 2)) (pF 2 0 aG (aa (gC (.int 3)) ak))) ak))))
 (aN (fG (g8 (aa (ae 7) ak)) (cF 8)
 (aN (bj 9 (eL ak))
 (aN (fG (g7 (ae 6)) (cF 4)
 (gZ (gM "list" 9 cZ (aa (jO (g8 (aa (aZ bR (ae 8) (gC (.int 1))) ak)) [none,some 4,some 8] (cF 0) eO (aZ bR (aZ bR (kP jU (ae 1) cI (bW (ae 0))) (cw (aa (ae 2) ak))) (kP jU (ae 1) (bW (ae 0)) cI))) ak))))
 (vy 6 9))))
 (cz (iR fw (aa (jO (g7 (ae 6)) [none,some 2,some 7] (cF 0) eO (aZ bR (ae 0) (kP jU (ae 1) (bW (ae 2)) cI))) ak)))))) dO)
 (cz (iR fw (aa (C6 gb (g8 (aa (aZ bR (gC (.int 1)) (pF 2 0 aG (aa (gC (.int 4)) ak))) ak)) [none,some 0,some 1] (cF 0) eO (pF 2 1 c_ (aa (ae 2) ak))) ak)))))))))
noncomputable def aC:List U→R (U×U):=xN 10 bY
noncomputable abbrev qz:Gm:=⟨[false,false],false,fun _=>False⟩
noncomputable def gc:Ev→SR:=(aN (bj 0 (iR vD (aa (ae 0) ak)))
 (aN (bj 1 (iR vD (aa (ae 1) ak)))
 (aN (ft (gB (aZ GG (ae 1) (gC (.int 0))))
 (Bl 0 1 (aa (ae 1) (aa (aZ n6 (ae 0) (ae 1)) ak))) 1000)
 (cz (ae 0)))))
noncomputable def cP:List U→R U:=eP .S 2 gc
noncomputable abbrev wA:Gm:=⟨[false,false],false,fun _=>False⟩
noncomputable def jo:Ev→SR:=(cz (iR fw (aa (jO (g7 (ae 1)) [none,some 0] (cF 0) eO (aZ u_ (ae 1) (ae 0))) ak)))
noncomputable def cV:List U→R U:=eP .S 2 jo
noncomputable abbrev rm:Gm:=⟨[false,true,false,false],false,fun _=>False⟩
noncomputable def gR:Ev→SR:=(aN (bj 1 K9)
 (aN (fG (g7 (ae 0)) (cF 2)
 (eQ 1 (aZ bR (fA 1 (ae 2) (gC (.int 0))) (gC (.int 1))) (ae 2)))
 (wc 1 (aN (bj 3 (gC (.int 0)))
 (aN (fG (PV (ae 1)) (cF 2)
 (bj 3 (fF 2 cP (aa (ae 3) (aa (aZ mx (ae 1) (ae 2)) ak)))))
 (cz (iR qw (aa (jO (PV (ae 1)) [none,some 3,some 1] (cF 0) eO (cw (aa (ae 0) (aa (aZ jT (aZ mx (ae 2) (ae 0)) (ae 1)) ak)))) ak))))))))
noncomputable def bg:List U→R U:=eP .O 4 gR
noncomputable abbrev nK:Gm:=⟨[false,false],false,fun _=>False⟩
noncomputable def cC:Nat→Ev→SR
 |0=>fun _=>.stk
 |n+1=>let r__law_same:=eP .S 2 (cC n)
  (aN (qW (gB (xX "tuple" "list" (ae 1))) (aN (qW (MP (gB (aZ (gP not) (jV "tuple" (ae 0)) (jV "tuple" (ae 1)))) (gB (aZ (gP not) (jV "list" (ae 0)) (jV "list" (ae 1))))) (cz (gC (.bl false))) dO)
 (aN (qW (gB (aZ (gP not) (iR iA (aa (ae 0) ak)) (iR iA (aa (ae 1) ak)))) (cz (gC (.bl false))) dO)
 (cz (iR Dg (aa (jO (GU (aa (ae 0) (aa (ae 1) ak))) [none,none] (ed 2 (aT (cF 0) (aT (cF 1) d_))) eO (fF 2 r__law_same (aa (ae 0) (aa (ae 1) ak)))) ak))))) dO)
 (cz (KP (aZ (gP id) (ae 0) (ae 1)) (aZ (gP id) (jV "bool" (ae 0)) (jV "bool" (ae 1))))))
noncomputable def bC (n:Nat):List U→R U:=eP .S 2 (cC n)
noncomputable abbrev rn:Gm:=⟨[false,false,true,false,false,true,false],false,fun _=>False⟩
noncomputable def gS:Ev→SR:=(aN (bj 2 (eL ak))
 (aN (fG (g7 (ae 0)) (cF 3)
 (gZ (gM "list" 2 cZ (aa (jO (g7 (ae 1)) [none,some 3] (cF 0) eO (fF 2 cV (aa (ae 1) (aa (ae 0) ak)))) ak))))
 (wc 2 (aN (bj 4 (fF 1 bg (aa (ae 2) ak)))
 (aN (bj 5 (eL ak))
 (aN (fG (g7 (iR sE (aa (ae 4) ak))) (cF 6)
 (gZ (gM "list" 5 cZ (aa (aZ nJ (eL (aa (ae 6) ak)) (aZ mx (ae 4) (ae 6))) ak))))
 (cz (iR fw (aa (ae 5) ak)))))))))
noncomputable def dk:List U→R U:=eP .S 7 gS
noncomputable def LS:Ev→SR:=bj 2 K9
noncomputable def LU:Ev→SR:=fG (JF (fF 1 bM (aa (ae 0) ak))) (ed 2 (aT (cF 3) (aT (cF 4) d_)))
 (fG (JF (fF 1 bM (aa (ae 1) ak))) (ed 2 (aT (cF 5) (aT (cF 6) d_)))
 (aN (bj 7 (fF 2 gQ (aa (ae 3) (aa (ae 5) ak))))
 (eQ 2 (aZ bR (fA 2 (ae 7) (gC (.int 0))) (aZ gA (ae 4) (ae 6))) (ae 7))))
noncomputable def MV:Ev→SR:=bj 8 (fF 1 bX (aa (ae 2) ak))
noncomputable def MW:Ev→R (Bool×Ev):=gB (aZ GG (wu (ae 8)) (gC (.int 24)))
noncomputable def bD:List U→R U:=fun us=>match LS (cA 10 us) with
 | .nx ρ1=>(match LU ρ1 with
  | .nx ρ2=>(match MV ρ2 with
   | .nx ρ3=>(match MW ρ3 with
    | .ok (true,_)=>.ok (.str "many")
    | .ok (false,_)=>eT us
    |_=>.stk)
   |_=>.stk)
  |_=>.stk)
 |_=>.stk
noncomputable abbrev wB:Gm:=⟨[true,false,false,false],true,fun _=>False⟩
noncomputable def eh:Ev→SR:=(aN (bj 2 (pF 2 0 aG (aa (gC (.int 4)) ak)))
 (aN (bj 3 (pF 2 0 aG (aa (iR iA (aa (ae 1) ak)) ak)))
 (aN (qW (Bh (gB (aZ (gP id) (ae 2) (gC (.int 0)))) (gB (aZ NS (iR iA (aa (ae 1) ak)) (gC (.int 13))))) (cz (aZ bR (aZ bR (ae 1) (kP jU (ae 1) (bW (ae 3)) cI)) (kP jU (ae 1) cI (bW (ae 3))))) dO)
 (aN (qW (Bh (gB (aZ (gP id) (ae 2) (gC (.int 1)))) (gB (aZ NS (iR iA (aa (ae 1) ak)) (gC (.int 24))))) (cz (aZ bR (ae 1) (cw (aa (aZ u_ (ae 1) (ae 3)) ak)))) dO)
 (aN (qW (Bh (gB (aZ (gP id) (ae 2) (gC (.int 2)))) (gB (aZ GG (iR iA (aa (ae 1) ak)) (gC (.int 1))))) (cz (aZ bR (kP jU (ae 1) cI (bW (ae 3))) (kP jU (ae 1) (bW (aZ bR (ae 3) (gC (.int 1)))) cI))) dO)
 (cz (aZ bR (kP jU (ae 1) (bW (ae 3)) cI) (kP jU (ae 1) cI (bW (ae 3))))))))))
noncomputable def bU:List U→R (U×U):=xN 4 eh
noncomputable abbrev OD:Gm:=⟨[false,false,true,false,false,false,false,false,false,false,false],false,fun _=>False⟩
noncomputable def EU:Ev→SR:=(aN (fG (g8 (aa (iR vE (aa (gC (.int 1)) (aa (iR rT (aa (iR iA (aa (ae 0) ak)) (aa (gC (.int 4)) ak))) ak))) ak)) (cF 1)
 (aN (bj 2 (fF 2 dN (aa (ae 0) (aa (ae 1) ak))))
 (aN (bj 3 (aZ bR (gC (.int 1)) (pF 2 2 aG (aa (gC (.int 6)) ak))))
 (aN (Bl 4 5 (aa (pF 2 2 aC (aa (ae 3) ak)) (aa (pF 2 2 aC (aa (ae 3) ak)) ak)))
 (aN (fG (g7 (eL (aa (cw (aa (ae 4) (aa (ae 5) ak))) (aa (cw (aa (ae 5) (aa (ae 4) ak))) (aa (cw (aa (ae 4) (aa (ae 4) ak))) ak))))) (ed 2 (aT (cF 6) (aT (cF 7) d_)))
 (aN (bj 8 (fF 2 dk (aa (ae 6) (aa (ae 7) ak))))
 (aN (qW (gB (aZ GG (iR iA (aa (ae 8) ak)) (gC (.int 24)))) (bj 8 (gC (.str "many"))) dO)
 (qW (Bi (gB (fF 2 (bC 20) (aa (fF 2 bD (aa (ae 6) (aa (ae 7) ak))) (aa (ae 8) ak))))) (cz (gC (.bl false))) dO))))
 (aN (bj 9 (pF 2 2 bU (aa (ae 4) ak)))
 (fG (g7 (eL (aa (cw (aa (ae 4) (aa (ae 5) ak))) (aa (cw (aa (ae 4) (aa (ae 9) ak))) (aa (cw (aa (ae 9) (aa (ae 4) ak))) (aa (cw (aa (ae 5) (aa (ae 9) ak))) (aa (cw (aa (ae 5) (aa (pF 2 2 bU (aa (ae 5) ak)) ak))) ak))))))) (ed 2 (aT (cF 6) (aT (cF 7) d_)))
 (aN (bj 10 (fF 2 qx (aa (ae 6) (aa (ae 7) ak))))
 (qW (MP (Bi (gB (jV "bool" (ae 10)))) (gB (aZ (gP not) (ae 10) (aZ (qu id) (fF 1 bg (aa (ae 6) ak)) (fF 1 bg (aa (ae 7) ak)))))) (cz (gC (.bl false))) dO)))))))))
 (cz (gC (.bl true))))
noncomputable def wC:List U→R U:=eP .S 11 EU
end Hc
end
namespace Hc
open L2
noncomputable def gG (i:Nat):adh:=PySem.Challenge.pw_hushcards_k13_two_shuffles.main.body.getD i (.Pass ⟨0,0,0,0⟩)
noncomputable abbrev aK:adh:=gG 10
noncomputable abbrev cQ:adh:=gG 12
noncomputable abbrev iS:adh:=gG 13
noncomputable abbrev df:adh:=gG 16
noncomputable abbrev cq:adh:=gG 17
noncomputable abbrev iT:adh:=gG 18
noncomputable abbrev gH:adh:=gG 19
noncomputable abbrev bO:adh:=gG 21
noncomputable abbrev cu:adh:=gG 22
noncomputable abbrev dg:adh:=gG 23
noncomputable abbrev bV:adh:=gG 24
noncomputable abbrev aW:adh:=gG 25
noncomputable abbrev bE:adh:=gG 26
noncomputable abbrev cR:adh:=gG 27
noncomputable abbrev bI:adh:=gG 28
noncomputable abbrev dh:adh:=gG 29
noncomputable abbrev cD:adh:=gG 30
noncomputable abbrev bJ:adh:=gG 31
noncomputable abbrev di:adh:=gG 32
noncomputable abbrev dj:adh:=gG 33
noncomputable abbrev kl:adh:=gG 34
theorem bB:aV ["one","other","rest"] ["one","other"] (ag aK):=⟨rfl,rfl,rfl,by decide +kernel,rfl,by decide +kernel,by decide +kernel⟩
theorem jP (kV dv pm:Yv)(an:Option YM)(aY ct:Yv)(us:List Yv)(hl:us.length=(["one","other"]:List Str).length):aag (YI "greatest_divisor" "greatest_divisor" (av aK) (ao aK) (ag aK) .none kV dv pm an aY ct) ⟨us,[]⟩=pure ((["one","other"]:List Str).zip us):=match us,hl with|[_,_],_=>rfl
theorem wD:aV ["row","places"] ["row","places"] (ag cQ):=⟨rfl,rfl,rfl,by decide +kernel,rfl,by decide +kernel,by decide +kernel⟩
theorem wF (kV dv pm:Yv)(an:Option YM)(aY ct:Yv)(us:List Yv)(hl:us.length=(["row","places"]:List Str).length):aag (YI "cards_at" "cards_at" (av cQ) (ao cQ) (ag cQ) .none kV dv pm an aY ct) ⟨us,[]⟩=pure ((["row","places"]:List Str).zip us):=match us,hl with|[_,_],_=>rfl
theorem Hm:aV ["one","other"] ["one","other"] (ag iS):=⟨rfl,rfl,rfl,by decide +kernel,rfl,by decide +kernel,by decide +kernel⟩
theorem Hn (kV dv pm:Yv)(an:Option YM)(aY ct:Yv)(us:List Yv)(hl:us.length=(["one","other"]:List Str).length):aag (YI "then" "then" (av iS) (ao iS) (ag iS) .none kV dv pm an aY ct) ⟨us,[]⟩=pure ((["one","other"]:List Str).zip us):=match us,hl with|[_,_],_=>rfl
theorem km:aV ["shuffle","often","order"] ["shuffle"] (ag df):=⟨rfl,rfl,rfl,by decide +kernel,rfl,by decide +kernel,by decide +kernel⟩
theorem yH (kV dv pm:Yv)(an:Option YM)(aY ct:Yv)(us:List Yv)(hl:us.length=(["shuffle"]:List Str).length):aag (YI "counted" "counted" (av df) (ao df) (ag df) .none kV dv pm an aY ct) ⟨us,[]⟩=pure ((["shuffle"]:List Str).zip us):=match us,hl with|[_],_=>rfl
theorem dF:aV ["often","divisor","number","least","order"] ["often"] (ag cq):=⟨rfl,rfl,rfl,by decide +kernel,rfl,by decide +kernel,by decide +kernel⟩
theorem wG (kV dv pm:Yv)(an:Option YM)(aY ct:Yv)(us:List Yv)(hl:us.length=(["often"]:List Str).length):aag (YI "lessened" "lessened" (av cq) (ao cq) (ag cq) .none kV dv pm an aY ct) ⟨us,[]⟩=pure ((["often"]:List Str).zip us):=match us,hl with|[_],_=>rfl
theorem Ho:aV ["one","other"] ["one","other"] (ag iT):=⟨rfl,rfl,rfl,by decide +kernel,rfl,by decide +kernel,by decide +kernel⟩
theorem Hq (kV dv pm:Yv)(an:Option YM)(aY ct:Yv)(us:List Yv)(hl:us.length=(["one","other"]:List Str).length):aag (YI "same" "same" (av iT) (ao iT) (ag iT) .none kV dv pm an aY ct) ⟨us,[]⟩=pure ((["one","other"]:List Str).zip us):=match us,hl with|[_,_],_=>rfl
theorem b9:aV ["one","other","often","first","number","second","more","order","least","orders"] ["one","other"] (ag gH):=⟨rfl,rfl,rfl,by decide +kernel,rfl,by decide +kernel,by decide +kernel⟩
theorem Ao (kV dv pm:Yv)(an:Option YM)(aY ct:Yv)(us:List Yv)(hl:us.length=(["one","other"]:List Str).length):aag (YI "both" "both" (av gH) (ao gH) (ag gH) .none kV dv pm an aY ct) ⟨us,[]⟩=pure ((["one","other"]:List Str).zip us):=match us,hl with|[_,_],_=>rfl
theorem n9:aV ["script","k"] ["script","k"] (ag bO):=⟨rfl,rfl,rfl,by decide +kernel,rfl,by decide +kernel,by decide +kernel⟩
theorem n_ (kV dv pm:Yv)(an:Option YM)(aY ct:Yv)(us:List Yv)(hl:us.length=(["script","k"]:List Str).length):aag (YI "_law_cell_at" "_law_cell_at" (av bO) (ao bO) (ag bO) .none kV dv pm an aY ct) ⟨us,[]⟩=pure ((["script","k"]:List Str).zip us):=match us,hl with|[_,_],_=>rfl
theorem jX:aV ["script","k","cell"] ["script","k"] (ag cu):=⟨rfl,rfl,rfl,by decide +kernel,rfl,by decide +kernel,by decide +kernel⟩
theorem rq (kV dv pm:Yv)(an:Option YM)(aY ct:Yv)(us:List Yv)(hl:us.length=(["script","k"]:List Str).length):aag (YI "_law_state" "_law_state" (av cu) (ao cu) (ag cu) .none kV dv pm an aY ct) ⟨us,[]⟩=pure ((["script","k"]:List Str).zip us):=match us,hl with|[_,_],_=>rfl
theorem fM:aV ["state","many","found","mixed"] ["state","many"] (ag dg):=⟨rfl,rfl,rfl,by decide +kernel,rfl,by decide +kernel,by decide +kernel⟩
theorem uB (kV dv pm:Yv)(an:Option YM)(aY ct:Yv)(us:List Yv)(hl:us.length=(["state","many"]:List Str).length):aag (YI "_law_take" "_law_take" (av dg) (ao dg) (ag dg) .none kV dv pm an aY ct) ⟨us,[]⟩=pure ((["state","many"]:List Str).zip us):=match us,hl with|[_,_],_=>rfl
theorem jY:aV ["state","many","left"] ["state","many"] (ag bV):=⟨rfl,rfl,rfl,by decide +kernel,rfl,by decide +kernel,by decide +kernel⟩
theorem rA (kV dv pm:Yv)(an:Option YM)(aY ct:Yv)(us:List Yv)(hl:us.length=(["state","many"]:List Str).length):aag (YI "_law_order" "_law_order" (av bV) (ao bV) (ag bV) .none kV dv pm an aY ct) ⟨us,[]⟩=pure ((["state","many"]:List Str).zip us):=match us,hl with|[_,_],_=>rfl
theorem aU:aV ["state","many","stays","way","order","half","some","size","k","longer"] ["state","many"] (ag aW):=⟨rfl,rfl,rfl,by decide +kernel,rfl,by decide +kernel,by decide +kernel⟩
theorem og (kV dv pm:Yv)(an:Option YM)(aY ct:Yv)(us:List Yv)(hl:us.length=(["state","many"]:List Str).length):aag (YI "_law_shuffle" "_law_shuffle" (av aW) (ao aW) (ag aW) .none kV dv pm an aY ct) ⟨us,[]⟩=pure ((["state","many"]:List Str).zip us):=match us,hl with|[_,_],_=>rfl
theorem d5:aV ["one","other"] ["one","other"] (ag bE):=⟨rfl,rfl,rfl,by decide +kernel,rfl,by decide +kernel,by decide +kernel⟩
theorem oh (kV dv pm:Yv)(an:Option YM)(aY ct:Yv)(us:List Yv)(hl:us.length=(["one","other"]:List Str).length):aag (YI "_law_divisor" "_law_divisor" (av bE) (ao bE) (ag bE) .none kV dv pm an aY ct) ⟨us,[]⟩=pure ((["one","other"]:List Str).zip us):=match us,hl with|[_,_],_=>rfl
theorem uC:aV ["row","order"] ["row","order"] (ag cR):=⟨rfl,rfl,rfl,by decide +kernel,rfl,by decide +kernel,by decide +kernel⟩
theorem uD (kV dv pm:Yv)(an:Option YM)(aY ct:Yv)(us:List Yv)(hl:us.length=(["row","order"]:List Str).length):aag (YI "_law_laid" "_law_laid" (av cR) (ao cR) (ag cR) .none kV dv pm an aY ct) ⟨us,[]⟩=pure ((["row","order"]:List Str).zip us):=match us,hl with|[_,_],_=>rfl
theorem cS:aV ["orders","counts","order","by"] ["orders"] (ag bI):=⟨rfl,rfl,rfl,by decide +kernel,rfl,by decide +kernel,by decide +kernel⟩
theorem qA (kV dv pm:Yv)(an:Option YM)(aY ct:Yv)(us:List Yv)(hl:us.length=(["orders"]:List Str).length):aag (YI "_law_lowest" "_law_lowest" (av bI) (ao bI) (ag bI) .none kV dv pm an aY ct) ⟨us,[]⟩=pure ((["orders"]:List Str).zip us):=match us,hl with|[_],_=>rfl
theorem iJ:aV ["e","marks"] ["e"] (ag dh):=⟨rfl,rfl,rfl,by decide +kernel,rfl,by decide +kernel,by decide +kernel⟩
theorem uE (kV dv pm:Yv)(an:Option YM)(aY ct:Yv)(us:List Yv)(hl:us.length=(["e"]:List Str).length):aag (YI "_law_mark" "_law_mark" (av dh) (ao dh) (ag dh) .none kV dv pm an aY ct) ⟨us,[]⟩=pure ((["e"]:List Str).zip us):=match us,hl with|[_],_=>rfl
theorem lP:aV ["found","due"] ["found","due"] (ag cD):=⟨rfl,rfl,rfl,by decide +kernel,rfl,by decide +kernel,by decide +kernel⟩
theorem lQ (kV dv pm:Yv)(an:Option YM)(aY ct:Yv)(us:List Yv)(hl:us.length=(["found","due"]:List Str).length):aag (YI "_law_same" "_law_same" (av cD) (ao cD) (ag cD) .none kV dv pm an aY ct) ⟨us,[]⟩=pure ((["found","due"]:List Str).zip us):=match us,hl with|[_,_],_=>rfl
theorem cT:aV ["one","other","orders","first","counts","found","order"] ["one","other"] (ag bJ):=⟨rfl,rfl,rfl,by decide +kernel,rfl,by decide +kernel,by decide +kernel⟩
theorem qB (kV dv pm:Yv)(an:Option YM)(aY ct:Yv)(us:List Yv)(hl:us.length=(["one","other"]:List Str).length):aag (YI "_law_behind" "_law_behind" (av bJ) (ao bJ) (ag bJ) .none kV dv pm an aY ct) ⟨us,[]⟩=pure ((["one","other"]:List Str).zip us):=match us,hl with|[_,_],_=>rfl
theorem lR:aV ["one","other","e"] ["one","other"] (ag di):=⟨rfl,rfl,rfl,by decide +kernel,rfl,by decide +kernel,by decide +kernel⟩
theorem uF (kV dv pm:Yv)(an:Option YM)(aY ct:Yv)(us:List Yv)(hl:us.length=(["one","other"]:List Str).length):aag (YI "_law_told" "_law_told" (av di) (ao di) (ag di) .none kV dv pm an aY ct) ⟨us,[]⟩=pure ((["one","other"]:List Str).zip us):=match us,hl with|[_,_],_=>rfl
theorem iK:aV ["state","shuffle","way","turn"] ["state","shuffle"] (ag dj):=⟨rfl,rfl,rfl,by decide +kernel,rfl,by decide +kernel,by decide +kernel⟩
theorem uG (kV dv pm:Yv)(an:Option YM)(aY ct:Yv)(us:List Yv)(hl:us.length=(["state","shuffle"]:List Str).length):aag (YI "_law_like" "_law_like" (av dj) (ao dj) (ag dj) .none kV dv pm an aY ct) ⟨us,[]⟩=pure ((["state","shuffle"]:List Str).zip us):=match us,hl with|[_,_],_=>rfl
theorem eU:aV ["script","k","state","many","one","other","first","second","due","more","found"] ["script"] (ag kl):=⟨rfl,rfl,rfl,by decide +kernel,rfl,by decide +kernel,by decide +kernel⟩
theorem Rc (kV dv pm:Yv)(an:Option YM)(aY ct:Yv)(us:List Yv)(hl:us.length=(["script"]:List Str).length):aag (YI "law" "law" (av kl) (ao kl) (ag kl) .none kV dv pm an aY ct) ⟨us,[]⟩=pure ((["script"]:List Str).zip us):=match us,hl with|[_],_=>rfl
structure qC (mg:Str→Option Yv):Prop where
 z_abs:mg "abs"=none
 z_all:mg "all"=none
 z_bool:mg "bool"=none
 z_dict:mg "dict"=none
 z_isinstance:mg "isinstance"=none
 z_len:mg "len"=none
 z_list:mg "list"=none
 z_max:mg "max"=none
 z_min:mg "min"=none
 z_range:mg "range"=none
 z_sorted:mg "sorted"=none
 z_sum:mg "sum"=none
 z_tuple:mg "tuple"=none
 z_zip:mg "zip"=none
 g_MOST_ORDERS:∃tk,mg "MOST_ORDERS"=some (.int 24 tk)
end Hc
namespace Hc
open L2
noncomputable abbrev hS (s:String)(n:Nat):Yv:=.str (Z5 s) n
noncomputable abbrev hT (l:List Yv):Obj:=⟨.type "tuple",none,.seq l.toArray 0,#[]⟩
noncomputable abbrev hE (P:Params)(s:String)(n:Nat)(v:Yv):aeg:=⟨PyData.keyHash P (Z5 s),hS s n,v⟩
noncomputable abbrev hD (c:Yv)(l:List aeg)(n:Nat):Obj:=⟨c,none,.dict l.toArray n,#[]⟩
noncomputable abbrev hX (c:Yv)(l:List Yv):Obj:=⟨c,none,.fields l.toArray,#[]⟩
noncomputable abbrev hC (n q:String)(a:Nat)(l k:Int)(r r1:Nat)(v1 v2:Yv)(r2:Nat)(m:Int)(m':Nat):Obj:=hX (.type "code") [hS n a,hS q (a+1),hS "/claim/cut.py" (a+2),.int l 0,.int k 0,.int 0 0,.int 0 0,.int 3 0,.ref r,.bool true,.int 181 0,.ref r1,.none,v1,v2,.ref r2,.int m 0,.int l 0,hS "/claim/cut.py" m']
noncomputable abbrev hF (n q:String)(s:adh)(kV dv pm:Yv)(an:Option YM)(cd ct:Yv):Obj:=⟨.type "function",none,.func (YI n q (av s) (ao s) (ag s) .none kV dv pm an cd ct),#[]⟩
noncomputable def Kf (P:Params):Yy :=
 (nat_lit 2,hD .none [] 0) ::
 (nat_lit 3,hD (.type "dict") [hE P "__name__" 165 (hS "law_hushcards_k13_two_shuffles" 403),hE P "__doc__" 166 .none,hE P "__package__" 167 .none,hE P "__loader__" 168 (.builtin "__main__.__loader__#opaque"),hE P "__spec__" 169 .none,hE P "__annotations__" 170 (.ref 6),hE P "__builtins__" 171 (.ref 4),hE P "__file__" 173 (hS "/claim/cut.py" 172),hE P "__cached__" 174 .none,hE P "CardError" 206 (.ref 24),hE P "NoPlan" 222 (.ref 37),hE P "NoWay" 247 (.ref 56),hE P "NoEnd" 263 (.ref 68),hE P "NoFormula" 279 (.ref 80),hE P "TooMany" 295 (.ref 92),hE P "NoName" 311 (.ref 104),hE P "BadNote" 327 (.ref 116),hE P "greatest_divisor" 338 (.ref 125),hE P "cards_at" 346 (.ref 130),hE P "then" 354 (.ref 137),hE P "MOST_ORDERS" 358 (.int 24 357),hE P "counted" 367 (.ref 144),hE P "lessened" 378 (.ref 151),hE P "same" 386 (.ref 158),hE P "both" 402 (.ref 165),hE P "_law_cell_at" 412 (.ref 172),hE P "_law_state" 421 (.ref 179),hE P "_law_take" 431 (.ref 186),hE P "_law_order" 437 (.ref 191),hE P "_law_shuffle" 443 (.ref 196),hE P "_law_divisor" 451 (.ref 203),hE P "_law_laid" 457 (.ref 208),hE P "_law_lowest" 463 (.ref 213),hE P "_law_mark" 471 (.ref 220),hE P "_law_same" 477 (.ref 225),hE P "_law_behind" 483 (.ref 230),hE P "_law_told" 492 (.ref 237),hE P "_law_like" 502 (.ref 244),hE P "law" 519 (.ref 251)] 39) ::
 (nat_lit 15,hT [.type "ValueError"]) ::
 (nat_lit 22,hT []) ::
 (nat_lit 23,hD (.type "dict") [hE P "__module__" 196 (hS "hushcards.errors" 187),hE P "__firstlineno__" 200 (.int 2 199),hE P "__static_attributes__" 201 (.ref 22),hE P "__weakref__" 203 (.ref 25),hE P "__doc__" 204 .none] 3) ::
 (nat_lit 24,⟨.type "type",none,.cls {name:="CardError",bases:=[.type "ValueError"],mro:=[.ref 24,.type "ValueError",.type "Exception",.type "BaseException",.type "object"],ns:=23,qualname:="CardError",subclasses:=[.ref 37,.ref 56,.ref 68,.ref 80,.ref 92,.ref 104,.ref 116]},#[some (.ref 15),none,some (hS "CardError" 189),some (hS "CardError" 197),some (.builtin "ValueError.__new__"),some (.bool true)]⟩) ::
 (nat_lit 25,hX (.type "getset_descriptor") [hS "__weakref__" 202,.ref 24,.builtin "ExceptionGroup.__weakref__",.none]) ::
 (nat_lit 28,hT [.ref 24]) ::
 (nat_lit 35,hT []) ::
 (nat_lit 36,hD (.type "dict") [hE P "__module__" 214 (hS "hushcards.errors" 187),hE P "__firstlineno__" 218 (.int 4 217),hE P "__static_attributes__" 219 (.ref 35),hE P "__doc__" 220 .none] 2) ::
 (nat_lit 37,⟨.type "type",none,.cls {name:="NoPlan",bases:=[.ref 24],mro:=[.ref 37,.ref 24,.type "ValueError",.type "Exception",.type "BaseException",.type "object"],ns:=36,qualname:="NoPlan"},#[some (.ref 28),none,some (hS "NoPlan" 207),some (hS "NoPlan" 215),some (.builtin "ValueError.__new__"),some (.bool true)]⟩) ::
 (nat_lit 40,hT [.ref 24]) ::
 (nat_lit 47,hT []) ::
 (nat_lit 49,hT [hS "self" 238,hS "seen" 239]) ::
 (nat_lit 50,hT []) ::
 (nat_lit 52,hC "__init__" "NoWay.__init__" 235 8 2 47 48 (.ref 49) (.ref 50) 51 240 241) ::
 (nat_lit 53,hF "__init__" "NoWay.__init__" (F_ (gG 3) 0) .none .none (hS "hushcards.errors" 187) none (.ref 52) .none) ::
 (nat_lit 54,hT [hS "seen" 243]) ::
 (nat_lit 55,hD (.type "dict") [hE P "__module__" 230 (hS "hushcards.errors" 187),hE P "__firstlineno__" 234 (.int 6 233),hE P "__init__" 242 (.ref 53),hE P "__static_attributes__" 244 (.ref 54),hE P "__doc__" 245 .none] 2) ::
 (nat_lit 56,⟨.type "type",none,.cls {name:="NoWay",bases:=[.ref 24],mro:=[.ref 56,.ref 24,.type "ValueError",.type "Exception",.type "BaseException",.type "object"],ns:=55,qualname:="NoWay"},#[some (.ref 40),none,some (hS "NoWay" 223),some (hS "NoWay" 231),some (.builtin "ValueError.__new__"),some (.bool true)]⟩) ::
 (nat_lit 59,hT [.ref 24]) ::
 (nat_lit 66,hT []) ::
 (nat_lit 67,hD (.type "dict") [hE P "__module__" 255 (hS "hushcards.errors" 187),hE P "__firstlineno__" 259 (.int 11 258),hE P "__static_attributes__" 260 (.ref 66),hE P "__doc__" 261 .none] 2) ::
 (nat_lit 68,⟨.type "type",none,.cls {name:="NoEnd",bases:=[.ref 24],mro:=[.ref 68,.ref 24,.type "ValueError",.type "Exception",.type "BaseException",.type "object"],ns:=67,qualname:="NoEnd"},#[some (.ref 59),none,some (hS "NoEnd" 248),some (hS "NoEnd" 256),some (.builtin "ValueError.__new__"),some (.bool true)]⟩) ::
 (nat_lit 71,hT [.ref 24]) ::
 (nat_lit 78,hT []) ::
 (nat_lit 79,hD (.type "dict") [hE P "__module__" 271 (hS "hushcards.errors" 187),hE P "__firstlineno__" 275 (.int 13 274),hE P "__static_attributes__" 276 (.ref 78),hE P "__doc__" 277 .none] 2) ::
 (nat_lit 80,⟨.type "type",none,.cls {name:="NoFormula",bases:=[.ref 24],mro:=[.ref 80,.ref 24,.type "ValueError",.type "Exception",.type "BaseException",.type "object"],ns:=79,qualname:="NoFormula"},#[some (.ref 71),none,some (hS "NoFormula" 264),some (hS "NoFormula" 272),some (.builtin "ValueError.__new__"),some (.bool true)]⟩) ::
 (nat_lit 83,hT [.ref 24]) ::
 (nat_lit 90,hT []) ::
 (nat_lit 91,hD (.type "dict") [hE P "__module__" 287 (hS "hushcards.errors" 187),hE P "__firstlineno__" 291 (.int 15 290),hE P "__static_attributes__" 292 (.ref 90),hE P "__doc__" 293 .none] 2) ::
 (nat_lit 92,⟨.type "type",none,.cls {name:="TooMany",bases:=[.ref 24],mro:=[.ref 92,.ref 24,.type "ValueError",.type "Exception",.type "BaseException",.type "object"],ns:=91,qualname:="TooMany"},#[some (.ref 83),none,some (hS "TooMany" 280),some (hS "TooMany" 288),some (.builtin "ValueError.__new__"),some (.bool true)]⟩) ::
 (nat_lit 95,hT [.ref 24]) ::
 (nat_lit 102,hT []) ::
 (nat_lit 103,hD (.type "dict") [hE P "__module__" 303 (hS "hushcards.errors" 187),hE P "__firstlineno__" 307 (.int 17 306),hE P "__static_attributes__" 308 (.ref 102),hE P "__doc__" 309 .none] 2) ::
 (nat_lit 104,⟨.type "type",none,.cls {name:="NoName",bases:=[.ref 24],mro:=[.ref 104,.ref 24,.type "ValueError",.type "Exception",.type "BaseException",.type "object"],ns:=103,qualname:="NoName"},#[some (.ref 95),none,some (hS "NoName" 296),some (hS "NoName" 304),some (.builtin "ValueError.__new__"),some (.bool true)]⟩) ::
 (nat_lit 107,hT [.ref 24]) ::
 (nat_lit 114,hT []) ::
 (nat_lit 115,hD (.type "dict") [hE P "__module__" 319 (hS "hushcards.errors" 187),hE P "__firstlineno__" 323 (.int 19 322),hE P "__static_attributes__" 324 (.ref 114),hE P "__doc__" 325 .none] 2) ::
 (nat_lit 116,⟨.type "type",none,.cls {name:="BadNote",bases:=[.ref 24],mro:=[.ref 116,.ref 24,.type "ValueError",.type "Exception",.type "BaseException",.type "object"],ns:=115,qualname:="BadNote"},#[some (.ref 107),none,some (hS "BadNote" 312),some (hS "BadNote" 320),some (.builtin "ValueError.__new__"),some (.bool true)]⟩) ::
 (nat_lit 119,hT []) ::
 (nat_lit 121,hT [hS "one" 333,hS "other" 334,hS "rest" 335]) ::
 (nat_lit 122,hT []) ::
 (nat_lit 124,hC "greatest_divisor" "greatest_divisor" 330 22 2 119 120 (.ref 121) (.ref 122) 123 336 337) ::
 (nat_lit 125,hF "greatest_divisor" "greatest_divisor" (gG 10) .none .none (hS "hushcards.fractions" 328) none (.ref 124) .none) ::
 (nat_lit 126,hT []) ::
 (nat_lit 129,hC "cards_at" "cards_at" 341 31 2 126 127 .none .none 128 344 345) ::
 (nat_lit 130,hF "cards_at" "cards_at" (gG 12) .none .none (hS "hushcards.orders" 339) none (.ref 129) .none) ::
 (nat_lit 131,hT []) ::
 (nat_lit 133,hT [hS "one" 350,hS "other" 351]) ::
 (nat_lit 134,hT []) ::
 (nat_lit 136,hC "then" "then" 347 33 2 131 132 (.ref 133) (.ref 134) 135 352 353) ::
 (nat_lit 137,hF "then" "then" (gG 13) .none .none (hS "hushcards.orders" 339) none (.ref 136) .none) ::
 (nat_lit 138,hT []) ::
 (nat_lit 140,hT [hS "shuffle" 362,hS "often" 363,hS "order" 364]) ::
 (nat_lit 141,hT []) ::
 (nat_lit 143,hC "counted" "counted" 359 37 1 138 139 (.ref 140) (.ref 141) 142 365 366) ::
 (nat_lit 144,hF "counted" "counted" (gG 16) .none .none (hS "hushcards.shuffles" 355) none (.ref 143) .none) ::
 (nat_lit 145,hT []) ::
 (nat_lit 147,hT [hS "often" 371,hS "divisor" 372,hS "number" 373,hS "least" 374,hS "order" 375]) ::
 (nat_lit 148,hT []) ::
 (nat_lit 150,hC "lessened" "lessened" 368 42 1 145 146 (.ref 147) (.ref 148) 149 376 377) ::
 (nat_lit 151,hF "lessened" "lessened" (gG 17) .none .none (hS "hushcards.shuffles" 355) none (.ref 150) .none) ::
 (nat_lit 152,hT []) ::
 (nat_lit 154,hT [hS "one" 382,hS "other" 383]) ::
 (nat_lit 155,hT []) ::
 (nat_lit 157,hC "same" "same" 379 50 2 152 153 (.ref 154) (.ref 155) 156 384 385) ::
 (nat_lit 158,hF "same" "same" (gG 18) .none .none (hS "hushcards.shuffles" 355) none (.ref 157) .none) ::
 (nat_lit 159,hT []) ::
 (nat_lit 161,hT [hS "one" 390,hS "other" 391,hS "often" 392,hS "first" 393,hS "number" 394,hS "second" 395,hS "more" 396,hS "order" 397,hS "least" 398,hS "orders" 399]) ::
 (nat_lit 162,hT []) ::
 (nat_lit 164,hC "both" "both" 387 52 2 159 160 (.ref 161) (.ref 162) 163 400 401) ::
 (nat_lit 165,hF "both" "both" (gG 19) .none .none (hS "hushcards.shuffles" 355) none (.ref 164) .none) ::
 (nat_lit 166,hT []) ::
 (nat_lit 168,hT [hS "script" 408,hS "k" 409]) ::
 (nat_lit 169,hT []) ::
 (nat_lit 171,hC "_law_cell_at" "_law_cell_at" 405 66 2 166 167 (.ref 168) (.ref 169) 170 410 411) ::
 (nat_lit 172,hF "_law_cell_at" "_law_cell_at" (gG 21) .none .none (hS "law_hushcards_k13_two_shuffles" 403) none (.ref 171) .none) ::
 (nat_lit 173,hT []) ::
 (nat_lit 175,hT [hS "script" 416,hS "k" 417,hS "cell" 418]) ::
 (nat_lit 176,hT []) ::
 (nat_lit 178,hC "_law_state" "_law_state" 413 70 2 173 174 (.ref 175) (.ref 176) 177 419 420) ::
 (nat_lit 179,hF "_law_state" "_law_state" (gG 22) .none .none (hS "law_hushcards_k13_two_shuffles" 403) none (.ref 178) .none) ::
 (nat_lit 180,hT []) ::
 (nat_lit 182,hT [hS "state" 425,hS "many" 426,hS "found" 427,hS "mixed" 428]) ::
 (nat_lit 183,hT []) ::
 (nat_lit 185,hC "_law_take" "_law_take" 422 75 2 180 181 (.ref 182) (.ref 183) 184 429 430) ::
 (nat_lit 186,hF "_law_take" "_law_take" (gG 23) .none .none (hS "law_hushcards_k13_two_shuffles" 403) none (.ref 185) .none) ::
 (nat_lit 187,hT []) ::
 (nat_lit 190,hC "_law_order" "_law_order" 432 84 2 187 188 .none .none 189 435 436) ::
 (nat_lit 191,hF "_law_order" "_law_order" (gG 24) .none .none (hS "law_hushcards_k13_two_shuffles" 403) none (.ref 190) .none) ::
 (nat_lit 192,hT []) ::
 (nat_lit 195,hC "_law_shuffle" "_law_shuffle" 438 87 2 192 193 .none .none 194 441 442) ::
 (nat_lit 196,hF "_law_shuffle" "_law_shuffle" (gG 25) .none .none (hS "law_hushcards_k13_two_shuffles" 403) none (.ref 195) .none) ::
 (nat_lit 197,hT []) ::
 (nat_lit 199,hT [hS "one" 447,hS "other" 448]) ::
 (nat_lit 200,hT []) ::
 (nat_lit 202,hC "_law_divisor" "_law_divisor" 444 108 2 197 198 (.ref 199) (.ref 200) 201 449 450) ::
 (nat_lit 203,hF "_law_divisor" "_law_divisor" (gG 26) .none .none (hS "law_hushcards_k13_two_shuffles" 403) none (.ref 202) .none) ::
 (nat_lit 204,hT []) ::
 (nat_lit 207,hC "_law_laid" "_law_laid" 452 114 2 204 205 .none .none 206 455 456) ::
 (nat_lit 208,hF "_law_laid" "_law_laid" (gG 27) .none .none (hS "law_hushcards_k13_two_shuffles" 403) none (.ref 207) .none) ::
 (nat_lit 209,hT []) ::
 (nat_lit 212,hC "_law_lowest" "_law_lowest" 458 116 1 209 210 .none .none 211 461 462) ::
 (nat_lit 213,hF "_law_lowest" "_law_lowest" (gG 28) .none .none (hS "law_hushcards_k13_two_shuffles" 403) none (.ref 212) .none) ::
 (nat_lit 214,hT []) ::
 (nat_lit 216,hT [hS "e" 467,hS "marks" 468]) ::
 (nat_lit 217,hT []) ::
 (nat_lit 219,hC "_law_mark" "_law_mark" 464 124 1 214 215 (.ref 216) (.ref 217) 218 469 470) ::
 (nat_lit 220,hF "_law_mark" "_law_mark" (gG 29) .none .none (hS "law_hushcards_k13_two_shuffles" 403) none (.ref 219) .none) ::
 (nat_lit 221,hT []) ::
 (nat_lit 224,hC "_law_same" "_law_same" 472 132 2 221 222 .none .none 223 475 476) ::
 (nat_lit 225,hF "_law_same" "_law_same" (gG 30) .none .none (hS "law_hushcards_k13_two_shuffles" 403) none (.ref 224) .none) ::
 (nat_lit 226,hT []) ::
 (nat_lit 229,hC "_law_behind" "_law_behind" 478 140 2 226 227 .none .none 228 481 482) ::
 (nat_lit 230,hF "_law_behind" "_law_behind" (gG 31) .none .none (hS "law_hushcards_k13_two_shuffles" 403) none (.ref 229) .none) ::
 (nat_lit 231,hT []) ::
 (nat_lit 233,hT [hS "one" 487,hS "other" 488,hS "e" 489]) ::
 (nat_lit 234,hT []) ::
 (nat_lit 236,hC "_law_told" "_law_told" 484 149 2 231 232 (.ref 233) (.ref 234) 235 490 491) ::
 (nat_lit 237,hF "_law_told" "_law_told" (gG 32) .none .none (hS "law_hushcards_k13_two_shuffles" 403) none (.ref 236) .none) ::
 (nat_lit 238,hT []) ::
 (nat_lit 240,hT [hS "state" 496,hS "shuffle" 497,hS "way" 498,hS "turn" 499]) ::
 (nat_lit 241,hT []) ::
 (nat_lit 243,hC "_law_like" "_law_like" 493 154 2 238 239 (.ref 240) (.ref 241) 242 500 501) ::
 (nat_lit 244,hF "_law_like" "_law_like" (gG 33) .none .none (hS "law_hushcards_k13_two_shuffles" 403) none (.ref 243) .none) ::
 (nat_lit 245,hT []) ::
 (nat_lit 247,hT [hS "script" 506,hS "k" 507,hS "state" 508,hS "many" 509,hS "one" 510,hS "other" 511,hS "first" 512,hS "second" 513,hS "due" 514,hS "more" 515,hS "found" 516]) ::
 (nat_lit 248,hT []) ::
 (nat_lit 250,hC "law" "law" 503 164 1 245 246 (.ref 247) (.ref 248) 249 517 518) ::
 (nat_lit 251,hF "law" "law" (gG 34) .none .none (hS "law_hushcards_k13_two_shuffles" 403) none (.ref 250) .none)::[]
noncomputable def vw:aa1:={PySem.Challenge.pw_hushcards_k13_two_shuffles with main:={PySem.Challenge.pw_hushcards_k13_two_shuffles.main with body:=([1,2,3,4,5,6,7,8,10,12,13,15,16,17,18,19,21,22,23,24,25,26,27,28,29,30,31,32,33,34]:List Nat).map gG}}
noncomputable def hk:PySem.W.Hook:=PySem.W.kHook Kf [nat_lit 2,nat_lit 3,nat_lit 15,nat_lit 22,nat_lit 23,nat_lit 24,nat_lit 25,nat_lit 28,nat_lit 35,nat_lit 36,nat_lit 37,nat_lit 40,nat_lit 47,nat_lit 49,nat_lit 50,nat_lit 52,nat_lit 53,nat_lit 54,nat_lit 55,nat_lit 56,nat_lit 59,nat_lit 66,nat_lit 67,nat_lit 68,nat_lit 71,nat_lit 78,nat_lit 79,nat_lit 80,nat_lit 83,nat_lit 90,nat_lit 91,nat_lit 92,nat_lit 95,nat_lit 102,nat_lit 103,nat_lit 104,nat_lit 107,nat_lit 114,nat_lit 115,nat_lit 116,nat_lit 119,nat_lit 121,nat_lit 122,nat_lit 124,nat_lit 125,nat_lit 126,nat_lit 129,nat_lit 130,nat_lit 131,nat_lit 133,nat_lit 134,nat_lit 136,nat_lit 137,nat_lit 138,nat_lit 140,nat_lit 141,nat_lit 143,nat_lit 144,nat_lit 145,nat_lit 147,nat_lit 148,nat_lit 150,nat_lit 151,nat_lit 152,nat_lit 154,nat_lit 155,nat_lit 157,nat_lit 158,nat_lit 159,nat_lit 161,nat_lit 162,nat_lit 164,nat_lit 165,nat_lit 166,nat_lit 168,nat_lit 169,nat_lit 171,nat_lit 172,nat_lit 173,nat_lit 175,nat_lit 176,nat_lit 178,nat_lit 179,nat_lit 180,nat_lit 182,nat_lit 183,nat_lit 185,nat_lit 186,nat_lit 187,nat_lit 190,nat_lit 191,nat_lit 192,nat_lit 195,nat_lit 196,nat_lit 197,nat_lit 199,nat_lit 200,nat_lit 202,nat_lit 203,nat_lit 204,nat_lit 207,nat_lit 208,nat_lit 209,nat_lit 212,nat_lit 213,nat_lit 214,nat_lit 216,nat_lit 217,nat_lit 219,nat_lit 220,nat_lit 221,nat_lit 224,nat_lit 225,nat_lit 226,nat_lit 229,nat_lit 230,nat_lit 231,nat_lit 233,nat_lit 234,nat_lit 236,nat_lit 237,nat_lit 238,nat_lit 240,nat_lit 241,nat_lit 243,nat_lit 244,nat_lit 245,nat_lit 247,nat_lit 248,nat_lit 250,nat_lit 251] (fun _=>by kernel_rfl)
noncomputable abbrev UZ:=PySem.Challenge.rw_hushcards_k13_two_shuffles.row
theorem left:PySem.W.LeftO UZ.prog vw [] (fun s=>PySem.W.xlAt vw [] s&&PySem.W.recOk (PySem.W.RowW.records UZ.toRowW) s) hk.obs hk.val 4912:=fun w=>by kernel_rfl
end Hc
namespace Hc
open L2
noncomputable abbrev MS:List (Str×Bool):=[("NoPlan",false),("NoWay",false),("NoEnd",false),("NoFormula",false),("TooMany",true),("NoName",false),("BadNote",false)]
theorem Rf {k:Bool}{A B:Prop}(hk:k=false)(h:B):if k=true then A else B:=by
 subst hk;exact h
theorem Hr (T:qC mg)(XT:DF K mg C "TooMany" MS)(d:Df K mg "_law_mark" dh):∃(f:YM) (fd:ab7),mg "_law_mark"=some (.ref f)∧Y3 K (.ref f)=true∧jS K fd ["e"] []∧DB P w K mg base s_ 1 f fd ["e"] (Ln C "many"):=by
 obtain⟨f,fd,m,F⟩:=d.ex
 refine⟨f,fd,m,F.kp,F.binds uE,?_⟩
 obtain⟨oc,od,kV,dv,pm,an,aY,ct,osl,rfl,lk,iP⟩:=F.ex
 have Z:=XT.ec
 have m1:=XT.marks ("NoPlan",false) (by simp)
 have m2:=XT.marks ("NoWay",false) (by simp)
 have m3:=XT.marks ("NoEnd",false) (by simp)
 have m4:=XT.marks ("NoFormula",false) (by simp)
 have m5:=XT.marks ("TooMany",true) (by simp)
 have m6:=XT.marks ("NoName",false) (by simp)
 have m7:=XT.marks ("BadNote",false) (by simp)
 refine Lk (N:=["e","marks"]) lk iP iJ (fun vs H Q E ⟨ea,e,_⟩=>by rw[e];rfl) fun A outer s H vs Q E hr ⟨ea,e,hx,hq⟩ => ?_
 subst e
 refine⟨_,eo (y3 (Co (Cm (DJ (i:=0) (C:=C) (b:=true) Z T.z_isinstance XT.zve XT.ve))) (ir (j4 gJ)) oz)
  (eo (oY (i:=1) iJ.nd rfl (Or.inl rfl) (sX (aL (fY (i:=0) (C:=C) Z T.z_isinstance m1) (aL (fY (i:=0) (C:=C) Z T.z_isinstance m2) (aL (fY (i:=0) (C:=C) Z T.z_isinstance m3) (aL (fY (i:=0) (C:=C) Z T.z_isinstance m4) dA))))))
  (eo (oY (i:=1) iJ.nd rfl (Or.inl rfl) (Ig Kw (pv 1) (sX (aL (fY (i:=0) (C:=C) Z T.z_isinstance m5) (aL (fY (i:=0) (C:=C) Z T.z_isinstance m6) (aL (fY (i:=0) (C:=C) Z T.z_isinstance m7) dA))))))
  (eo (y3 (y_ rH (CB Z3 PySem.F.slot_list_count PySem.F.type_list_count BH (pv 1) (aL Ck dA)) Cj (bK _)) (ir (j4 gJ)) oz)
  (ir (j4 (Ii ze (sX (aL gJ (aL gJ (aL gJ (aL gJ (aL gJ (aL gJ (aL gJ dA)))))))) (CB Z3 PySem.F.slot_list_index PySem.F.type_list_index BI (pv 1) (aL Ck dA)) (fun _ _=>rfl))))))),?_⟩
 refine⟨ea,rfl,hx,true,rfl,L2.iteF ?_⟩
 refine⟨ea,rfl,hx,ea,rfl,hx,ea,rfl,hx,ea,rfl,hx,(by decide:4≤Yx),fun p1 n1 => ?_⟩
 have s1:aH H (cm H p1 (.lst [.bl false,.bl false,.bl false,.bl false])):=aH.updN (fun _ _ e=>e) n1
 have JV:=s1 _ _ hx
 refine⟨.ref p1,rfl,ea,rfl,JV,ea,rfl,JV,ea,rfl,JV,(by decide:3≤Yx),fun p2 n2 => ?_⟩
 have s2:=s1.updN (o:=.lst [.bl true,.bl false,.bl false]) n2
 have WK:cm (cm H p1 (.lst [.bl false,.bl false,.bl false,.bl false])) p2 (.lst [.bl true,.bl false,.bl false]) p1=some (.lst [.bl false,.bl false,.bl false,.bl false]):=by
  rw[aD (ba (aI) n2)];exact aI
 refine⟨p1,p2,[.bl false,.bl false,.bl false,.bl false],[.bl true,.bl false,.bl false],rfl,rfl,WK,aI,(by decide:7≤Yx),fun p3 n3 => ?_⟩
 have s3:=s2.updN (o:=.lst [.bl false,.bl false,.bl false,.bl false,.bl true,.bl false,.bl false]) n3
 refine⟨.ref p3,rfl,.inl ⟨rfl,_,.inl (.inl aI)⟩,p3,_,.bl true,rfl,rfl,aI,rfl,rfl,?_⟩
 refine⟨rfl,_,rfl,Rf (by decide +kernel) ?_⟩
 refine⟨(by decide:7≤Yx),fun p4 n4 => ?_⟩
 have s4:=s3.updN (o:=.lst [.str "plan",.str "way",.str "end",.str "formula",.str "many",.str "name",.str "note"]) n4
 have h3:∀(H0:Hp) (o o':HO),(cm H0 p3 o) p4=none→cm (cm H0 p3 o) p4 o' p3=some o:=fun H0 o o' n=>(aD (ba (aI) n)).trans aI
 refine⟨.ref p3,rfl,.inl ⟨rfl,_,.inl (.inl (h3 _ _ _ n4))⟩,p3,_,.bl true,4,rfl,rfl,h3 _ _ _ n4,rfl,rfl,by decide,rfl,?_,?_⟩
 ·intro m hm
  match m,hm with
  |0,_=>rfl
  |1,_=>rfl
  |2,_=>rfl
  |3,_=>rfl
 ·exact⟨p4,_,4,.str "many",rfl,rfl,.inl (.inl aI),rfl,hq _ s4⟩
theorem fX.mark {A:Zw}(e:Option Yv)(r:ez k A):fX k (A.mark e):=⟨r.dp,r.un⟩
theorem fX.mono1 {A:Zw}(r:fX k A)(h:1≤k):fX 1 A:=⟨by have:=r.dp;lia,by have:=r.un;lia⟩
theorem PS.nox (h:PS X.nox st t):PS X st t:=fun pins s σ H D I hw =>
 ZI (h pins s σ H D (I.wish _) hw) (fun _ _ q=>q.unwish) fun _ _ z=>ZV z
theorem LV (G:Gm)(m:Md){g:Ev→SR}(h:DS X.nox G m st g):PS X st (KW X.K G m g):=PS.nox h.un
theorem Hs (G:Gm){a b:List adh}{b1:Bool}{h1:Ev→R (Bool×Ev)}{u:TS}(hc:DT X.nox G c b1 h1)(ha:mV X a t)(hb:mV X b u):PS X (.If c a b pos) (Nf (Bg X.K G b1 h1) t u):=y3 (PT.nox hc.un) ha hb
noncomputable def pB:List U→Prop:=fun us=>∃ρ1 ρ2 ρ3 ρ4,LS (cA 10 us)=.nx ρ1∧LU ρ1=.nx ρ2∧MV ρ2=.nx ρ3∧MW ρ3=.ok (true,ρ4)
theorem yI (T:qC mg)(XT:DF K mg C "TooMany" MS)(ju:Fn P w K mg base "then" 2 ["one","other"] (iq K 2 gQ .S))(bN:Fn P w K mg base "counted" 1 ["shuffle"] (iq K 1 bM .O))(bP:Fn P w K mg base "lessened" 2 ["often"] (iq K 1 bX .O))(d:Df K mg "both" gH) :
  ∃(f:YM) (fd:ab7),mg "both"=some (.ref f)∧Y3 K (.ref f)=true∧jS K fd ["one","other"] []∧iU P w K mg base (IA P w C) 3 f fd ["one","other"] (VX K 2 C pB):=by
 obtain⟨tk,g_MOST⟩:=T.g_MOST_ORDERS
 obtain⟨f,fd,m,F⟩:=d.ex
 refine⟨f,fd,m,F.kp,F.binds Ao,?_⟩
 obtain⟨oc,od,kV,dv,pm,an,aY,ct,osl,rfl,lk,iP⟩:=F.ex
 refine Ih (k:=2) (N:=["one","other","often","first","number","second","more","order","least","orders"]) lk iP b9 (fun vs H Q E ⟨us,A,r,_,l,_⟩=>by rw[←r.length];exact l) fun A outer s H vs Q E hr ⟨us,A0,r,mu,l,⟨ρ1,ρ2,ρ3,ρ4,h1,h2,h3,h4⟩,hE⟩ => ?_
 have hh:A.handled=none:=hr.hd
 have hu:=hr.units
 refine⟨_,eo (LV (g:=LS) mI .S (eC (i:=2) b9.nd jh))
  (eo (LV (g:=LU) mI .S (dC Zs rfl (jk (aP bN (hr.mono (by first|decide|lia)) (af (aj 0) ah))) (i_ rfl (bQ (aM (i:=3) b9.nd) (bQ (aM (i:=4) b9.nd) gz)))
 (ar (dC Zs rfl (jk (aP bN (hr.mono (by first|decide|lia)) (af (aj 1) ah))) (i_ rfl (bQ (aM (i:=5) b9.nd) (bQ (aM (i:=6) b9.nd) gz)))
 (ai (bb (i:=7) b9.nd (aP ju (hr.mono (by first|decide|lia)) (af (aj 3) (af (aj 5) ah))))
 (ar (lj (j:=2) hu (aS br bu (lh (j:=2) hu (aj 7) aA) (aS iw fH (aj 4) (aj 6))) (aj 7))))))))
  (eo (LV (g:=MV) (mI.un 2) .S (bb (i:=8) b9.nd (aP bP (hr.mono (by first|decide|lia)) (af (aj 2) ah))))
  (eo (Hs (h1:=MW) (mI.un 2) (cG vh pP (Ai rfl (aj 8) T.z_sum) (vx (i:=24) rfl g_MOST) (bK _)) (ir (Dz XT.cls XT.exc hh (aL (N2 (sU (v:=.int 24) rfl g_MOST ⟨_,rfl⟩)) dA))) oz) AS))),?_⟩
 have rl:=BK (G:=mI) (N:=["one","other","often","first","number","second","more","order","least","orders"]) r mu rfl (fun i hi=>by rw[l] at hi;match i,hi with|0,_=>rfl|1,_=>rfl)
 refine⟨⟨A0,H,0⟩,A0,_,rl,?_⟩
 have Mt:LS (cA (["one","other","often","first","number","second","more","order","least","orders"]:List Str).length us)=.nx ρ1:=h1
 rw[Mt]
 intro A1 σ1 H1 q1
 refine⟨_,A1,ρ1,q1,?_⟩
 rw[h2]
 intro A2 σ2 H2 q2
 obtain⟨A3,q3⟩:=q2.un (i:=2) (by decide)
 refine⟨_,A3,ρ2,q3,?_⟩
 rw[h3]
 intro A4 σ4 H4 q4
 refine⟨_,A4,ρ3,q4,?_⟩
 rw[h4]
 intro H' q ex sm
 rw[if_pos rfl]
 exact⟨24,rfl,by decide,by decide +kernel,fun y=>⟨(by decide:1≤Yx),hE H' fun b o e=>q.bas b o e⟩⟩
theorem Ht (T:qC mg)(XT:DF K mg C "TooMany" MS)(ju:Fn P w K mg base "then" 2 ["one","other"] (iq K 2 gQ .S))(bN:Fn P w K mg base "counted" 1 ["shuffle"] (iq K 1 bM .O))(bP:Fn P w K mg base "lessened" 2 ["often"] (iq K 1 bX .O))(yV:Fn P w K mg base "both" 3 ["one","other"] (iq K 2 eT .S))(d1:Df K mg "both" gH)(d2:Df K mg "_law_mark" dh)(d:Df K mg "_law_told" di):Fn P w K mg base "_law_told" 4 ["one","other"] (iq K 2 bD .S):=by
 obtain⟨f1,fd1,a1,b1,c1,F1⟩:=yI (P:=P) (w:=w) (base:=base) T XT ju bN bP d1
 obtain⟨f2,fd2,a2,b2,c2,F2⟩:=Hr (P:=P) (w:=w) (base:=base) T XT d2
 obtain⟨cc,hc,O1⟩:=XT.card
 have hl:∀(us:List U) (A:YM→Prop) (H:Hp) (Q:VK),Gu K .S A H (u9 2 bD us) Q→us.length=2:=fun us A H Q h=>by
  unfold u9 at h
  split at h
  ·assumption
  ·exact h.elim
 refine Df.fn (N:=["one","other","e"]) (k:=3) d lR uF (fun vs H Q E ⟨us,A,r,_,h⟩=>by rw[←r.length];exact hl us A H Q h) fun f aY A outer s H vs Q E hr ⟨us,A0,r,mu,h⟩ => ?_
 have l:=hl us A0 H Q h
 have own:∀i,i<2→(⟨[false,false,false],false,fun _=>False⟩:Gm).is i=false:=fun i hi=>match i,hi with|0,_=>rfl|1,_=>rfl
 match us,l with
 | [um,up],_ =>
  have h:Gu K .S A0 H (bD [um,up]) Q:=h
  have WL:(pB [um,up]∧bD [um,up]=.ok (.str "many"))∨bD [um,up]=eT [um,up]∨bD [um,up]=.stk:=by
   unfold bD pB
   cases e1:LS (cA 10 [um,up]) with
   |nx ρ1 =>
    dsimp only
    cases e2:LU ρ1 with
    |nx ρ2 =>
     dsimp only
     cases e3:MV ρ2 with
     |nx ρ3 =>
      dsimp only
      cases e4:MW ρ3 with
      |ok x =>
       obtain⟨c,ρ4⟩:=x
       cases c with
       |true=>exact .inl ⟨⟨ρ1,ρ2,ρ3,ρ4,rfl,e2,e3,e4⟩,rfl⟩
       |false=>exact .inr (.inl rfl)
      |exc=>exact .inr (.inr rfl)
      |stk=>exact .inr (.inr rfl)
     |_=>exact .inr (.inr rfl)
    |_=>exact .inr (.inr rfl)
   |_=>exact .inr (.inr rfl)
  rcases WL with⟨pm,e⟩|e|e
  ·rw[e] at h
   refine⟨_,ir (G0 (i:=2) F1 (hr.mono (by decide)) a1 b1 c1 rfl rfl hc O1 lR.nd (aL (pv 0) (aL (pv 1) dA)) (fun ea=>ir (j4 (DD F2 (fX.mono1 (fX.mark _ hr) (by decide)) a2 b2 c2 (aL (pv 2) dA))))),?_⟩
   unfold az at r
   obtain⟨v0,vr,rfl,r0,r⟩:=r
   unfold az at r
   obtain⟨v1,vr,rfl,r1,r⟩:=r
   unfold az at r
   subst r
   refine⟨v0,rfl,v1,rfl,[um,up],A0,az.cons r0 (az.cons r1 az.nil),mu,rfl,pm,fun H' sm ea WM=>⟨.ref ea,rfl,ea,rfl,aI,fun H3 s3 => ?_⟩⟩
   exact h (.str "many") H3 (fun b o e=>s3 b o ((sm.updN WM) b o e)) (show Rp K H3 A0 (.str "many") (.str "many") from CU)
  ·rw[e] at h
   cases hb:eT [um,up] with
   |exc=>rw[hb] at h;exact h.elim
   |stk=>rw[hb] at h;exact h.elim
   |ok zz =>
   refine (pN (ps:=["one","other"]) (N:=["one","other","e"]) (st:=di) (x:="_law_told") (k:=3) ⟨[false,false,false],false,fun _=>False⟩ .S (cz (fF 2 eT (aa (ae 0) (aa (ae 1) ak)))) rfl own ?_).2 f aY A outer s H vs Q E hr ⟨[um,up],A0,r,mu,?_⟩
   ·intro f aY A outer s0 H E hr
    exact ar (G2 (ar (bz (aP yV (hr.mono (by decide)) (af (aj 0) (af (aj 1) ah))))))
   ·have e:u9 (["one","other"]:List Str).length (eP .S (["one","other","e"]:List Str).length (cz (fF 2 eT (aa (ae 0) (aa (ae 1) ak))))) [um,up]=eT [um,up]:=by
     show eP .S 3 (cz (fF 2 eT (aa (ae 0) (aa (ae 1) ak)))) [um,up]=_
     have e1:fF 2 eT (aa (ae 0) (aa (ae 1) ak)) [some um,some up,none]=(eT [um,up]).bind fun z=>.ok (z,[some um,some up,none]):=rfl
     show (match SR.of (fF 2 eT (aa (ae 0) (aa (ae 1) ak)) [some um,some up,none]) (fun x=>.rt x.1 x.2) with
      | .rt u _=>R.ok u
      | .nx _=>if Md.S=Md.S then .ok .non else .stk
      | .exc c u=>.exc c u
      |_=>.stk)=_
     rw[e1,hb]
     rfl
    rw[e]
    exact h
  ·rw[e] at h;exact h.elim
end Hc
namespace Hc
open L2
theorem jQ (T:qC mg)  (bZ:Df K mg "greatest_divisor" aK):Fn P w K mg base "greatest_divisor" 1 ["one","other"] (iq K 2 bH .S):=by
 refine Df.fnD (N:=["one","other","rest"]) (ps:=["one","other"]) (st:=aK) (k:=0) kh .S d6 bZ bB jP rfl (by decide) ?_
 intro f aY A outer s0 H E hr
 have hu:=hr.units
 have qP:=d8 hr
 exact (ai (bb (i:=0) bB.nd (bp kE oG (by rfl) T.z_abs tw (af (aj 0) ah)))
 (ai (bb (i:=1) bB.nd (bp kE oG (by rfl) T.z_abs tw (af (aj 1) ah)))
 (ai (vz Zs (cG rH lN (aj 1) aA (bK _))
 (ai (bb (i:=2) bB.nd (aS i0 gD (aj 0) (aj 1)))
 (ai (bb (i:=0) bB.nd (aj 1))
 (ar (bb (i:=1) bB.nd (aj 2))))))
 (ar (bz (aj 0))))))
theorem wH (T:qC mg)  (gf:Df K mg "cards_at" cQ):Fn P w K mg base "cards_at" 1 ["row","places"] (iq K 2 f_ .S):=by
 refine Df.fnD (N:=["row","places"]) (ps:=["row","places"]) (st:=cQ) (k:=0) yC .S ki gf wD wF rfl (by decide) ?_
 intro f aY A outer s0 H E hr
 have hu:=hr.units
 have qP:=d8 hr
 exact (ar (bz (dJ bS ef (by rfl) T.z_tuple dc (af (jb (ag cQ) ["row","places"] ["place","row"] [none,some 0] rfl (fu (aj 1)) (fun Y=>⟨(aM (i:=0) (show (["place","row"]:List Str).Nodup by decide +kernel)),dU,(i9 fS fW (aj 1) (aj 0) (fun _ _=>rfl))⟩)) ah))))
theorem Hu (T:qC mg)(kA:Fn P w K mg base "cards_at" 1 ["row","places"] (iq K 2 f_ .S))(qQ:Df K mg "then" iS):Fn P w K mg base "then" 2 ["one","other"] (iq K 2 gQ .S):=by
 refine Df.fnD (N:=["one","other"]) (ps:=["one","other"]) (st:=iS) (k:=1) LP .S yD qQ Hm Hn rfl (by decide) ?_
 intro f aY A outer s0 H E hr
 have hu:=hr.units
 have qP:=d8 hr
 exact (ar (bz (aP kA (hr.mono (by first|decide|lia)) (af (aj 0) (af (aj 1) ah)))))
theorem yJ (T:qC mg)  (ip:Df K mg "counted" df):Fn P w K mg base "counted" 1 ["shuffle"] (iq K 1 bM .O):=by
 refine Df.fnD (N:=["shuffle","often","order"]) (ps:=["shuffle"]) (st:=df) (k:=0) BX .O mH ip km yH rfl (by decide) ?_
 intro f aY A outer s0 H E hr
 have hu:=hr.units
 have qP:=d8 hr
 exact (ai (eC (i:=1) km.nd jh)
 (ai (dC Zs rfl (fu (aj 0)) (aM (i:=2) km.nd)
 (ar (lj (j:=1) hu (aS br bu (lh (j:=1) hu (aj 2) aA) aA) (aj 2))))
 (ar (zh (i:=1) (hi:=by decide)))))
theorem wI (T:qC mg)(d7:Fn P w K mg base "greatest_divisor" 1 ["one","other"] (iq K 2 bH .S))(gj:Df K mg "lessened" cq):Fn P w K mg base "lessened" 2 ["often"] (iq K 1 bX .O):=by
 refine Df.fnD (N:=["often","divisor","number","least","order"]) (ps:=["often"]) (st:=cq) (k:=1) yE .O kj gj dF wG rfl (by decide) ?_
 intro f aY A outer s0 H E hr
 have hu:=hr.units
 have qP:=d8 hr
 exact (ai (bb (i:=1) dF.nd aA)
 (ai (dC Zs rfl (Hh (aj 0)) (aM (i:=2) dF.nd)
 (ar (bb (i:=1) dF.nd (aP d7 (hr.mono (by first|decide|lia)) (af (aj 1) (af (aj 2) ah))))))
 (ai (eC (i:=3) dF.nd jh)
 (ai (dC Zs rfl (jk (aj 0)) (i_ rfl (bQ (aM (i:=4) dF.nd) (bQ (aM (i:=2) dF.nd) gz)))
 (ar (lj (j:=3) hu (aS gY jc (aj 2) (aj 1)) (aj 4))))
 (ar (zh (i:=3) (hi:=by decide)))))))
theorem Hv (T:qC mg)(bN:Fn P w K mg base "counted" 1 ["shuffle"] (iq K 1 bM .O))(bP:Fn P w K mg base "lessened" 2 ["often"] (iq K 1 bX .O))(qR:Df K mg "same" iT):Fn P w K mg base "same" 3 ["one","other"] (iq K 2 qx .S):=by
 refine Df.fnD (N:=["one","other"]) (ps:=["one","other"]) (st:=iT) (k:=2) LQ .S yF qR Ho Hq rfl (by decide) ?_
 intro f aY A outer s0 H E hr
 have hu:=hr.units
 have qP:=d8 hr
 exact (ar (bz (tH (Al hu) wx (aP bP (hr.mono (by first|decide|lia)) (af (aP bN (hr.mono (by first|decide|lia)) (af (aj 0) ah)) ah)) (aP bP (hr.mono (by first|decide|lia)) (af (aP bN (hr.mono (by first|decide|lia)) (af (aj 1) ah)) ah)) (bK _))))
theorem Hw (T:qC mg)(ju:Fn P w K mg base "then" 2 ["one","other"] (iq K 2 gQ .S))(bN:Fn P w K mg base "counted" 1 ["shuffle"] (iq K 1 bM .O))(bP:Fn P w K mg base "lessened" 2 ["often"] (iq K 1 bX .O))(mR:Df K mg "both" gH):Fn P w K mg base "both" 3 ["one","other"] (iq K 2 eT .S):=by
 obtain⟨jA,g_MOST_ORDERS⟩:=T.g_MOST_ORDERS
 refine Df.fnD (N:=["one","other","often","first","number","second","more","order","least","orders"]) (ps:=["one","other"]) (st:=gH) (k:=2) mI .S yG mR b9 Ao rfl (by decide) ?_
 intro f aY A outer s0 H E hr
 have hu:=hr.units
 have qP:=d8 hr
 exact (ai (eC (i:=2) b9.nd jh)
 (ai (dC Zs rfl (jk (aP bN (hr.mono (by first|decide|lia)) (af (aj 0) ah))) (i_ rfl (bQ (aM (i:=3) b9.nd) (bQ (aM (i:=4) b9.nd) gz)))
 (ar (dC Zs rfl (jk (aP bN (hr.mono (by first|decide|lia)) (af (aj 1) ah))) (i_ rfl (bQ (aM (i:=5) b9.nd) (bQ (aM (i:=6) b9.nd) gz)))
 (ai (bb (i:=7) b9.nd (aP ju (hr.mono (by first|decide|lia)) (af (aj 3) (af (aj 5) ah))))
 (ar (lj (j:=2) hu (aS br bu (lh (j:=2) hu (aj 7) aA) (aS iw fH (aj 4) (aj 6))) (aj 7)))))))
 (ur 2 (ai (bb (i:=8) b9.nd (aP bP (hr.mono (by first|decide|lia)) (af (aj 2) ah)))
 (ai (ff (cG vh pP (Ai rfl (aj 8) T.z_sum) (vx (i:=24) rfl g_MOST_ORDERS) (bK _)) (ar (Li fun _=>⟨_,_,rfl⟩)) cy)
 (ai (eC (i:=9) b9.nd (fV ah))
 (ai (dC Zs rfl (fu (bp (sF rfl hu) wq (by rfl) T.z_sorted rQ (af (aj 8) ah))) (aM (i:=7) b9.nd)
 (ar (oF (pG (i:=9) Z3 abl abm oH iD (af (aS Ah wt (fV (af (aj 7) ah)) (tZ hu (aj 8) (aj 7))) ah)))))
 (ar (bz (dJ bS ef (by rfl) T.z_tuple dc (af (gN 9) ah)))))))))))
theorem oj (T:qC mg)  (dG:Df K mg "_law_cell_at" bO):Fn P w K mg base "_law_cell_at" 1 ["script","k"] (iq K 2 cO .S):=by
 refine Df.fnD (N:=["script","k"]) (ps:=["script","k"]) (st:=bO) (k:=0) qy .S eG dG n9 n_ rfl (by decide) ?_
 intro f aY A outer s0 H E hr
 have hu:=hr.units
 have qP:=d8 hr
 exact (ai (ff (cG Ct xR (aj 1) (bp dS eW (by rfl) T.z_len gK (af (aj 0) ah)) (bK _)) (ar (bz (i9 fS fW (aj 0) (aj 1) (fun _ _=>rfl)))) cy)
 (ar (bz aA)))
theorem rB (T:qC mg)(gp:Fn P w K mg base "_law_cell_at" 1 ["script","k"] (iq K 2 cO .S))(eJ:Df K mg "_law_state" cu):Fn P w K mg base "_law_state" 2 ["script","k"] (iq K 2 dN .O):=by
 refine Df.fnD (N:=["script","k","cell"]) (ps:=["script","k"]) (st:=cu) (k:=1) uA .O fL eJ jX rq rfl (by decide) ?_
 intro f aY A outer s0 H E hr
 have hu:=hr.units
 have qP:=d8 hr
 exact (ai (bb (i:=2) jX.nd (aP gp (hr.mono (by first|decide|lia)) (af (aj 0) (af (aj 1) ah))))
 (ai (ff (cG Np K8 (aj 2) (aS Cs zu aA aA) (bK _)) (ar (tN (fV (af (aS Km GC (aj 2) (aS Cs zu aA aA)) (af pE ah))))) cy)
 (ar (tN (fV (af (aS i0 gD (aj 2) aA) (af pE ah)))))))
theorem uH (T:qC mg)  (fj:Df K mg "_law_take" dg):Fn P w K mg base "_law_take" 1 ["state","many"] (CZ K 2 aG):=by
 refine Df.fnI (N:=["state","many","found","mixed"]) (ps:=["state","many"]) (st:=dg) (k:=0) wz gF fj fM uB rfl rfl (by decide) ?_
 intro f aY A outer s0 H E hr
 have hu:=hr.units
 have qP:=d8 hr
 exact (ai (ff (tJ (i9 fS fW (gN 0) aA (fun _ _=>rfl))) (ai (bb (i:=2) fM.nd (aS i0 gD (i9 fS fW (gN 0) aA (fun _ _=>rfl)) (aj 1)))
 (ai (zp (i:=0) (aS gY jc (i9 fS fW (gN 0) aA (fun _ _=>rfl)) (aj 1)) aA)
 (ar (bz (aj 2))))) cy)
 (ai (zp (i:=0) (aS i0 gD (aS br bu (aS iw fH (i9 fS fW (gN 0) aA (fun _ _=>rfl)) aA) aA) aA) aA)
 (ai (bb (i:=3) fM.nd (aS i0 gD (aS br bu (aS br bu (aS iw fH (i9 fS fW (gN 0) aA (fun _ _=>rfl)) (i9 fS fW (gN 0) aA (fun _ _=>rfl))) (aS iw fH aA (i9 fS fW (gN 0) aA (fun _ _=>rfl)))) aA) aA))
 (ai (bb (i:=3) fM.nd (aS i0 gD (aS br bu (aS iw fH (aj 3) (aj 3)) (aS iw fH aA (aj 3))) aA))
 (ar (bz (aS i0 gD (aS gY jc (aj 3) aA) (aj 1))))))))
theorem rC (T:qC mg)(bq:Fn P w K mg base "_law_take" 1 ["state","many"] (CZ K 2 aG))(eK:Df K mg "_law_order" bV):Fn P w K mg base "_law_order" 2 ["state","many"] (CZ K 2 c_):=by
 refine Df.fnI (N:=["state","many","left"]) (ps:=["state","many"]) (st:=bV) (k:=1) iH iI eK jY rA rfl rfl (by decide) ?_
 intro f aY A outer s0 H E hr
 have hu:=hr.units
 have qP:=d8 hr
 exact (ai (eC (i:=2) jY.nd (GI rfl (af (aj 1) ah) T.z_list T.z_range))
 (ar (bz (dJ bS ef (by rfl) T.z_tuple dc (af (C9 (ag bV) ["state","many","left"] ["k","left","state"] [none,some 2,some 0] rfl (fP (af (aj 1) ah) T.z_range) (fun Y=>⟨(aM (i:=0) (show (["k","left","state"]:List Str).Nodup by decide +kernel)),dU,(pG (i:=1) Z3 PySem.F.slot_list_pop PySem.F.type_list_pop CD Bp (af (cM (i:=2) bq (hr.mono (by first|decide|lia)) (af (bp dS eW (by rfl) T.z_len gK (af (gN 1) ah)) ah)) ah))⟩)) ah)))))
theorem om (T:qC mg)(bq:Fn P w K mg base "_law_take" 1 ["state","many"] (CZ K 2 aG))(fO:Fn P w K mg base "_law_order" 2 ["state","many"] (CZ K 2 c_))(dH:Df K mg "_law_shuffle" aW):Fn P w K mg base "_law_shuffle" 3 ["state","many"] (CZ K 2 aC):=by
 refine Df.fnI (N:=["state","many","stays","way","order","half","some","size","k","longer"]) (ps:=["state","many"]) (st:=aW) (k:=2) gb bY dH aU og rfl rfl (by decide) ?_
 intro f aY A outer s0 H E hr
 have hu:=hr.units
 have qP:=d8 hr
 exact (ai (bb (i:=2) aU.nd (GJ rfl (af (aj 1) ah) T.z_tuple T.z_range))
 (ai (bb (i:=3) aU.nd (cM (i:=0) bq (hr.mono (by first|decide|lia)) (af aA ah)))
 (ai (ff (cG kD fK (aj 3) aA (bK _)) (ar (bz (dJ bS ef (by rfl) T.z_tuple dc (af (jb (ag aW) ["state","many","stays","way","order","half","some","size","k","longer"] ["k","stays"] [none,some 2] rfl (fP (af (aj 1) ah) T.z_range) (fun Y=>⟨(aM (i:=0) (show (["k","stays"]:List Str).Nodup by decide +kernel)),dU,(aS br bu (cx cB eD (aj 1) (cY (aj 0)) dM) (cx cB eD (aj 1) dM (cY (aj 0))))⟩)) ah)))) cy)
 (ai (ff (cG kD fK (aj 3) aA (bK _)) (ai (bb (i:=4) aU.nd (cM (i:=0) fO (hr.mono (by first|decide|lia)) (af (aj 1) ah)))
 (ar (bz (eB (af (aj 2) (af (aj 4) ah)))))) cy)
 (ai (ff (cG kD fK (aj 3) aA (bK _)) (ai (bb (i:=5) aU.nd (aS gY jc (aj 1) aA))
 (ar (bz (eB (af (aj 2) (af (aS br bu (aS br bu (cx cB eD (aj 2) (cY (aj 5)) (cY (aS iw fH aA (aj 5)))) (cx cB eD (aj 2) dM (cY (aj 5)))) (cx cB eD (aj 2) (cY (aS iw fH aA (aj 5))) dM)) ah)))))) cy)
 (ai (ff (cG kD fK (aj 3) aA (bK _)) (ai (bb (i:=6) aU.nd (fV (af (eB ah) ah)))
 (ai (bb (i:=7) aU.nd (bp (rK rfl) vF (by rfl) T.z_min CP (af (aj 1) (af (aS br bu aA (cM (i:=0) bq (hr.mono (by first|decide|lia)) (af aA ah))) ah))))
 (ai (dC Zs rfl (fP (af (aj 7) ah) T.z_range) (aM (i:=8) aU.nd)
 (ai (eC (i:=9) aU.nd (fV ah))
 (ai (dC Zs rfl (fu (aj 6)) (aM (i:=4) aU.nd)
 (ar (oF (pG (i:=9) Z3 abl abm oH iD (af (jb (ag aW) ["state","many","stays","way","order","half","some","size","k","longer"] ["j","order","k"] [none,some 4,some 8] rfl (fP (af (aS br bu (aj 8) aA) ah) T.z_range) (fun Y=>⟨(aM (i:=0) (show (["j","order","k"]:List Str).Nodup by decide +kernel)),dU,(aS br bu (aS br bu (cx cB eD (aj 1) dM (cY (aj 0))) (eB (af (aj 2) ah))) (cx cB eD (aj 1) (cY (aj 0)) dM))⟩)) ah)))))
 (ar (Gw (i:=6) (j:=9) aU.nd)))))
 (ar (bz (dJ bS ef (by rfl) T.z_tuple dc (af (jb (ag aW) ["state","many","stays","way","order","half","some","size","k","longer"] ["order","stays","size"] [none,some 2,some 7] rfl (fu (aj 6)) (fun Y=>⟨(aM (i:=0) (show (["order","stays","size"]:List Str).Nodup by decide +kernel)),dU,(aS br bu (aj 0) (cx cB eD (aj 1) (cY (aj 2)) dM))⟩)) ah))))))) cy)
 (ar (bz (dJ bS ef (by rfl) T.z_tuple dc (af (C9 (ag aW) ["state","many","stays","way","order","half","some","size","k","longer"] ["k","state","many"] [none,some 0,some 1] rfl (fP (af (aS br bu aA (cM (i:=0) bq (hr.mono (by first|decide|lia)) (af aA ah))) ah) T.z_range) (fun Y=>⟨(aM (i:=0) (show (["k","state","many"]:List Str).Nodup by decide +kernel)),dU,(cM (i:=1) fO (hr.mono (by first|decide|lia)) (af (aj 2) ah))⟩)) ah))))))))))
theorem oq (T:qC mg)  (dI:Df K mg "_law_divisor" bE):Fn P w K mg base "_law_divisor" 1 ["one","other"] (iq K 2 cP .S):=by
 refine Df.fnD (N:=["one","other"]) (ps:=["one","other"]) (st:=bE) (k:=0) qz .S gc dI d5 oh rfl (by decide) ?_
 intro f aY A outer s0 H E hr
 have hu:=hr.units
 have qP:=d8 hr
 exact (ai (bb (i:=0) d5.nd (bp kE oG (by rfl) T.z_abs tw (af (aj 0) ah)))
 (ai (bb (i:=1) d5.nd (bp kE oG (by rfl) T.z_abs tw (af (aj 1) ah)))
 (ai (vz Zs (cG vh pP (aj 1) aA (bK _))
 (ar (C4 (i:=0) (j:=1) rfl d5.nd (af (aj 1) (af (aS i0 gD (aj 0) (aj 1)) ah)))))
 (ar (bz (aj 0))))))
theorem uI (T:qC mg)  (fm:Df K mg "_law_laid" cR):Fn P w K mg base "_law_laid" 1 ["row","order"] (iq K 2 cV .S):=by
 refine Df.fnD (N:=["row","order"]) (ps:=["row","order"]) (st:=cR) (k:=0) wA .S jo fm uC uD rfl (by decide) ?_
 intro f aY A outer s0 H E hr
 have hu:=hr.units
 have qP:=d8 hr
 exact (ar (bz (dJ bS ef (by rfl) T.z_tuple dc (af (jb (ag cR) ["row","order"] ["place","row"] [none,some 0] rfl (fu (aj 1)) (fun Y=>⟨(aM (i:=0) (show (["place","row"]:List Str).Nodup by decide +kernel)),dU,(i9 fS fW (aj 1) (aj 0) (fun _ _=>rfl))⟩)) ah))))
theorem qD (T:qC mg)(gq:Fn P w K mg base "_law_divisor" 1 ["one","other"] (iq K 2 cP .S))(dY:Df K mg "_law_lowest" bI):Fn P w K mg base "_law_lowest" 2 ["orders"] (iq K 1 bg .O):=by
 refine Df.fnD (N:=["orders","counts","order","by"]) (ps:=["orders"]) (st:=bI) (k:=1) rm .O gR dY cS qA rfl (by decide) ?_
 intro f aY A outer s0 H E hr
 have hu:=hr.units
 have qP:=d8 hr
 exact (ai (eC (i:=1) cS.nd jh)
 (ai (dC Zs rfl (fu (aj 0)) (aM (i:=2) cS.nd)
 (ar (lj (j:=1) hu (aS br bu (lh (j:=1) hu (aj 2) aA) aA) (aj 2))))
 (ur 1 (ai (bb (i:=3) cS.nd aA)
 (ai (dC Zs rfl (Ad (aj 1)) (aM (i:=2) cS.nd)
 (ar (bb (i:=3) cS.nd (aP gq (hr.mono (by first|decide|lia)) (af (aj 3) (af (tZ hu (aj 1) (aj 2)) ah))))))
 (ar (tN (dJ (yB rfl hu) BW (by rfl) T.z_dict Gf (af (jb (ag bI) ["orders","counts","order","by"] ["order","by","counts"] [none,some 3,some 1] rfl (Ad (aj 1)) (fun Y=>⟨(aM (i:=0) (show (["order","by","counts"]:List Str).Nodup by decide +kernel)),dU,(eB (af (aj 0) (af (aS gY jc (tZ hu (aj 2) (aj 0)) (aj 1)) ah)))⟩)) ah)))))))))
theorem uJ (T:qC mg)  (ei:Df K mg "_law_same" cD):∀n,Fn P w K mg base "_law_same" (n+1) ["found","due"] (iq K 2 (bC n) .S):=by
 intro n
 induction n with
 |zero =>
  refine Df.fnD (N:=["found","due"]) (ps:=["found","due"]) (st:=cD) (k:=0) nK .S (cC 0) ei lP lQ rfl (by decide) ?_
  intro f aY A outer s0 H E hr
  have hu:=hr.units
  have qP:=d8 hr
  exact GK
 |succ n jz =>
  refine Df.fnD (N:=["found","due"]) (ps:=["found","due"]) (st:=cD) (k:=n+1) nK .S (cC (n+1)) ei lP lQ rfl (by decide) ?_
  intro f aY A outer s0 H E hr
  have hu:=hr.units
  have qP:=d8 hr
  exact (ai (ff (tJ (Du (T1:="tuple") (T2:="list") (by decide) (by decide) (aj 1) T.z_isinstance T.z_tuple dc T.z_list oD)) (ai (ff (DW.dt (Io (cG rH lN (iC (T:="tuple") (by decide) (aj 0) T.z_isinstance T.z_tuple dc) (iC (T:="tuple") (by decide) (aj 1) T.z_isinstance T.z_tuple dc) (bK _)) (CW (cG rH lN (iC (T:="list") (by decide) (aj 0) T.z_isinstance T.z_list oD) (iC (T:="list") (by decide) (aj 1) T.z_isinstance T.z_list oD) (bK _))))) (ar (bz pE)) cy)
 (ai (ff (cG rH lN (bp dS eW (by rfl) T.z_len gK (af (aj 0) ah)) (bp dS eW (by rfl) T.z_len gK (af (aj 1) ah)) (bK _)) (ar (bz pE)) cy)
 (ar (bz (bp (Bd rfl) GH (by rfl) T.z_all KI (af (jb (ag cD) ["found","due"] ["one","other"] [none,none] rfl (Lh (af (aj 0) (af (aj 1) ah)) T.z_zip) (fun Y=>⟨(i_ rfl (bQ (aM (i:=0) (show (["one","other"]:List Str).Nodup by decide +kernel)) (bQ (aM (i:=1) (show (["one","other"]:List Str).Nodup by decide +kernel)) gz))),dU,(aP jz (hr.mono (by first|decide|lia)) (af (aj 0) (af (aj 1) ah)))⟩)) ah)))))) cy)
 (ar (bz (KQ (ha:=(tH kD fK (aj 0) (aj 1) (bK _))) (hb:=(KR (tH kD fK (iC (T:="bool") (by decide) (aj 0) T.z_isinstance T.z_bool tq) (iC (T:="bool") (by decide) (aj 1) T.z_isinstance T.z_bool tq) (bK _))))))))
theorem qE (T:qC mg)(jv:Fn P w K mg base "_law_laid" 1 ["row","order"] (iq K 2 cV .S))(dZ:Fn P w K mg base "_law_lowest" 2 ["orders"] (iq K 1 bg .O))(d4:Df K mg "_law_behind" bJ):Fn P w K mg base "_law_behind" 3 ["one","other"] (iq K 2 dk .S):=by
 refine Df.fnD (N:=["one","other","orders","first","counts","found","order"]) (ps:=["one","other"]) (st:=bJ) (k:=2) rn .S gS d4 cT qB rfl (by decide) ?_
 intro f aY A outer s0 H E hr
 have hu:=hr.units
 have qP:=d8 hr
 exact (ai (eC (i:=2) cT.nd (fV ah))
 (ai (dC Zs rfl (fu (aj 0)) (aM (i:=3) cT.nd)
 (ar (oF (pG (i:=2) Z3 abl abm oH iD (af (jb (ag bJ) ["one","other","orders","first","counts","found","order"] ["second","first"] [none,some 3] rfl (fu (aj 1)) (fun Y=>⟨(aM (i:=0) (show (["second","first"]:List Str).Nodup by decide +kernel)),dU,(aP jv (hr.mono (by first|decide|lia)) (af (aj 1) (af (aj 0) ah)))⟩)) ah)))))
 (ur 2 (ai (bb (i:=4) cT.nd (aP dZ (hr.mono (by first|decide|lia)) (af (aj 2) ah)))
 (ai (eC (i:=5) cT.nd (fV ah))
 (ai (dC Zs rfl (fu (bp (sF rfl hu) wq (by rfl) T.z_sorted rQ (af (aj 4) ah))) (aM (i:=6) cT.nd)
 (ar (oF (pG (i:=5) Z3 abl abm oH iD (af (aS Ah wt (fV (af (aj 6) ah)) (tZ hu (aj 4) (aj 6))) ah)))))
 (ar (bz (dJ bS ef (by rfl) T.z_tuple dc (af (gN 5) ah))))))))))
theorem uK (T:qC mg)(bq:Fn P w K mg base "_law_take" 1 ["state","many"] (CZ K 2 aG))(fo:Df K mg "_law_like" dj):Fn P w K mg base "_law_like" 2 ["state","shuffle"] (CZ K 2 bU):=by
 refine Df.fnI (N:=["state","shuffle","way","turn"]) (ps:=["state","shuffle"]) (st:=dj) (k:=1) wB eh fo iK uG rfl rfl (by decide) ?_
 intro f aY A outer s0 H E hr
 have hu:=hr.units
 have qP:=d8 hr
 exact (ai (bb (i:=2) iK.nd (cM (i:=0) bq (hr.mono (by first|decide|lia)) (af aA ah)))
 (ai (bb (i:=3) iK.nd (cM (i:=0) bq (hr.mono (by first|decide|lia)) (af (bp dS eW (by rfl) T.z_len gK (af (aj 1) ah)) ah)))
 (ai (ff (DW.dt (xJ (cG kD fK (aj 2) aA (bK _)) (tL (cG Ct xR (bp dS eW (by rfl) T.z_len gK (af (aj 1) ah)) aA (bK _))))) (ar (bz (aS br bu (aS br bu (aj 1) (cx cB eD (aj 1) (cY (aj 3)) dM)) (cx cB eD (aj 1) dM (cY (aj 3)))))) cy)
 (ai (ff (DW.dt (xJ (cG kD fK (aj 2) aA (bK _)) (tL (cG Ct xR (bp dS eW (by rfl) T.z_len gK (af (aj 1) ah)) aA (bK _))))) (ar (bz (aS br bu (aj 1) (eB (af (i9 fS fW (aj 1) (aj 3) (fun _ _=>rfl)) ah))))) cy)
 (ai (ff (DW.dt (xJ (cG kD fK (aj 2) aA (bK _)) (tL (cG vh pP (bp dS eW (by rfl) T.z_len gK (af (aj 1) ah)) aA (bK _))))) (ar (bz (aS br bu (cx cB eD (aj 1) dM (cY (aj 3))) (cx cB eD (aj 1) (cY (aS br bu (aj 3) aA)) dM)))) cy)
 (ar (bz (aS br bu (cx cB eD (aj 1) (cY (aj 3)) dM) (cx cB eD (aj 1) dM (cY (aj 3)))))))))))
theorem LW (T:qC mg){cX:YM}(XT:DF K mg cX "TooMany" MS)(FL:FA K "law" "law" kl f fd)(bZ:Df K mg "greatest_divisor" aK)(gf:Df K mg "cards_at" cQ)(qQ:Df K mg "then" iS)(ip:Df K mg "counted" df)(gj:Df K mg "lessened" cq)(qR:Df K mg "same" iT)(mR:Df K mg "both" gH)(dG:Df K mg "_law_cell_at" bO)(eJ:Df K mg "_law_state" cu)(fj:Df K mg "_law_take" dg)(eK:Df K mg "_law_order" bV)(dH:Df K mg "_law_shuffle" aW)(dI:Df K mg "_law_divisor" bE)(fm:Df K mg "_law_laid" cR)(dY:Df K mg "_law_lowest" bI)(jw:Df K mg "_law_mark" dh)(ei:Df K mg "_law_same" cD)(d4:Df K mg "_law_behind" bJ)(jx:Df K mg "_law_told" di)(fo:Df K mg "_law_like" dj)(hp:∀ns:List Int,ns.length≤63→wC [.scr (ns.map .int)]=.ok (.bl true)):iU P w K mg base s_ 22 f fd ["script"] (vA K):=by
 have d7:=jQ (P:=P) (w:=w) (base:=base) T  bZ
 have kA:=wH (P:=P) (w:=w) (base:=base) T  gf
 have ju:=Hu (P:=P) (w:=w) (base:=base) T kA qQ
 have bN:=yJ (P:=P) (w:=w) (base:=base) T  ip
 have bP:=wI (P:=P) (w:=w) (base:=base) T d7 gj
 have MC:=Hv (P:=P) (w:=w) (base:=base) T bN bP qR
 have yV:=Hw (P:=P) (w:=w) (base:=base) T ju bN bP mR
 have gp:=oj (P:=P) (w:=w) (base:=base) T  dG
 have uY:=rB (P:=P) (w:=w) (base:=base) T gp eJ
 have bq:=uH (P:=P) (w:=w) (base:=base) T  fj
 have fO:=rC (P:=P) (w:=w) (base:=base) T bq eK
 have jy:=om (P:=P) (w:=w) (base:=base) T bq fO dH
 have gq:=oq (P:=P) (w:=w) (base:=base) T  dI
 have jv:=uI (P:=P) (w:=w) (base:=base) T  fm
 have dZ:=qD (P:=P) (w:=w) (base:=base) T gq dY
 have jz:=uJ (P:=P) (w:=w) (base:=base) T  ei
 have rF:=qE (P:=P) (w:=w) (base:=base) T jv dZ d4
 have xh:=Ht (P:=P) (w:=w) (base:=base) T XT ju bN bP yV mR jw jx
 have nQ:=uK (P:=P) (w:=w) (base:=base) T bq fo
 refine K5 (f:=wC) ?_ hp
 refine FA.okD (N:=["script","k","state","many","one","other","first","second","due","more","found"]) (ps:=["script"]) (st:=kl) (k:=21) OD .S EU FL eU rfl (by decide) ?_
 intro f aY A outer s0 H E hr
 have hu:=hr.units
 have qP:=d8 hr
 exact (ai (dC Zs rfl (fP (af (bp (AY rfl) De (by rfl) T.z_max KG (af aA (af (bp (rK rfl) vF (by rfl) T.z_min CP (af (bp dS eW (by rfl) T.z_len gK (af (aj 0) ah)) (af aA ah))) ah))) ah) T.z_range) (aM (i:=1) eU.nd)
 (ai (eC (i:=2) eU.nd (aP uY (hr.mono (by first|decide|lia)) (af (aj 0) (af (aj 1) ah))))
 (ai (bb (i:=3) eU.nd (aS br bu aA (cM (i:=2) bq (hr.mono (by first|decide|lia)) (af aA ah))))
 (ai (C4 (i:=4) (j:=5) rfl eU.nd (af (cM (i:=2) jy (hr.mono (by first|decide|lia)) (af (aj 3) ah)) (af (cM (i:=2) jy (hr.mono (by first|decide|lia)) (af (aj 3) ah)) ah)))
 (ai (dC Zs rfl (fu (fV (af (eB (af (aj 4) (af (aj 5) ah))) (af (eB (af (aj 5) (af (aj 4) ah))) (af (eB (af (aj 4) (af (aj 4) ah))) ah))))) (i_ rfl (bQ (aM (i:=6) eU.nd) (bQ (aM (i:=7) eU.nd) gz)))
 (ai (bb (i:=8) eU.nd (aP rF (hr.mono (by first|decide|lia)) (af (aj 6) (af (aj 7) ah))))
 (ai (ff (cG vh pP (bp dS eW (by rfl) T.z_len gK (af (aj 8) ah)) aA (bK _)) (ar (bb (i:=8) eU.nd KO)) cy)
 (ar (ff (CY (tJ (aP (jz 20) (hr.mono (by first|decide|lia)) (af (aP xh (hr.mono (by first|decide|lia)) (af (aj 6) (af (aj 7) ah))) (af (aj 8) ah))))) (ar (bz pE)) cy)))))
 (ai (bb (i:=9) eU.nd (cM (i:=2) nQ (hr.mono (by first|decide|lia)) (af (aj 4) ah)))
 (ar (dC Zs rfl (fu (fV (VT (ji (eB (af (aj 4) (af (aj 5) ah))) (ji (eB (af (aj 4) (af (aj 9) ah))) (ji (eB (af (aj 9) (af (aj 4) ah))) (ji (eB (af (aj 5) (af (aj 9) ah))) (ji (eB (af (aj 5) (af (cM (i:=2) nQ (hr.mono (by first|decide|lia)) (af (aj 5) ah)) ah))) GR)))))))) (i_ rfl (bQ (aM (i:=6) eU.nd) (bQ (aM (i:=7) eU.nd) gz)))
 (ai (bb (i:=10) eU.nd (aP MC (hr.mono (by first|decide|lia)) (af (aj 6) (af (aj 7) ah))))
 (ar (ff (DW.dt (Io (CY (tJ (iC (T:="bool") (by decide) (aj 10) T.z_isinstance T.z_bool tq))) (CW (cG rH lN (aj 10) (tH (Al hu) wx (aP dZ (hr.mono (by first|decide|lia)) (af (aj 6) ah)) (aP dZ (hr.mono (by first|decide|lia)) (af (aj 7) ah)) (bK _)) (bK _))))) (ar (bz pE)) cy)))))))))))
 (ar (bz pE)))
theorem all_mk {fa:YM}(X:K.In h)(G:h.Ns YQ mg)(WN:mg "law"=some (.ref fa)){f0:YM}{WO WQ:Option YM}{WR:Array (Option Yv)}{WS WT WU WV Vu WW:Yv}(a0:YT K YQ "greatest_divisor"=some (some (.ref f0)))(l0:K.lookup f0=some ⟨WS,WO,.func (YI "greatest_divisor" "greatest_divisor" (av aK) (ao aK) (ag aK) .none WT WU WV WQ Vu WW),WR⟩)(c0:Ze K Vu "greatest_divisor"=true)(k0:Y3 K (.ref f0)=true){f1:YM}{WX WY:Option YM}{WZ:Array (Option Yv)}{W0 W2 W3 W4 O9 W5:Yv}(a1:YT K YQ "cards_at"=some (some (.ref f1)))(l1:K.lookup f1=some ⟨W0,WX,.func (YI "cards_at" "cards_at" (av cQ) (ao cQ) (ag cQ) .none W2 W3 W4 WY O9 W5),WZ⟩)(c1:Ze K O9 "cards_at"=true)(k1:Y3 K (.ref f1)=true){f2:YM}{W6 W7:Option YM}{M7:Array (Option Yv)}{W8 W9 W_ Xa Vv Xb:Yv}(a2:YT K YQ "then"=some (some (.ref f2)))(l2:K.lookup f2=some ⟨W8,W6,.func (YI "then" "then" (av iS) (ao iS) (ag iS) .none W9 W_ Xa W7 Vv Xb),M7⟩)(c2:Ze K Vv "then"=true)(k2:Y3 K (.ref f2)=true){f3:YM}{Xc Xd:Option YM}{Xe:Array (Option Yv)}{Xf Xg Xh Xi Vw Xj:Yv}(a3:YT K YQ "counted"=some (some (.ref f3)))(l3:K.lookup f3=some ⟨Xf,Xc,.func (YI "counted" "counted" (av df) (ao df) (ag df) .none Xg Xh Xi Xd Vw Xj),Xe⟩)(c3:Ze K Vw "counted"=true)(k3:Y3 K (.ref f3)=true){f4:YM}{Xk Xl:Option YM}{Xm:Array (Option Yv)}{Xn Xo Xp Xq Vx Xr:Yv}(a4:YT K YQ "lessened"=some (some (.ref f4)))(l4:K.lookup f4=some ⟨Xn,Xk,.func (YI "lessened" "lessened" (av cq) (ao cq) (ag cq) .none Xo Xp Xq Xl Vx Xr),Xm⟩)(c4:Ze K Vx "lessened"=true)(k4:Y3 K (.ref f4)=true){f5:YM}{Xs Xt:Option YM}{Xu:Array (Option Yv)}{Xv Xw Xx Xy Vy Xz:Yv}(a5:YT K YQ "same"=some (some (.ref f5)))(l5:K.lookup f5=some ⟨Xv,Xs,.func (YI "same" "same" (av iT) (ao iT) (ag iT) .none Xw Xx Xy Xt Vy Xz),Xu⟩)(c5:Ze K Vy "same"=true)(k5:Y3 K (.ref f5)=true){f6:YM}{XA XB:Option YM}{XC:Array (Option Yv)}{XD XF XG XH Vz XI:Yv}(a6:YT K YQ "both"=some (some (.ref f6)))(l6:K.lookup f6=some ⟨XD,XA,.func (YI "both" "both" (av gH) (ao gH) (ag gH) .none XF XG XH XB Vz XI),XC⟩)(c6:Ze K Vz "both"=true)(k6:Y3 K (.ref f6)=true){f7:YM}{XJ XM:Option YM}{XN:Array (Option Yv)}{XO XQ XR XS VA XU:Yv}(a7:YT K YQ "_law_cell_at"=some (some (.ref f7)))(l7:K.lookup f7=some ⟨XO,XJ,.func (YI "_law_cell_at" "_law_cell_at" (av bO) (ao bO) (ag bO) .none XQ XR XS XM VA XU),XN⟩)(c7:Ze K VA "_law_cell_at"=true)(k7:Y3 K (.ref f7)=true){f8:YM}{XW XX:Option YM}{XY:Array (Option Yv)}{XZ X0 X1 X2 VB X3:Yv}(a8:YT K YQ "_law_state"=some (some (.ref f8)))(l8:K.lookup f8=some ⟨XZ,XW,.func (YI "_law_state" "_law_state" (av cu) (ao cu) (ag cu) .none X0 X1 X2 XX VB X3),XY⟩)(c8:Ze K VB "_law_state"=true)(k8:Y3 K (.ref f8)=true){f9:YM}{X4 X5:Option YM}{X6:Array (Option Yv)}{X7 X8 X9 X_ VC Ya:Yv}(a9:YT K YQ "_law_take"=some (some (.ref f9)))(l9:K.lookup f9=some ⟨X7,X4,.func (YI "_law_take" "_law_take" (av dg) (ao dg) (ag dg) .none X8 X9 X_ X5 VC Ya),X6⟩)(c9:Ze K VC "_law_take"=true)(k9:Y3 K (.ref f9)=true){RV:YM}{RW RX:Option YM}{RY:Array (Option Yv)}{RZ R0 R1 R3 O_ R4:Yv}(R5:YT K YQ "_law_order"=some (some (.ref RV)))(R6:K.lookup RV=some ⟨RZ,RW,.func (YI "_law_order" "_law_order" (av bV) (ao bV) (ag bV) .none R0 R1 R3 RX O_ R4),RY⟩)(R7:Ze K O_ "_law_order"=true)(R8:Y3 K (.ref RV)=true){R9:YM}{R_ Sa:Option YM}{Sb:Array (Option Yv)}{Sd Se Sf Sg Pa Si:Yv}(Sj:YT K YQ "_law_shuffle"=some (some (.ref R9)))(Sk:K.lookup R9=some ⟨Sd,R_,.func (YI "_law_shuffle" "_law_shuffle" (av aW) (ao aW) (ag aW) .none Se Sf Sg Sa Pa Si),Sb⟩)(Sl:Ze K Pa "_law_shuffle"=true)(Sn:Y3 K (.ref R9)=true){So:YM}{Sq Sr:Option YM}{Ss:Array (Option Yv)}{Su Sv Sw Sy Pb Sz:Yv}(SA:YT K YQ "_law_divisor"=some (some (.ref So)))(SD:K.lookup So=some ⟨Su,Sq,.func (YI "_law_divisor" "_law_divisor" (av bE) (ao bE) (ag bE) .none Sv Sw Sy Sr Pb Sz),Ss⟩)(SE:Ze K Pb "_law_divisor"=true)(SF:Y3 K (.ref So)=true){SG:YM}{SH SJ:Option YM}{SK:Array (Option Yv)}{SM SN SO SQ Pc SS:Yv}(SV:YT K YQ "_law_laid"=some (some (.ref SG)))(SW:K.lookup SG=some ⟨SM,SH,.func (YI "_law_laid" "_law_laid" (av cR) (ao cR) (ag cR) .none SN SO SQ SJ Pc SS),SK⟩)(SX:Ze K Pc "_law_laid"=true)(SY:Y3 K (.ref SG)=true){S0:YM}{S1 S2:Option YM}{S3:Array (Option Yv)}{S4 S5 S6 S7 Pd S8:Yv}(S9:YT K YQ "_law_lowest"=some (some (.ref S0)))(S_:K.lookup S0=some ⟨S4,S1,.func (YI "_law_lowest" "_law_lowest" (av bI) (ao bI) (ag bI) .none S5 S6 S7 S2 Pd S8),S3⟩)(Ta:Ze K Pd "_law_lowest"=true)(Tb:Y3 K (.ref S0)=true){Tc:YM}{Td Te:Option YM}{Tf:Array (Option Yv)}{Tg Th Ti Tj Pe Tn:Yv}(To:YT K YQ "_law_mark"=some (some (.ref Tc)))(Tp:K.lookup Tc=some ⟨Tg,Td,.func (YI "_law_mark" "_law_mark" (av dh) (ao dh) (ag dh) .none Th Ti Tj Te Pe Tn),Tf⟩)(Tq:Ze K Pe "_law_mark"=true)(Tr:Y3 K (.ref Tc)=true){Tt:YM}{Tu Tv:Option YM}{Tw:Array (Option Yv)}{Tx Tz TB TC Pf TF:Yv}(TH:YT K YQ "_law_same"=some (some (.ref Tt)))(TJ:K.lookup Tt=some ⟨Tx,Tu,.func (YI "_law_same" "_law_same" (av cD) (ao cD) (ag cD) .none Tz TB TC Tv Pf TF),Tw⟩)(TL:Ze K Pf "_law_same"=true)(TM:Y3 K (.ref Tt)=true){TN:YM}{TQ TR:Option YM}{TU:Array (Option Yv)}{TV TX TY TZ Pg T3:Yv}(T4:YT K YQ "_law_behind"=some (some (.ref TN)))(T5:K.lookup TN=some ⟨TV,TQ,.func (YI "_law_behind" "_law_behind" (av bJ) (ao bJ) (ag bJ) .none TX TY TZ TR Pg T3),TU⟩)(T6:Ze K Pg "_law_behind"=true)(T7:Y3 K (.ref TN)=true){T8:YM}{T9 T_:Option YM}{Ua:Array (Option Yv)}{Ub Uc Ud Ue Ph Ug:Yv}(Uh:YT K YQ "_law_told"=some (some (.ref T8)))(Ui:K.lookup T8=some ⟨Ub,T9,.func (YI "_law_told" "_law_told" (av di) (ao di) (ag di) .none Uc Ud Ue T_ Ph Ug),Ua⟩)(Uj:Ze K Ph "_law_told"=true)(Uk:Y3 K (.ref T8)=true){Ul:YM}{Um Uo:Option YM}{Up:Array (Option Yv)}{Uq Ur Us Ut Pj Uu:Yv}(Uv:YT K YQ "_law_like"=some (some (.ref Ul)))(Uw:K.lookup Ul=some ⟨Uq,Um,.func (YI "_law_like" "_law_like" (av dj) (ao dj) (ag dj) .none Ur Us Ut Uo Pj Uu),Up⟩)(Ux:Ze K Pj "_law_like"=true)(Uy:Y3 K (.ref Ul)=true){Uz:YM}{UA Pl:Option YM}{UB:Array (Option Yv)}{UC Pm Pn Po MD Pp:Yv}(Qc:YT K YQ "law"=some (some (.ref Uz)))(Qd:K.lookup Uz=some ⟨UC,UA,.func (YI "law" "law" (av kl) (ao kl) (ag kl) .none Pm Pn Po Pl MD Pp),UB⟩)(Qe:Ze K MD "law"=true)(Qf:Y3 K (.ref Uz)=true)(z_abs:YT K YQ "abs"=some none)(z_all:YT K YQ "all"=some none)(z_bool:YT K YQ "bool"=some none)(z_dict:YT K YQ "dict"=some none)(z_isinstance:YT K YQ "isinstance"=some none)(z_len:YT K YQ "len"=some none)(z_list:YT K YQ "list"=some none)(z_max:YT K YQ "max"=some none)(z_min:YT K YQ "min"=some none)(z_range:YT K YQ "range"=some none)(z_sorted:YT K YQ "sorted"=some none)(z_sum:YT K YQ "sum"=some none)(z_tuple:YT K YQ "tuple"=some none)(z_zip:YT K YQ "zip"=some none){jA:Tok}(g_MOST_ORDERS:YT K YQ "MOST_ORDERS"=some (some (.int 24 jA))){xi:YM}(qS:YT K YQ "NoPlan"=some (some (.ref xi))){AL:YM}(uZ:YT K YQ "NoWay"=some (some (.ref AL))){AM:YM}(u3:YT K YQ "NoEnd"=some (some (.ref AM))){nR:YM}(jB:YT K YQ "NoFormula"=some (some (.ref nR))){bf:YM}(jM:YT K YQ "TooMany"=some (some (.ref bf))){xj:YM}(qT:YT K YQ "NoName"=some (some (.ref xj))){sS:YM}(mS:YT K YQ "BadNote"=some (some (.ref sS))){nS:YM}(jC:YT K YQ "CardError"=some (some (.ref nS)))(Fw:PySem.W.excIn K bf Dy "ValueError.__new__"=true)(ME:aa8 K (.ref bf) "__getattribute__"=some (some (.builtin "BaseException.__getattribute__")))(MF:aa8 K (.ref bf) "__getattr__"=some none)(MG:aa8 K (.ref bf) "__class__"=some (some (.builtin "object.__class__")))(MJ:ad6 K (.builtin "object.__class__") "__get__"=some (some (.builtin "getset_descriptor.__get__")))(MK:PySem.W.takesIn K (.builtin "object.__class__")=some true)(Ib:PySem.W.mroIn K bf (.type "object")=some true)(ML:PySem.W.mroIn K bf (.type "BaseException")=some true)(yW:PySem.W.exmOne K (.ref bf) (.ref nS)=some true)(MM:aan K (.ref bf) (.type "ValueError")=some true)(Fx:YT K YQ "ValueError"=some none)(qU:aan K (.ref bf) (.ref xi)=some false)(u4:aan K (.ref bf) (.ref AL)=some false)(u5:aan K (.ref bf) (.ref AM)=some false)(jD:aan K (.ref bf) (.ref nR)=some false)(mT:aan K (.ref bf) (.ref bf)=some true)(qV:aan K (.ref bf) (.ref xj)=some false)(mU:aan K (.ref bf) (.ref sS)=some false)(hp:∀ns:List Int,ns.length≤63→wC [.scr (ns.map .int)]=.ok (.bl true))
  : ∃fd:ab7,(∀(s:YK) (v:Yv),BindsTo s fd ⟨[v],[]⟩ [("script",v)])∧∀base:abr,K.In base→base.Ns YQ mg→iU PySem.Challenge.pw_hushcards_k13_two_shuffles w K mg base s_ 22 fa fd ["script"] (vA K):=by
 have e:=WN.symm.trans (Y5 X G Qc)
 cases e
 have T:qC mg:=⟨Zu X G z_abs,Zu X G z_all,Zu X G z_bool,Zu X G z_dict,Zu X G z_isinstance,Zu X G z_len,Zu X G z_list,Zu X G z_max,Zu X G z_min,Zu X G z_range,Zu X G z_sorted,Zu X G z_sum,Zu X G z_tuple,Zu X G z_zip,⟨_,Y5 X G g_MOST_ORDERS⟩⟩
 have bZ:Df K mg "greatest_divisor" aK:=⟨_,_,Y5 X G a0,cf (st:=aK) l0 c0 k0⟩
 have gf:Df K mg "cards_at" cQ:=⟨_,_,Y5 X G a1,cf (st:=cQ) l1 c1 k1⟩
 have qQ:Df K mg "then" iS:=⟨_,_,Y5 X G a2,cf (st:=iS) l2 c2 k2⟩
 have ip:Df K mg "counted" df:=⟨_,_,Y5 X G a3,cf (st:=df) l3 c3 k3⟩
 have gj:Df K mg "lessened" cq:=⟨_,_,Y5 X G a4,cf (st:=cq) l4 c4 k4⟩
 have qR:Df K mg "same" iT:=⟨_,_,Y5 X G a5,cf (st:=iT) l5 c5 k5⟩
 have mR:Df K mg "both" gH:=⟨_,_,Y5 X G a6,cf (st:=gH) l6 c6 k6⟩
 have dG:Df K mg "_law_cell_at" bO:=⟨_,_,Y5 X G a7,cf (st:=bO) l7 c7 k7⟩
 have eJ:Df K mg "_law_state" cu:=⟨_,_,Y5 X G a8,cf (st:=cu) l8 c8 k8⟩
 have fj:Df K mg "_law_take" dg:=⟨_,_,Y5 X G a9,cf (st:=dg) l9 c9 k9⟩
 have eK:Df K mg "_law_order" bV:=⟨_,_,Y5 X G R5,cf (st:=bV) R6 R7 R8⟩
 have dH:Df K mg "_law_shuffle" aW:=⟨_,_,Y5 X G Sj,cf (st:=aW) Sk Sl Sn⟩
 have dI:Df K mg "_law_divisor" bE:=⟨_,_,Y5 X G SA,cf (st:=bE) SD SE SF⟩
 have fm:Df K mg "_law_laid" cR:=⟨_,_,Y5 X G SV,cf (st:=cR) SW SX SY⟩
 have dY:Df K mg "_law_lowest" bI:=⟨_,_,Y5 X G S9,cf (st:=bI) S_ Ta Tb⟩
 have jw:Df K mg "_law_mark" dh:=⟨_,_,Y5 X G To,cf (st:=dh) Tp Tq Tr⟩
 have ei:Df K mg "_law_same" cD:=⟨_,_,Y5 X G TH,cf (st:=cD) TJ TL TM⟩
 have d4:Df K mg "_law_behind" bJ:=⟨_,_,Y5 X G T4,cf (st:=bJ) T5 T6 T7⟩
 have jx:Df K mg "_law_told" di:=⟨_,_,Y5 X G Uh,cf (st:=di) Ui Uj Uk⟩
 have fo:Df K mg "_law_like" dj:=⟨_,_,Y5 X G Uv,cf (st:=dj) Uw Ux Uy⟩
 have VD:Df K mg "law" kl:=⟨_,_,Y5 X G Qc,cf (st:=kl) Qd Qe Qf⟩
 have FL:=cf (st:=kl) Qd Qe Qf
 refine⟨YI "law" "law" (av kl) (ao kl) (ag kl) .none Pm Pn Po Pl MD Pp,fun s v=>.of_eq rfl,fun base _ _ => ?_⟩
 have XT:DF K mg bf "TooMany" MS:=⟨Y5 X G jM,Fw,⟨Lm Ib,ME,MF,MG,MJ,MK,Ib,ML⟩,⟨_,Y5 X G jC,yW⟩,MM,Zu X G Fx,by
  intro p hp
  simp only[MS,YU,ac3,or_false] at hp
  rcases hp with rfl|rfl|rfl|rfl|rfl|rfl|rfl
  ·exact⟨_,Y5 X G qS,qU⟩
  ·exact⟨_,Y5 X G uZ,u4⟩
  ·exact⟨_,Y5 X G u3,u5⟩
  ·exact⟨_,Y5 X G jB,jD⟩
  ·exact⟨_,Y5 X G jM,mT⟩
  ·exact⟨_,Y5 X G qT,qV⟩
  ·exact⟨_,Y5 X G mS,mU⟩⟩
 exact LW (P:=PySem.Challenge.pw_hushcards_k13_two_shuffles) (w:=w) (base:=base) T XT FL bZ gf qQ ip gj qR mR dG eJ fj eK dH dI fm dY jw ei d4 jx fo hp
end Hc
namespace Hc.Cn
open L2 Hc.Ts
noncomputable abbrev Rw:=List Int
noncomputable abbrev Dc:=List (Rw×Int)
noncomputable def dX (d:Dc)(k:Rw):Int:=((d.find? fun p=>decide (p.1=k)).map (·.2)).getD 0
noncomputable def iL (d:Dc)(k:Rw)(v:Int):Dc:=if k∈d.map (·.1) then d.map (fun p=>if p.1=k then (p.1,v) else p) else d++[(k,v)]
noncomputable def mJ (d:Dc)(k:Rw)(w:Int):Dc:=iL d k (dX d k+w)
noncomputable def gy (d:Dc)(f:Rw→Int):Int:=(d.map fun p=>p.2*f p.1).sum
noncomputable def Nd (d:Dc):Prop:=(d.map (·.1)).Nodup
noncomputable def Ps (d:Dc):Prop:=∀p∈d,1≤p.2
theorem fQ (p:Rw×Int)(d:Dc)(k:Rw):dX (p::d) k=if p.1=k then p.2 else dX d k:=by
 unfold dX
 rw[Z9]
 by_cases c:p.1=k
 ·rw[decide_eq_true c,if_pos c];rfl
 ·rw[decide_eq_false c,if_neg c]
theorem eI:∀{d:Dc} {k:Rw},k∉d.map (·.1)→dX d k=0
 | [],_,_=>rfl
 |p::d,k,h=>by
  rw[Yw,YU,not_or] at h
  rw[fQ,if_neg (fun e=>h.1 e.symm),eI h.2]
theorem ij:∀{d:Dc} {p:Rw×Int},Nd d→p∈d→dX d p.1=p.2
 |q::d,p,n,h=>by
  unfold Nd at n
  rw[Yw,aaD] at n
  rw[fQ]
  rcases YU.mp h with rfl|h
  ·rw[if_pos rfl]
  ·have:q.1≠p.1:=fun e=>n.1 (e▸ZG h)
   rw[if_neg this]
   exact ij n.2 h
theorem jH {d:Dc}{k:Rw}(h:k∈d.map (·.1)):(k,dX d k)∈d:=by
 induction d with
 |nil=>cases h
 |cons q d ih =>
  rw[fQ]
  by_cases c:q.1=k
  ·rw[if_pos c,←c];exact YO
  ·rw[if_neg c]
   rw[Yw,YU] at h
   rcases h with h|h
   ·exact absurd h.symm c
   ·exact YS _ (ih h)
theorem qF (d:Dc)(k:Rw)(v:Int):(iL d k v).map (·.1)=if k∈d.map (·.1) then d.map (·.1) else d.map (·.1)++[k]:=by
 unfold iL
 split
 ·rw[Zc]
  apply Zv
  intro p _
  show (if p.1=k then (p.1,v) else p).1=p.1
  split<;>rfl
 ·rw[Y2];rfl
theorem LX {d:Dc}(k:Rw)(v:Int)(h:Nd d):Nd (iL d k v):=by
 unfold Nd at h ⊢
 rw[qF]
 split
 ·exact h
 ·rename_i c
  exact aea.mpr ⟨h,by simp,fun a ha b hb=>by
   rw[Zt] at hb
   subst hb
   exact fun e=>c (e▸ha)⟩
theorem LY {d:Dc}{k:Rw}{v:Int}(h:Ps d)(hv:1≤v):Ps (iL d k v):=by
 unfold iL
 intro p hp
 split at hp
 ·obtain⟨q,hq,rfl⟩:=Y9.mp hp
  split
  ·exact hv
  ·exact h q hq
 ·rcases Y4.mp hp with hp|hp
  ·exact h p hp
  ·rw[Zt] at hp;subst hp;exact hv
theorem wJ {d:Dc}(h:Ps d)(k:Rw):0≤dX d k:=by
 by_cases c:k∈d.map (·.1)
 ·have:=h _ (jH c);lia
 ·rw[eI c];exact Int.le_refl _
theorem sum_append (a b:List Int):(a++b).sum=a.sum+b.sum:=List.sum_append
theorem wK:∀{d:Dc} {k:Rw} {v:Int} (f:Rw→Int),Nd d→k∈d.map (·.1)→gy (d.map fun p=>if p.1=k then (p.1,v) else p) f=gy d f+(v - dX d k)*f k
 |q::d,k,v,f,n,h=>by
  unfold Nd at n
  rw[Yw,aaD] at n
  unfold gy
  rw[Yw,Yw,Yw,ZH,ZH,fQ]
  by_cases c:q.1=k
  ·rw[if_pos c,if_pos c]
   have e:(d.map fun p=>if p.1=k then (p.1,v) else p)=d:=by
    conv=>rhs;rw[←List.map_id d]
    apply Zv
    intro p hp
    rw[if_neg (fun z=>n.1 (by rw[c,←z];exact ZG hp))];rfl
   rw[e,c]
   show v*f k+_=q.2*f k+_+(v - q.2)*f k
   rw[Int.sub_mul];lia
  ·rw[if_neg c,if_neg c]
   have h':k∈d.map (·.1):=by
    rw[Yw,YU] at h
    rcases h with h|h
    ·exact absurd h.symm c
    ·exact h
   have:=wK (v:=v) f n.2 h'
   unfold gy at this
   rw[this];lia
theorem EV {d:Dc}(k:Rw)(w:Int)(f:Rw→Int)(n:Nd d):gy (mJ d k w) f=gy d f+w*f k:=by
 unfold mJ iL
 split
 ·rename_i c
  rw[wK f n c]
  congr 2;lia
 ·rename_i c
  unfold gy
  rw[Y2,sum_append,eI c]
  simp
noncomputable def bh (d:Dc)(ws:List (Rw×Int)):Dc:=ws.foldl (fun d p=>mJ d p.1 p.2) d
theorem jI:∀(ws:List (Rw×Int)) {d:Dc},Nd d→Ps d→(∀p∈ws,1≤p.2)→Nd (bh d ws)∧Ps (bh d ws)∧∀f,gy (bh d ws) f=gy d f+(ws.map fun p=>p.2*f p.1).sum
 | [],d,n,p,_=>⟨n,p,fun f=>by show gy d f=_;simp⟩
 |q::ws,d,n,p,h=>by
  have n1:Nd (mJ d q.1 q.2):=LX _ _ n
  have p1:Ps (mJ d q.1 q.2):=LY p (by have:=wJ p q.1;have:=h q YO;lia)
  obtain⟨a,b,c⟩:=jI ws n1 p1 fun x hx=>h x (YS _ hx)
  refine⟨a,b,fun f => ?_⟩
  show gy (bh (mJ d q.1 q.2) ws) f=_
  rw[c f,EV _ _ _ n,Yw,ZH];lia
theorem wL {d:Dc}(n:Nd d)(k:Rw):gy d (fun x=>if x=k then 1 else 0)=dX d k:=by
 induction d with
 |nil=>rfl
 |cons q d ih =>
  have n':=n
  unfold Nd at n'
  rw[Yw,aaD] at n'
  have:=ih n'.2
  unfold gy at this ⊢
  rw[Yw,ZH,this,fQ]
  show q.2*(if q.1=k then 1 else 0)+_=_
  by_cases c:q.1=k
  ·rw[if_pos c,if_pos c,eI (c▸n'.1)];lia
  ·rw[if_neg c,if_neg c];lia
theorem qG:∀{d:Dc},Nd d→d.Nodup
 | [],_=>abA
 |q::d,n=>by
  unfold Nd at n
  rw[Yw,aaD] at n
  exact aaD.mpr ⟨fun h=>n.1 (ZG h),qG n.2⟩
theorem Hx {d e:Dc}(nd:Nd d)(ne:Nd e)(pd:Ps d)(pe:Ps e)(h:∀f,gy d f=gy e f):d.Perm e:=by
 have half:∀{d e:Dc},Nd d→Nd e→Ps d→(∀f,gy d f=gy e f)→∀p∈d,p∈e:=by
  intro d e nd ne pd h p hp
  have g1:=ij nd hp
  have g2:=h fun x=>if x=p.1 then 1 else 0
  rw[wL nd,wL ne,g1] at g2
  by_cases c:p.1∈e.map (·.1)
  ·have:=jH c
   rw[←g2] at this;exact this
  ·rw[eI c] at g2
   have:=pd p hp
   lia
 exact (List.perm_ext_iff_of_nodup (qG nd) (qG ne)).mpr fun p=>⟨half nd ne pd h p,half ne nd pe (fun f=>(h f).symm) p⟩
theorem BY {d e:Dc}(p:d.Perm e)(n:Nd d)(k:Rw):dX d k=dX e k:=by
 have ne:Nd e:=(p.map (fun q:Rw×Int=>q.1)).nodup_iff.mp n
 by_cases c:k∈d.map (·.1)
 ·have h1:=jH c
  exact (ij ne (p.mem_iff.mp h1)).symm
 ·rw[eI c,eI fun z=>c ((p.map (·.1)).mem_iff.mpr z)]
noncomputable def iY (d:Dc):Nat:=(d.map fun p=>p.2.toNat).foldl ac4 0
theorem BZ {d e:Dc}(p:d.Perm e):iY d=iY e:=by
 unfold iY
 refine (p.map fun p=>p.2.toNat).foldl_eq' (fun a _ b _ z => ?_) 0
 rw[Nat.gcd_assoc,Nat.gcd_assoc,Nat.gcd_comm a b]
noncomputable def aR (d:Dc):Dc:=d.map fun p=>(p.1,p.2 / (iY d:Int))
theorem yK {d e:Dc}(p:d.Perm e):(aR d).Perm (aR e):=by
 unfold aR
 rw[BZ p]
 exact p.map _
noncomputable def jq (d:Dc):Int:=(d.map (·.2)).sum
theorem wM {a b:List Int}(p:a.Perm b):a.sum=b.sum:=by
 induction p with
 |nil=>rfl
 |cons x _ ih=>rw[ZH,ZH,ih]
 |swap x y l=>rw[ZH,ZH,ZH,ZH];lia
 |trans _ _ i1 i2=>rw[i1,i2]
theorem B0 {d e:Dc}(p:d.Perm e):jq d=jq e:=wM (p.map (·.2))
noncomputable def kn (d:Dc):List Rw:=(eN (d.map (·.1))).flatMap fun k=>Zh (dX d k).toNat k
theorem rD {a b:List Rw}(p:a.Perm b):eN a=eN b:=ux (((dD a).trans p).trans (dD b).symm) (lK a) (lK b)
theorem B1 {d e:Dc}(p:d.Perm e)(n:Nd d):kn d=kn e:=by
 unfold kn
 rw[rD (p.map (·.1))]
 congr 1
 funext k
 rw[BY p n]
theorem Hy {d:Dc}(n:Nd d)(p:∀q∈d,0≤q.2):((kn d).length:Int)=jq d:=by
 have e1:∀l:List Rw,((l.flatMap fun k=>Zh (dX d k).toNat k).length:Int)=(l.map fun k=>((dX d k).toNat:Int)).sum:=by
  intro l
  induction l with
  |nil=>rfl
  |cons k l ih=>rw[abn,Yu,aaj,Yw,ZH,←ih];lia
 unfold kn
 rw[e1,wM ((dD _).map _),Zc]
 unfold jq
 congr 1
 apply Zv
 intro q hq
 show ((dX d q.1).toNat:Int)=q.2
 rw[ij n hq]
 have:=p q hq
 lia
theorem oQ {d:Dc}(n:Nd d):Nd (aR d):=by
 unfold Nd aR at *
 rw[Zc];exact n
noncomputable def a_ (l:List Rw):Dc:=bh [] (l.map fun x=>(x,1))
theorem mK:Nd []∧Ps []:=⟨abA,fun p hp=>by cases hp⟩
theorem ko (l:List Rw):Nd (a_ l)∧Ps (a_ l)∧∀f,gy (a_ l) f=(l.map f).sum:=by
 obtain⟨a,b,c⟩:=jI (l.map fun x=>(x,(1:Int))) mK.1 mK.2 fun p hp=>by
  obtain⟨x,_,rfl⟩:=Y9.mp hp
  exact Int.le_refl _
 refine⟨a,b,fun f => ?_⟩
 have:=c f
 rw[Zc] at this
 unfold a_
 rw[this]
 show (0:Int)+_=_
 rw[Int.zero_add]
 congr 1
 apply Zv
 intro x _
 show 1*f x=f x
 lia
noncomputable def dP (yX:Rw→Rw→Rw)(c e:Dc):List (Rw×Int):=c.flatMap fun a=>e.map fun b=>(yX a.1 b.1,a.2*b.2)
theorem qH {α β:Type}(g:α→List β)(h:β→Int):∀l:List α,((l.flatMap g).map h).sum=(l.map fun a=>((g a).map h).sum).sum
 | []=>rfl
 |a::l=>by rw[abn,Y2,sum_append,Yw,ZH,qH g h l]
theorem Ap (k:Int):∀l:List Int,(l.map fun x=>k*x).sum=k*l.sum
 | []=>by simp
 |x::l=>by rw[Yw,ZH,ZH,Ap k l,Int.mul_add]
theorem B2 (yX:Rw→Rw→Rw)(c e:Dc)(f:Rw→Int):((dP yX c e).map fun p=>p.2*f p.1).sum=gy c fun a=>gy e fun b=>f (yX a b):=by
 unfold dP
 rw[qH]
 unfold gy
 congr 1
 apply Zv
 intro a _
 rw[Zc,←Ap,Zc]
 congr 1
 apply Zv
 intro b _
 show a.2*b.2*f (yX a.1 b.1)=a.2*(b.2*f (yX a.1 b.1))
 exact Int.mul_assoc ..
noncomputable def ik (yX:Rw→Rw→Rw)(l m:List Rw):List Rw:=l.flatMap fun a=>m.map fun b=>yX a b
theorem sJ {yX:Rw→Rw→Rw}{c e:Dc}(pc:Ps c)(pe:Ps e):∀p∈dP yX c e,1≤p.2:=by
 intro p hp
 obtain⟨a,ha,hp⟩:=List.mem_flatMap.mp hp
 obtain⟨b,hb,rfl⟩:=Y9.mp hp
 have h1:=pc a ha
 have h2:=pe b hb
 show 1≤a.2*b.2
 have:=Int.mul_le_mul h1 h2 (by lia) (by lia)
 lia
theorem sL (yX:Rw→Rw→Rw)(l m:List Rw):(bh [] (dP yX (a_ l) (a_ m))).Perm (a_ (ik yX l m)):=by
 obtain⟨n1,p1,s1⟩:=ko l
 obtain⟨n2,p2,s2⟩:=ko m
 obtain⟨n3,p3,s3⟩:=ko (ik yX l m)
 obtain⟨n4,p4,s4⟩:=jI (dP yX (a_ l) (a_ m)) mK.1 mK.2 (sJ p1 p2)
 refine Hx n4 n3 p4 p3 fun f => ?_
 rw[s4 f,s3 f,B2,s1]
 show (0:Int)+_=_
 rw[Int.zero_add]
 unfold ik
 rw[qH]
 congr 1
 apply Zv
 intro a _
 rw[s2,Zc]
 rfl
theorem Aq (l:List Rw):jq (a_ l)=l.length:=by
 obtain⟨n,p,s⟩:=ko l
 have:=s fun _=>1
 unfold gy at this
 unfold jq
 have e:((a_ l).map fun p=>p.2*1)=(a_ l).map (·.2):=by
  apply Zv
  intro p _;lia
 rw[e] at this
 rw[this]
 clear this e s p n
 induction l with
 |nil=>rfl
 |cons x l ih=>rw[Yw,ZH,ih,YN];lia
theorem LZ {l:List Int}(h:∀x∈l,0≤x):∀x∈l,x≤l.sum:=by
 induction l with
 |nil=>intro x hx;cases hx
 |cons y l ih =>
  intro x hx
  have hl:0≤l.sum:=by
   clear ih hx
   induction l with
   |nil=>exact Int.le_refl _
   |cons z l ih2 =>
    rw[ZH]
    have:=ih2 fun w hw=>h w (by rcases YU.mp hw with e|e;exact e▸YO;exact YS _ (YS _ e))
    have:=h z (YS _ YO)
    lia
  rw[ZH]
  rcases YU.mp hx with rfl|hx
  ·lia
  ·have:=ih (fun w hw=>h w (YS _ hw)) x hx
   have:=h y YO
   lia
theorem L3 {d:Dc}(p:Ps d):∀q∈d,q.2≤jq d:=fun q hq=>LZ (fun x hx=>by
 obtain⟨r,hr,rfl⟩:=Y9.mp hx
 have:=p r hr;lia) q.2 (ZG hq)
theorem qI:∀{d:Dc},Ps d→(d.length:Int)≤jq d
 | [],_=>Int.le_refl _
 |q::d,p=>by
  have:=qI (d:=d) fun r hr=>p r (YS _ hr)
  have:=p q YO
  unfold jq at *
  rw[YN,Yw,ZH];lia
end Hc.Cn
variable {d:Hc.Cn.Dc}
namespace Hc
open L2
open Hc.Cn Hc.Ts
noncomputable def DU (d:Dc):U:=.dct (d.map fun p=>au p.1) (d.map fun p=>.int p.2)
noncomputable def iM (d:Dc):List U:=d.map fun p=>au p.1
noncomputable def kC (d:Dc):List U:=d.map fun p=>U.int p.2
theorem U0 (d:Dc):DU d=.dct (iM d) (kC d):=rfl
theorem Ar:∀{a b:List Int},a.map U.int=b.map U.int→a=b
 | [],[],_=>rfl
 | [],_::_,h=>by cases h
 |_::_,[],h=>by cases h
 |x::a,y::b,h=>by
  rw[Yw,Yw] at h
  injection h with h1 h2
  cases h1
  rw[Ar h2]
theorem jr {a b:List Int}:au a=au b↔a=b:=by
 constructor
 ·intro h
  unfold au at h
  injection h with h
  exact Ar h
 ·intro h;rw[h]
theorem uL {k:List Int}:au k∈iM d↔k∈d.map (·.1):=by
 unfold iM
 constructor
 ·intro h
  obtain⟨p,hp,e⟩:=Y9.mp h
  rw[←jr.mp e];exact ZG hp
 ·intro h
  obtain⟨p,hp,rfl⟩:=Y9.mp h
  exact ZG hp
theorem EW (d:Dc)(k:List Int)(v:Int):gE (iM d) (au k)=iM (iL d k v):=by
 unfold gE
 have e:iM (iL d k v)=((iL d k v).map (·.1)).map au:=by unfold iM;rw[Zc];rfl
 rw[e,qF]
 by_cases c:k∈d.map (·.1)
 ·rw[if_pos (uL.mpr c),if_pos c];unfold iM;rw[Zc];rfl
 ·rw[if_neg (fun z=>c (uL.mp z)),if_neg c,Y2];unfold iM;rw[Zc];rfl
theorem EX (k:List Int)(v:Int):∀d:Dc,aaT (fun a u=>if a=au k then U.int v else u) (iM d) (kC d)=kC (d.map fun p=>if p.1=k then (p.1,v) else p)
 | []=>rfl
 |p::d=>by
  have ih:=EX k v d
  unfold iM kC at ih ⊢
  rw[Yw,Yw,Yw,Yw,aaZ,ih]
  congr 1
  by_cases c:p.1=k
  ·rw[if_pos (jr.mpr c),if_pos c]
  ·rw[if_neg (fun z=>c (jr.mp z)),if_neg c]
theorem EY (d:Dc)(k:List Int)(v:Int):fg (iM d) (kC d) (au k) (.int v)=kC (iL d k v):=by
 unfold fg iL
 by_cases c:k∈d.map (·.1)
 ·rw[if_pos (uL.mpr c),if_pos c,EX]
 ·rw[if_neg (fun z=>c (uL.mp z)),if_neg c];unfold kC;rw[Y2];rfl
theorem yL (k:List Int):∀d:Dc,gu (iM d) (kC d) (au k)=if k∈d.map (·.1) then some (.int (dX d k)) else none
 | []=>rfl
 |p::d=>by
  have ih:=yL k d
  unfold iM kC at ih ⊢
  rw[Yw,Yw]
  unfold gu
  rw[ih,fQ]
  by_cases c:p.1=k
  ·rw[if_pos (jr.mpr c),if_pos (by rw[Yw,c];exact YO),if_pos c]
  ·rw[if_neg (fun z=>c (jr.mp z)),if_neg c]
   by_cases c2:k∈d.map (·.1)
   ·rw[if_pos c2,if_pos (by rw[Yw];exact YS _ c2)]
   ·rw[if_neg c2,if_neg (by rw[Yw,YU,not_or];exact⟨fun z=>c z.symm,c2⟩)]
theorem wN:∀l:List Int,vJ (l.map U.int)=true
 | []=>rfl
 |x::l=>by rw[Yw];unfold vJ;rw[wN l];rfl
theorem wO:∀l:List Int,rf (l.map U.int)=0
 | []=>rfl
 |x::l=>by rw[Yw];unfold rf;rw[wO l];rfl
theorem wQ (k:List Int):Bs (au k)=true:=by
 show (vJ (k.map U.int)&&decide (rf (k.map U.int)≤6))=true
 rw[wN,wO];rfl
theorem OE (d:Dc):(iM d).all GO=true:=ZN.mpr fun u hu=>by
 obtain⟨p,_,rfl⟩:=Y9.mp hu;rfl
theorem OF (d:Dc):(iM d).all Oy=true:=ZN.mpr fun u hu=>by
 obtain⟨p,_,rfl⟩:=Y9.mp hu;rfl
theorem uM (d:Dc)(k:List Int):kZ (iM d) (au k)=true:=by
 unfold kZ;rw[wQ,OE];exact Bool.or_true _
theorem kq (h:d≠[]):oP (iM d)=true:=by
 unfold oP;rw[OF]
 cases d with
 |nil=>exact absurd rfl h
 |cons=>rfl
noncomputable def Rg (i:Nat)(v k:U)(ρ:Ev)(o:Option (Option U)):SR:=match o with
 |some (some (.dct ks us))=>if kZ ks k=true∧us.length<Yx then .nx (ρ.set i (some (.dct (gE ks k) (fg ks us k v)))) else .stk
 |_=>.stk
theorem uN {gv gk:Ev→R (U×Ev)}:eQ i gv gk ρ=SR.of (gv ρ) fun x=>if zH x.2[i]? = true then SR.of (gk x.2) fun y=>Rg i x.1 y.1 y.2 y.2[i]? else .stk:=nr rfl
theorem oR (h:d.length<1000000){v:Int}{k:List Int}:Rg i (.int v) (au k) ρ (some (some (DU d)))=.nx (ρ.set i (some (DU (iL d k v)))):=by
 have sz:Yx=16777216:=rfl
 have:Rg i (.int v) (au k) ρ (some (some (DU d)))=.nx (ρ.set i (some (.dct (gE (iM d) (au k)) (fg (iM d) (kC d) (au k) (.int v))))):=if_pos ⟨uM d k,by show (kC d).length<_;unfold kC;rw[Yp,sz];lia⟩
 rw[this,EW d k v,EY];rfl
noncomputable def Rh (k x:U)(ρ:Ev)(o:Option (Option U)):R (U×Ev):=match o with
 |some (some (.dct ks us))=>if kZ ks k=true then .ok ((gu ks us k).getD x,ρ) else .stk
 |_=>.stk
noncomputable def U1 (i:Nat)(g2 g3:Ev→R (U×Ev))(ρ:Ev)(o:Option (Option U)):R (U×Ev):=match o with
 |some (some (.dct _ _))=>(g2 ρ).bind fun k=>(g3 k.2).bind fun x=>Rh k.1 x.1 x.2 x.2[i]?
 |_=>.stk
theorem uO {g2 g3:Ev→R (U×Ev)}:fA i g2 g3 ρ=U1 i g2 g3 ρ ρ[i]? := nr rfl
theorem uP {g2 g3:Ev→R (U×Ev)}:U1 i g2 g3 ρ (some (some (DU d)))=(g2 ρ).bind fun k=>(g3 k.2).bind fun x=>Rh k.1 x.1 x.2 x.2[i]? := nr rfl
theorem uQ {k:List Int}:Rh (au k) (.int 0) ρ (some (some (DU d)))=.ok (.int (dX d k),ρ):=by
 refine (if_pos (uM d k)).trans ?_
 rw[show gu (d.map fun p=>au p.1) (d.map fun p=>.int p.2) (au k)=_ from yL k d]
 split
 ·rfl
 ·rename_i c;rw[eI c];rfl
theorem kr (ws:List (List Int×Int)):(bh [] ws).length≤ws.length:=by
 have:∀(ws:List (List Int×Int)) (d:Dc),(bh d ws).length≤d.length+ws.length:=by
  intro ws
  induction ws with
  |nil=>intro d;exact YC _
  |cons p ws ih =>
   intro d
   have h1:=ih (mJ d p.1 p.2)
   have h2:(mJ d p.1 p.2).length≤d.length+1:=by
    unfold mJ iL;split
    ·rw[Yp];lia
    ·rw[Yu,Z0];exact YC _
   rw[YN]
   show (bh (mJ d p.1 p.2) ws).length≤_
   lia
 have:=this ws []
 simpa using this
theorem nM (d:Dc)(ws:List (List Int×Int))(p:List Int×Int):bh d (ws++[p])=mJ (bh d ws) p.1 p.2:=by
 unfold bh;rw[acQ];rfl
noncomputable def SU (ss:List (List Int)):U:=.tup (ss.map au)
theorem wR {s:Nat}{x:U}(ss:List (List Int))(hl:ss.length<100000)(mk:Dc→Option U→Ev)(step:∀(d:Dc) (o:Option U) (k:List Int),d.length<1000000→∃ρ1,cF j (au k) (mk d o)=.ok ρ1∧eQ i (aZ bR (fA i (ae j) (gC (.int 0))) (gC (.int 1))) (ae j) ρ1=.nx (mk (iL d k (dX d k+1)) (some (au k))))(o:Option U) :
  ∃o',eM (cF j) (eQ i (aZ bR (fA i (ae j) (gC (.int 0))) (gC (.int 1))) (ae j)) (ss.map au) (mk [] o)=.nx (mk (a_ ss) o'):=by
 obtain⟨ρ',e1,o',e2⟩:=cN (us:=ss.map au) (sg:=cF j) (s:=eQ i (aZ bR (fA i (ae j) (gC (.int 0))) (gC (.int 1))) (ae j))
  (fun n ρ=>∃o,ρ=mk (bh [] ((ss.take n).map fun x=>(x,1))) o)
  (fun n u ρ hu h00=>by
   obtain⟨o,hr⟩:=h00
   subst hr
   have hn:n<ss.length:=by have:=(YD.mp hu).1;rwa [Yp] at this
   rw[YH,Ys hn] at hu
   obtain rfl:au ss[n]=u:=by injection hu
   obtain⟨ρ1,a,b⟩:=step (bh [] ((ss.take n).map fun x=>(x,1))) o ss[n] (acq (kr _) (by rw[Yp,YJ];lia))
   refine⟨ρ1,_,a,.inl b,some (au ss[n]),?_⟩
   rw[Y_ hn,Y2]
   show _=mk (bh [] (_++[(ss[n],1)])) _
   rw[nM];rfl)
  (ρ:=mk [] o) ⟨o,rfl⟩
 refine⟨o',?_⟩
 rw[e1,e2,Yp,ZU];rfl
theorem iN {x:U}{ss:List (List Int)}(hx:x_ x=fun ρ=>.ok (ss.map au,ρ))(hl:ss.length<100000):bM [x]=.ok (DU (a_ ss)):=by
 obtain⟨o',e⟩:=wR (s:=0) (x:=x) (i:=1) (j:=2) ss hl (fun d o=>[some x,some (DU d),o]) (fun d o k hd=>⟨[some x,some (DU d),some (au k)],rfl,by
  simp only[aB,dE,cA,Nat.reduceAdd,Nat.reduceSub,uN,uO,uP,uQ,oR hd]⟩) none
 have e0:DU []=.dct [] []:=rfl
 rw[e0] at e
 unfold bM mH
 simp only[aB,dE,cA,Nat.reduceAdd,Nat.reduceSub,hx,e]
theorem wU {a b:Int}(h0:0≤a)(h1:0<b):(ac4 b.toNat (a % b).toNat)=ac4 a.toNat b.toNat:=by
 obtain⟨n,rfl⟩:∃n:Nat,a=n:=⟨a.toNat,by lia⟩
 obtain⟨m,rfl⟩:∃m:Nat,b=m:=⟨b.toNat,by lia⟩
 have e:((n:Int) % (m:Int)).toNat=n % m:=by rw[←Int.natCast_emod];rfl
 rw[e,ZC,ZC,Nat.gcd_comm m (n % m),←Nat.gcd_rec,Nat.gcd_comm]
theorem As {i:Int}(h:0≤i):vD [.int i]=.ok (.int i):=by
 have e:vD [.int i]=.ok (.int (if i<0 then -i else i)):=nr rfl
 rw[e,if_neg (by lia)]
theorem Au:∀(n:Nat) (a b:Int) (o:Option U),0≤a→0≤b→b<n→∃o',ft (gB (aZ (gP not) (ae 1) (gC (.int 0)))) (aN (bj 2 (aZ n6 (ae 0) (ae 1))) (aN (bj 0 (ae 1)) (bj 1 (ae 2)))) n [some (.int a),some (.int b),o]=.nx [some (.int (ac4 a.toNat b.toNat)),some (.int 0),o']
 |0,a,b,o,h0,h1,h2=>by lia
 |n+1,a,b,o,h0,h1,h2=>by
  by_cases c:b=0
  ·subst c
   refine⟨o,?_⟩
   have:((ac4 a.toNat (0:Int).toNat:Nat):Int)=a:=by rw[show (0:Int).toNat=0 from rfl,Nat.gcd_zero_right];lia
   rw[this]
   simp only[aB,dE,cA,Nat.reduceAdd,Nat.reduceSub,cL,Int.reduceBEq,oM]
  ·have hb:0<b:=by lia
   obtain⟨o',e⟩:=Au n b (a % b) (some (.int (a % b))) h1 (abo _ c) (by have:=aaK a hb;lia)
   refine⟨o',?_⟩
   rw[wU h0 hb] at e
   have cb:(b==0)=false:=beq_eq_false_iff_ne.mpr c
   simp only[aB,dE,cA,Nat.reduceAdd,Nat.reduceSub,cL,cb,oM,decide_eq_true hb,e]
theorem OG {a b:Int}(h0:0≤a)(h1:0≤b)(h2:b<1000):bH [.int a,.int b]=.ok (.int (ac4 a.toNat b.toNat)):=by
 obtain⟨o',e⟩:=Au 1000 a b none h0 h1 h2
 unfold bH d6
 simp only[aB,dE,cA,Nat.reduceAdd,Nat.reduceSub,As h0,As h1,e]
theorem Av:∀(n:Nat) (a b:Int),0≤a→0≤b→b<n→ft (gB (aZ GG (ae 1) (gC (.int 0)))) (Bl 0 1 (aa (ae 1) (aa (aZ n6 (ae 0) (ae 1)) ak))) n [some (.int a),some (.int b)]=.nx [some (.int (ac4 a.toNat b.toNat)),some (.int 0)]
 |0,a,b,h0,h1,h2=>by lia
 |n+1,a,b,h0,h1,h2=>by
  by_cases c:b=0
  ·subst c
   have:((ac4 a.toNat (0:Int).toNat:Nat):Int)=a:=by rw[show (0:Int).toNat=0 from rfl,Nat.gcd_zero_right];lia
   rw[this]
   simp only[aB,dE,cA,Nat.reduceAdd,Nat.reduceSub,Int.reduceLT,decide_false,oM]
  ·have hb:0<b:=by lia
   have e:=Av n b (a % b) h1 (abo _ c) (by have:=aaK a hb;lia)
   rw[wU h0 hb] at e
   simp only[aB,dE,cA,Nat.reduceAdd,Nat.reduceSub,oM,decide_eq_true hb,e]
theorem OH {a b:Int}(h0:0≤a)(h1:0≤b)(h2:b<1000):cP [.int a,.int b]=.ok (.int (ac4 a.toNat b.toNat)):=by
 have e:=Av 1000 a b h0 h1 h2
 unfold cP gc
 simp only[aB,dE,cA,Nat.reduceAdd,Nat.reduceSub,As h0,As h1,e]
end Hc
namespace Hc
open L2
open Hc.Cn Hc.Ts
noncomputable def U2 (u:U)(ρ:Ev):R (List U×Ev):=match u with
 | .dct ks us=>if oP ks=true then .ok (us,ρ) else .stk
 |_=>.stk
noncomputable def U3 (u:U)(ρ:Ev):R (List U×Ev):=match u with
 | .dct ks _=>if oP ks=true then .ok (ks,ρ) else .stk
 |_=>.stk
noncomputable def U4 (u:U)(ρ:Ev):R (List U×Ev):=match u with
 | .dct ks us=>if oP ks=true then .ok (aaT (fun k u=>.tup [k,u]) ks us,ρ) else .stk
 |_=>.stk
theorem Ri {g:Ev→R (U×Ev)}:Ra g ρ=(g ρ).bind fun x=>U2 x.1 x.2:=nr rfl
theorem Rj {g:Ev→R (U×Ev)}:PV g ρ=(g ρ).bind fun x=>U3 x.1 x.2:=nr rfl
theorem L4 {g:Ev→R (U×Ev)}:JF g ρ=(g ρ).bind fun x=>U4 x.1 x.2:=nr rfl
theorem Hz (h:d≠[]):U2 (DU d) ρ=.ok (d.map fun p=>.int p.2,ρ):=if_pos (kq h)
theorem HA (h:d≠[]):U3 (DU d) ρ=.ok (d.map fun p=>au p.1,ρ):=if_pos (kq h)
noncomputable def uR (p:List Int×Int):U:=.tup [au p.1,.int p.2]
theorem uS (h:d≠[]):U4 (DU d) ρ=.ok (d.map uR,ρ):=by
 refine (if_pos (kq h)).trans ?_
 have e:∀d:Dc,aaT (fun k u=>U.tup [k,u]) (d.map fun p=>au p.1) (d.map fun p=>U.int p.2)=d.map uR:=by
  intro d
  induction d with
  |nil=>rfl
  |cons p d ih=>rw[Yw,Yw,Yw,aaZ,ih];rfl
 rw[e]
noncomputable def PX (i:Nat):SR→SR
 | .nx ρ'=>.nx (ρ'.set i none)
 | .bk ρ'=>.bk (ρ'.set i none)
 | .ct ρ'=>.ct (ρ'.set i none)
 | .rt u ρ'=>.rt u (ρ'.set i none)
 |r=>r
theorem EZ {g:Ev→SR}:wc i g ρ=PX i (g ρ):=nr (by unfold wc PX;cases g ρ<;>rfl)
theorem yM:PX i (.rt u ρ)=.rt u (ρ.set i none):=nr rfl
theorem PY {c:String}:PX i (.exc c u)=.exc c u:=nr rfl
theorem Aw {k:List Int}(h:k∈d.map (·.1)):mx (DU d) (au k)=.ok (.int (dX d k)):=by
 have e:mx (DU d) (au k)=if kZ (iM d) (au k)=true then (match gu (iM d) (kC d) (au k) with
  |some z=>.ok z
  |none=>.stk) else .stk:=rfl
 rw[e,if_pos (uM d k),yL,if_pos h]
theorem MX {a b:U}:ed 2 (aT (cF i) (aT (cF j) d_)) (.tup [a,b]) ρ=.ok ((ρ.set i (some a)).set j (some b)):=nr rfl
structure Sm (d:Dc):Prop where
 ne:d≠[]
 nd:Nd d
 ps:Ps d
 le:∀p∈d,p.2<1000
 ln:d.length<1000
noncomputable def uT (d:Dc)(n:Nat):Nat:=((d.take n).map fun p=>p.2.toNat).foldl ac4 0
theorem sM (h:n<d.length):uT d (n+1)=ac4 (uT d n) d[n].2.toNat:=by
 unfold uT
 rw[Y_ h,Y2,acQ];rfl
theorem wV (d:Dc):uT d d.length=iY d:=by unfold uT iY;rw[ZU]
theorem jZ:∀(l:List Nat) (g:Nat),0<g→0<l.foldl ac4 g
 | [],g,h=>h
 |x::l,g,h=>jZ l _ (Nat.gcd_pos_of_pos_left _ h)
theorem qJ (h:Sm d):0<iY d:=by
 have h1:=h.ne
 have h2:=h.ps
 cases d with
 |nil=>exact absurd rfl h1
 |cons p d =>
  unfold iY
  rw[Yw,acv,Nat.gcd_zero_left]
  have:=h2 p YO
  exact jZ _ _ (by lia)
theorem lS:∀(l:List Nat) (g:Nat),0<g→l.foldl ac4 g≤g
 | [],g,h=>YC _
 |x::l,g,h=>Zd (lS l _ (Nat.gcd_pos_of_pos_left _ h)) (Nat.gcd_le_left _ h)
theorem Ax (h:Sm d):iY d<1000:=by
 have h1:=h.ne
 have h2:=h.ps
 have h3:=h.le
 cases d with
 |nil=>exact absurd rfl h1
 |cons p d =>
  unfold iY
  rw[Yw,acv,Nat.gcd_zero_left]
  have a:=h2 p YO
  have b:=h3 p YO
  have:=lS (d.map fun p=>p.2.toNat) p.2.toNat (by lia)
  lia
theorem E1 (n:Nd d)(h:i<d.length):iL (d.take i) d[i].1 d[i].2=d.take (i+1):=by
 have c:d[i].1∉(d.take i).map (·.1):=by
  intro z
  obtain⟨q,hq,e⟩:=Y9.mp z
  obtain⟨j,hj,rfl⟩:=abd.mp hq
  rw[YJ] at hj
  rw[abU] at e
  have VE:j<d.length:=by lia
  have a1:(d.map (·.1))[j]? = some d[j].1:=by rw[YH,Ys VE];rfl
  have a2:(d.map (·.1))[i]? = some d[j].1:=by rw[YH,Ys h,e];rfl
  have:=(List.getElem?_inj (by rw[Yp];exact VE) n).mp (a1.trans a2.symm)
  lia
 unfold iL
 rw[if_neg c,Y_ h]
theorem Ay {v:Int}(h:0<g)(h2:g<1000):jT (.int v) (.int g)=.ok (.int (v / g)):=by
 rw[yd,if_pos]
 unfold vC
 rw[YG,decide_eq_true_eq,decide_eq_true_eq];lia
theorem dq (d:Dc):(aR d).length=d.length:=by unfold aR;rw[Yp]
theorem B3 (h:i<d.length):(aR d)[i]'(by rw[dq];exact h)=(d[i].1,d[i].2 / (iY d:Int)):=by unfold aR;rw[List.getElem_map]
theorem jt (h:Sm d):bX [DU d]=.ok (DU (aR d)):=by
 have ln:=h.ln
 obtain⟨ρ1,e1,o1,r1⟩:=cN (us:=d.map fun p=>U.int p.2) (sg:=cF 2) (s:=bj 1 (fF 2 bH (aa (ae 1) (aa (ae 2) ak))))
  (fun n ρ=>∃o,ρ=[some (DU d),some (.int (uT d n)),o,none,none])
  (fun n u ρ hu h00=>by
   obtain⟨o,hr⟩:=h00
   subst hr
   have hn:n<d.length:=by have:=(YD.mp hu).1;rwa [Yp] at this
   rw[YH,Ys hn] at hu
   obtain rfl:U.int d[n].2=u:=by injection hu
   have a1:=h.ps d[n] (YX hn)
   have a2:=h.le d[n] (YX hn)
   refine⟨_,_,rfl,.inl ?_,some (.int d[n].2),rfl⟩
   have e:=OG (a:=(uT d n:Int)) (b:=d[n].2) (by lia) (by lia) a2
   rw[ZC,←sM hn] at e
   simp only[aB,dE,cA,Nat.reduceAdd,Nat.reduceSub,e])
  (ρ:=[some (DU d),some (.int 0),none,none,none]) ⟨none,rfl⟩
 subst r1
 rw[Yp,wV] at e1
 obtain⟨ρ2,e2,o2,o3,r2⟩:=cN (us:=d.map uR) (sg:=ed 2 (aT (cF 4) (aT (cF 2) d_))) (s:=eQ 3 (aZ jT (ae 2) (ae 1)) (ae 4))
  (fun n ρ=>∃o o',ρ=[some (DU d),some (.int (iY d)),o,some (DU ((aR d).take n)),o'])
  (fun n u ρ hu h00=>by
   obtain⟨o,o',hr⟩:=h00
   subst hr
   have hn:n<d.length:=by have:=(YD.mp hu).1;rwa [Yp] at this
   rw[YH,Ys hn] at hu
   obtain rfl:uR d[n]=u:=by injection hu
   have JO:n<(aR d).length:=by rw[dq];exact hn
   have pt:=E1 (oQ h.nd) JO
   rw[B3 hn] at pt
   refine⟨_,_,MX,.inl ?_,some (.int d[n].2),some (au d[n].1),rfl⟩
   rw[←pt]
   simp only[aB,dE,cA,Nat.reduceAdd,Nat.reduceSub,uN,Ay (qJ h) (Ax h),oR (show ((aR d).take n).length<1000000 by rw[YJ,dq];lia)])
  (ρ:=[some (DU d),some (.int (iY d)),o1,some (DU []),none]) ⟨o1,none,rfl⟩
 subst r2
 rw[Yp,←dq,ZU] at e2
 have e0:DU []=.dct [] []:=rfl
 rw[e0] at e2
 unfold bX kj
 simp only[aB,dE,cA,Nat.reduceAdd,Nat.reduceSub,Ri,L4,Hz h.ne,uS h.ne,e1,e2]
end Hc
namespace Hc
open L2
open Hc.Cn Hc.Ts
theorem gd {α:Type}{f:U→R (Option U)}{c g:α→U}:∀{xs:List α},(∀x∈xs,f (c x)=.ok (some (g x)))→xn f (xs.map c)=.ok (xs.map g)
 | [],_=>rfl
 |x::xs,h=>by
  rw[Yw,Yw]
  unfold xn
  rw[h x YO]
  show (xn f (xs.map c)).bind _=_
  rw[gd fun y hy=>h y (YS _ hy)];rfl
theorem HB {k:List Int}(v:Int)(h:k∉d.map (·.1)):iL d k v=d++[(k,v)]:=if_neg h
theorem wW:∀(rest done:Dc),Nd (done++rest)→rk (iM done) (kC done) (rest.map uR)=some (iM (done++rest),kC (done++rest))
 | [],done,_=>by rw[Zb];rfl
 |p::rest,done,n=>by
  rw[Yw]
  show (if Bs (au p.1)=true then rk (gE (iM done) (au p.1)) (fg (iM done) (kC done) (au p.1) (.int p.2)) (rest.map uR) else none)=_
  have c:p.1∉done.map (·.1):=by
   unfold Nd at n
   rw[Y2,Yw] at n
   exact fun z=>(aea.mp n).2.2 _ z _ YO rfl
  have e:done++p::rest=(done++[(p.1,p.2)])++rest:=by rw[YW];rfl
  rw[if_pos (wQ p.1),EW done p.1 p.2,EY,HB _ c,wW rest _ (by rw[←e];exact n),←e]
theorem yN (h:d≠[])(n:Nd d)(l:d.length<1000):qw [.lst (d.map uR)]=.ok (DU d):=by
 have e:qw [.lst (d.map uR)]=if (d.map uR).isEmpty=false∧(d.map uR).length≤1000000 then (match rk [] [] (d.map uR) with
  |some (ks,us)=>.ok (.dct ks us)
  |none=>.stk) else .stk:=rfl
 rw[e,if_pos ⟨by cases d with
  |nil=>exact absurd rfl h
  |cons=>rfl,by rw[Yp];lia⟩]
 have:=wW d [] n
 rw[show rk [] [] (d.map uR)=rk (iM []) (kC []) (d.map uR) from rfl,this];rfl
theorem mL {x:U}{ss:List (List Int)}(hx:x_ x=fun ρ=>.ok (ss.map au,ρ))(hl:ss.length<100000)(h:Sm (a_ ss)):bg [x]=.ok (DU (aR (a_ ss))):=by
 have ln:=h.ln
 obtain⟨o',e⟩:=wR (s:=0) (x:=x) (i:=1) (j:=2) ss hl (fun d o=>[some x,some (DU d),o,none]) (fun d o k hd=>⟨[some x,some (DU d),some (au k),none],rfl,by
  simp only[aB,dE,cA,Nat.reduceAdd,Nat.reduceSub,uN,uO,uP,uQ,oR hd]⟩) none
 have e0:DU []=.dct [] []:=rfl
 rw[e0] at e
 generalize a_ ss=d at h e ln
 obtain⟨ρ1,e1,o1,r1⟩:=cN (us:=d.map fun p=>au p.1) (sg:=cF 2) (s:=bj 3 (fF 2 cP (aa (ae 3) (aa (aZ mx (ae 1) (ae 2)) ak))))
  (fun n ρ=>∃o,ρ=[some x,some (DU d),o,some (.int (uT d n))])
  (fun n u ρ hu h00=>by
   obtain⟨o,hr⟩:=h00
   subst hr
   have hn:n<d.length:=by have:=(YD.mp hu).1;rwa [Yp] at this
   rw[YH,Ys hn] at hu
   obtain rfl:au d[n].1=u:=by injection hu
   have a1:=h.ps d[n] (YX hn)
   have a2:=h.le d[n] (YX hn)
   have a3:=ij h.nd (YX hn)
   refine⟨_,_,rfl,.inl ?_,some (au d[n].1),rfl⟩
   have e:=OH (a:=(uT d n:Int)) (b:=d[n].2) (by lia) (by lia) a2
   rw[ZC,←sM hn] at e
   simp only[aB,dE,cA,Nat.reduceAdd,Nat.reduceSub,Aw (ZG (YX hn)),a3,e])
  (ρ:=[some x,some (DU d),o',some (.int 0)]) ⟨o',rfl⟩
 subst r1
 rw[Yp,wV] at e1
 have e2:=gd (f:=zm [none,some 3,some 1] (cF 0) eO (cw (aa (ae 0) (aa (aZ jT (aZ mx (ae 2) (ae 0)) (ae 1)) ak))) [some x,some (DU d),o1,some (.int (iY d))]) (c:=fun p=>au p.1) (g:=fun p=>.tup [au p.1,.int (p.2 / (iY d:Int))]) (xs:=d) fun p hp=>by
  have sz:(2:Nat)≤Yx:=by decide
  simp only[aB,dE,cA,Nat.reduceAdd,Nat.reduceSub,Aw (ZG hp),ij h.nd hp,Ay (qJ h) (Ax h),sz]
 have e3:(d.map fun p=>U.tup [au p.1,.int (p.2 / (iY d:Int))])=(aR d).map uR:=by unfold aR;rw[Zc];rfl
 rw[e3] at e2
 have ne:aR d≠[]:=fun z=>h.ne (List.map_eq_nil_iff.mp z)
 have e4:=yN ne (oQ h.nd) (by rw[dq];exact ln)
 have sz:((aR d).map uR).length≤Yx:=by rw[Yp,dq];have:Yx=16777216:=rfl;lia
 unfold bg gR
 simp only[aB,dE,cA,Nat.reduceAdd,Nat.reduceSub,hx,e,EZ,Rj,HA h.ne,e1,e2,e4,sz,yM]
noncomputable def bG (a b:List Int):List Int:=b.map fun i=>a.getD i.toNat 0
theorem Az {a b:List Int}(h:∀i∈b,0≤i∧i<a.length):xn (zm [none,some 0] (cF 0) eO (aZ u_ (ae 1) (ae 0)) [some (au a),some (au b)]) (b.map U.int)=.ok ((bG a b).map U.int):=by
 have e:=gd (f:=zm [none,some 0] (cF 0) eO (aZ u_ (ae 1) (ae 0)) [some (au a),some (au b)]) (c:=U.int) (g:=fun i:Int=>U.int (a.getD i.toNat 0)) (xs:=b) fun i hi=>by
  obtain⟨h0,h1⟩:=h i hi
  obtain⟨n,rfl⟩:∃n:Nat,i=n:=⟨i.toNat,by lia⟩
  have hn:n<a.length:=by lia
  have e1:kG (a.map U.int) (n:Int)=some (.int a[n]):=by rw[sd,YH,Ys hn];rfl
  have e2:a.getD (n:Int).toNat 0=a[n]:=by rw[ZC,aa3,Ys hn];rfl
  simp only[aB,dE,cA,Nat.reduceAdd,Nat.reduceSub,au,e1,e2]
 rw[e];unfold bG;rw[Zc];rfl
theorem HC {a b:List Int}(h:∀i∈b,0≤i∧i<a.length)(hl:b.length≤1000):gQ [au a,au b]=.ok (au (bG a b)):=by
 have e:=Az h
 have sz:((bG a b).map U.int).length≤Yx:=by rw[Yp];unfold bG;rw[Yp];have:Yx=16777216:=rfl;lia
 have e1:f_ [au a,au b]=.ok (au (bG a b)):=by
  unfold f_ ki
  simp only[au] at e ⊢
  simp only[aB,dE,cA,Nat.reduceAdd,Nat.reduceSub,e,sz]
 unfold gQ yD
 simp only[aB,dE,cA,Nat.reduceAdd,Nat.reduceSub,e1]
theorem HD {a b:List Int}(h:∀i∈b,0≤i∧i<a.length)(hl:b.length≤1000):cV [au a,au b]=.ok (au (bG a b)):=by
 have e:=Az h
 have sz:((bG a b).map U.int).length≤Yx:=by rw[Yp];unfold bG;rw[Yp];have:Yx=16777216:=rfl;lia
 unfold cV jo
 simp only[au] at e ⊢
 simp only[aB,dE,cA,Nat.reduceAdd,Nat.reduceSub,e,sz]
end Hc
namespace Hc
open L2
open Hc.Cn Hc.Ts
theorem E2 {ws:List U}:cZ (.lst us) [.lst ws]=if us.length+ws.length≤Yx then .ok (.non,.lst (us++ws)) else .stk:=nr rfl
theorem E3 {n:Int}(h0:0≤n)(h1:n≤100000):nJ (.lst [u]) (.int n)=.ok (.lst (Zh n.toNat u)):=by
 have e:nJ (.lst [u]) (.int n)=if 0≤n∧n≤100000∧[u].length*n.toNat≤100000∧[u].isEmpty=false then .ok (.lst (Zh n.toNat [u]).flatten) else .stk:=nr rfl
 rw[e,if_pos ⟨h0,h1,by simp;lia,rfl⟩]
 congr 2
 generalize n.toNat=m
 induction m with
 |zero=>rfl
 |succ m ih=>rw[aah,Zk,ih,aah];rfl
theorem jJ:∀ns:List Int,dW (ns.map U.int)=some ns
 | []=>rfl
 |n::ns=>by rw[Yw];show (dW (ns.map U.int)).map _=_;rw[jJ ns];rfl
theorem wX:∀{ow:List (List Int)},(∀ns∈ow,ns≠[])→qt (ow.map au)=some ow
 | [],_=>rfl
 |ns::ow,h=>by
  rw[Yw]
  unfold qt
  have e1:Hk (au ns)=some ns:=by
   show (match dW (ns.map U.int) with|some (n::ns)=>some (n::ns)|_=>none)=_
   rw[jJ]
   cases ns with
   |nil=>exact absurd rfl (h [] YO)
   |cons=>rfl
  rw[e1,wX fun x hx=>h x (YS _ hx)]
theorem sN (h:d≠[])(ln:d.length<100000)(hr:∀p∈d,p.1≠[]):sE [DU d]=.ok (.lst ((eN (d.map (·.1))).map au)):=by
 have e:sE [DU d]=if oP (iM d)=true then iG (iM d) else .stk:=rfl
 rw[e,if_pos (kq h)]
 unfold iG
 have e2:qt (iM d)=some (d.map (·.1)):=by
  have:iM d=(d.map (·.1)).map au:=by unfold iM;rw[Zc];rfl
  rw[this]
  exact wX fun ns hn=>by obtain⟨p,hp,rfl⟩:=Y9.mp hn;exact hr p hp
 rw[e2]
 dsimp only
 rw[if_pos (by rw[Yp];lia)]
theorem E4 {s:Ev→SR}(d:Dc)(mk:List (List Int)→Option U→Ev)(hz:∀l:List (List Int),(∀k∈l,k∈d.map (·.1))→l.length≤d.length→(l.flatMap fun k=>Zh (dX d k).toNat k).length≤2000000)(step:∀(xs:List (List Int)) (o:Option U) (k:List Int),k∈d.map (·.1)→xs.length≤2000000→∃ρ1,cF j (au k) (mk xs o)=.ok ρ1∧s ρ1=.nx (mk (xs++Zh (dX d k).toNat k) (some (au k))))(o:Option U) :
  ∃o',eM (cF j) s ((eN (d.map (·.1))).map au) (mk [] o)=.nx (mk (kn d) o'):=by
 have sp:=dD (d.map (·.1))
 obtain⟨ρ',e1,o',e2⟩:=cN (us:=(eN (d.map (·.1))).map au) (sg:=cF j) (s:=s)
  (fun n ρ=>∃o,ρ=mk (((eN (d.map (·.1))).take n).flatMap fun k=>Zh (dX d k).toNat k) o)
  (fun n u ρ hu h00=>by
   obtain⟨o,hr⟩:=h00
   subst hr
   have hn:n<(eN (d.map (·.1))).length:=by have:=(YD.mp hu).1;rwa [Yp] at this
   rw[YH,Ys hn] at hu
   obtain rfl:au (eN (d.map (·.1)))[n]=u:=by injection hu
   obtain⟨ρ1,a,b⟩:=step (((eN (d.map (·.1))).take n).flatMap fun k=>Zh (dX d k).toNat k) o (eN (d.map (·.1)))[n] (sp.mem_iff.mp (YX hn))
    (hz _ (fun k hk=>sp.mem_iff.mp (ZJ hk)) (by rw[YJ,sp.length_eq,Yp];lia))
   refine⟨ρ1,_,a,.inl b,some (au (eN (d.map (·.1)))[n]),?_⟩
   rw[Y_ hn,adx]
   simp)
  (ρ:=mk [] o) ⟨o,rfl⟩
 refine⟨o',?_⟩
 rw[e1,e2,Yp,ZU];rfl
structure Sh (n:Nat)(l:List (List Int)):Prop where
 ne:l≠[]
 ln:l.length≤60
 n1:1≤n
 n8:n≤8
 len:∀a∈l,a.length=n
 bd:∀a∈l,∀i∈a,0≤i∧i<n
theorem qK:∀(ws:List (List Int×Int)) (d:Dc) (p:List Int×Int),p∈bh d ws→p.1∈d.map (·.1)∨p.1∈ws.map (·.1)
 | [],d,p,h=>.inl (ZG h)
 |q::ws,d,p,h=>by
  rcases qK ws (mJ d q.1 q.2) p h with h|h
  ·unfold mJ at h
   rw[qF] at h
   split at h
   ·exact .inl h
   ·rcases Y4.mp h with h|h
    ·exact .inl h
    ·rw[Zt] at h
     exact .inr (by rw[Yw,h];exact YO)
  ·exact .inr (by rw[Yw];exact YS _ h)
theorem oS {p:List Int×Int}(h:p∈a_ l):p.1∈l:=by
 rcases qK _ _ p h with h|h
 ·cases h
 ·rw[Zc] at h
  obtain⟨x,hx,e⟩:=Y9.mp h
  rw[←e];exact hx
theorem JJ (n:Nd d)(p:Ps d)(t:jq d<1000)(ne:d≠[]):Sm d:=⟨ne,n,p,fun q hq=>by have:=L3 p q hq;lia,by have:=qI p;lia⟩
theorem E5 (h:0<jq d):d≠[]:=fun z=>by rw[z] at h;exact absurd h (by decide)
theorem qL (h:l≠[])(hl:l.length<1000):Sm (a_ l):=by
 obtain⟨n,p,_⟩:=ko l
 have t:=Aq l
 have:0<l.length:=by cases l with
  |nil=>exact absurd rfl h
  |cons=>simp
 exact JJ n p (by lia) (E5 (by lia))
theorem AA {m:List (List Int)}(hl:l≠[])(hm:m≠[])(h:l.length*m.length<1000):Sm (bh [] (dP bG (a_ l) (a_ m))):=by
 have p:=sL bG l m
 obtain⟨n1,p1,_⟩:=ko l
 obtain⟨n2,p2,_⟩:=ko m
 obtain⟨n4,p4,_⟩:=jI (dP bG (a_ l) (a_ m)) mK.1 mK.2 (sJ p1 p2)
 have t:=B0 p
 rw[Aq] at t
 have e:(ik bG l m).length=l.length*m.length:=by
  unfold ik
  have:∀l:List (List Int),(l.flatMap fun a=>m.map fun b=>bG a b).length=l.length*m.length:=by
   intro l
   induction l with
   |nil=>simp
   |cons a l ih=>rw[abn,Yu,Yp,ih,YN,Nat.succ_mul];lia
  exact this l
 have pos:0<l.length*m.length:=Nat.mul_pos (aaX.mpr hl) (aaX.mpr hm)
 exact JJ n4 p4 (by lia) (E5 (by lia))
theorem gI (ss:List (List Int)):x_ (SU ss)=fun ρ=>.ok (ss.map au,ρ):=by funext ρ;exact yb
theorem L5 {a b:Int}(h0:0≤a)(h1:a<1000):gA (.int a) (.int b)=.ok (.int (a*b)):=by
 rw[En,if_pos]
 unfold kX
 rw[aaV,YG,decide_eq_true_eq,decide_eq_true_eq]
 exact .inl ⟨by lia,by lia⟩
end Hc
namespace Hc
open L2
open Hc.Cn Hc.Ts
theorem E6 (c e:Dc):(dP bG c e).length=c.length*e.length:=by
 unfold dP
 induction c with
 |nil=>simp
 |cons a c ih=>rw[abn,Yu,Yp,ih,YN,Nat.succ_mul];lia
theorem L6 (d:Dc)(a b:List (List Int×Int)):bh d (a++b)=bh (bh d a) b:=by unfold bh;rw[acQ]
theorem AB (l:List (List Int)):(a_ l).length≤l.length:=by
 have:=kr (l.map fun x=>(x,(1:Int)))
 rw[Yp] at this;exact this
theorem L7 {m:List (List Int)}(hl:Sh n l)(hm:Sh n m):∃o3 o4 o5 o6 o7,LU [some (SU l),some (SU m),some (DU []),none,none,none,none,none,none,none]=.nx [some (SU l),some (SU m),some (DU (bh [] (dP bG (a_ l) (a_ m)))),o3,o4,o5,o6,o7,none,none]:=by
 have s1:=qL hl.ne (by have:=hl.ln;lia)
 have s2:=qL hm.ne (by have:=hm.ln;lia)
 have c1:=iN (gI l) (by have:=hl.ln;lia)
 have c2:=iN (gI m) (by have:=hm.ln;lia)
 have l1:(a_ l).length≤60:=Zd (AB l) hl.ln
 have l2:(a_ m).length≤60:=Zd (AB m) hm.ln
 obtain⟨ρ',e1,o3,o4,o5,o6,o7,r1⟩:=cN (us:=(a_ l).map uR) (sg:=ed 2 (aT (cF 3) (aT (cF 4) d_)))
  (s:=fG (JF (fF 1 bM (aa (ae 1) ak))) (ed 2 (aT (cF 5) (aT (cF 6) d_))) (aN (bj 7 (fF 2 gQ (aa (ae 3) (aa (ae 5) ak)))) (eQ 2 (aZ bR (fA 2 (ae 7) (gC (.int 0))) (aZ gA (ae 4) (ae 6))) (ae 7))))
  (fun i ρ=>∃o3 o4 o5 o6 o7,ρ=[some (SU l),some (SU m),some (DU (bh [] (dP bG ((a_ l).take i) (a_ m)))),o3,o4,o5,o6,o7,none,none])
  (fun i u ρ hu h00=>by
   obtain⟨o3,o4,o5,o6,o7,hr⟩:=h00
   subst hr
   have hi:i<(a_ l).length:=by have:=(YD.mp hu).1;rwa [Yp] at this
   rw[YH,Ys hi] at hu
   obtain rfl:uR (a_ l)[i]=u:=by injection hu
   have ma:=oS (YX hi)
   have va:=s1.ps _ (YX hi)
   have vb:=s1.le _ (YX hi)
   generalize ea:(a_ l)[i]=a at ma va vb
   obtain⟨ρ2,e2,p5,p6,p7,r2⟩:=cN (us:=(a_ m).map uR) (sg:=ed 2 (aT (cF 5) (aT (cF 6) d_)))
    (s:=aN (bj 7 (fF 2 gQ (aa (ae 3) (aa (ae 5) ak)))) (eQ 2 (aZ bR (fA 2 (ae 7) (gC (.int 0))) (aZ gA (ae 4) (ae 6))) (ae 7)))
    (fun j ρ=>∃o5 o6 o7,ρ=[some (SU l),some (SU m),some (DU (bh [] (dP bG ((a_ l).take i) (a_ m)++((a_ m).take j).map fun b=>(bG a.1 b.1,a.2*b.2)))),some (au a.1),some (.int a.2),o5,o6,o7,none,none])
    (fun j u ρ hu h00=>by
     obtain⟨o5,o6,o7,hr⟩:=h00
     subst hr
     have hj:j<(a_ m).length:=by have:=(YD.mp hu).1;rwa [Yp] at this
     rw[YH,Ys hj] at hu
     obtain rfl:uR (a_ m)[j]=u:=by injection hu
     have mb:=oS (YX hj)
     generalize eb:(a_ m)[j]=b at mb
     have t:=HC (a:=a.1) (b:=b.1) (fun x hx=>by rw[hl.len _ ma];exact hm.bd _ mb x hx) (by rw[hm.len _ mb];have:=hm.n8;lia)
     have lw:(bh [] (dP bG ((a_ l).take i) (a_ m)++((a_ m).take j).map fun b=>(bG a.1 b.1,a.2*b.2))).length<1000000:=by
      refine acq (kr _) ?_
      rw[Yu,E6,Yp,YJ,YJ]
      have:min i (a_ l).length*(a_ m).length≤60*60:=ad4 (by lia) l2
      lia
     refine⟨_,_,MX,.inl ?_,some (au b.1),some (.int b.2),some (au (bG a.1 b.1)),rfl⟩
     rw[Y_ hj,Y2,←YW]
     show _=SR.nx [some (SU l),some (SU m),some (DU (bh [] ((_++_)++[(bG a.1 (a_ m)[j].1,a.2*(a_ m)[j].2)]))),_,_,_,_,_,_,_]
     rw[nM,eb]
     show _=SR.nx [some (SU l),some (SU m),some (DU (iL _ _ _)),_,_,_,_,_,_,_]
     simp only[aB,dE,cA,Nat.reduceAdd,Nat.reduceSub,t,uN,uO,uP,uQ,L5 (by lia:(0:Int)≤a.2) vb,oR lw])
    (ρ:=[some (SU l),some (SU m),some (DU (bh [] (dP bG ((a_ l).take i) (a_ m)))),some (au a.1),some (.int a.2),o5,o6,o7,none,none]) ⟨o5,o6,o7,by rw[List.take_zero,ZM,Zb]⟩
   subst r2
   rw[Yp,ZU] at e2
   have e3:dP bG ((a_ l).take i) (a_ m)++((a_ m).map fun b=>(bG a.1 b.1,a.2*b.2))=dP bG ((a_ l).take (i+1)) (a_ m):=by
    rw[Y_ hi,ea]
    unfold dP
    rw[adx]
    simp
   rw[e3] at e2
   refine⟨_,_,MX,.inl ?_,some (au a.1),some (.int a.2),p5,p6,p7,rfl⟩
   simp only[aB,dE,cA,Nat.reduceAdd,Nat.reduceSub,c2,L4,uS s2.ne,e2])
  (ρ:=[some (SU l),some (SU m),some (DU []),none,none,none,none,none,none,none]) ⟨none,none,none,none,none,rfl⟩
 subst r1
 rw[Yp,ZU] at e1
 refine⟨o3,o4,o5,o6,o7,?_⟩
 unfold LU
 simp only[aB,dE,cA,Nat.reduceAdd,Nat.reduceSub,c1,L4,uS s1.ne,e1]
end Hc
namespace Hc
open L2
open Hc.Cn Hc.Ts
noncomputable def Rk (u:U)(ρ:Ev):R (U×Ev):=match u with
 | .dct ks us=>if oP ks=true then (match dW us with
  |some ns=>if kg ns=true then .ok (.int ns.sum,ρ) else .stk
  |none=>.stk) else .stk
 |_=>.stk
theorem E7 {g:Ev→R (U×Ev)}:wu g ρ=(g ρ).bind fun x=>Rk x.1 x.2:=nr rfl
theorem HF (h:d≠[])(l:d.length<1000)(hv:∀p∈d,0≤p.2∧p.2<1000):Rk (DU d) ρ=.ok (.int (jq d),ρ):=by
 have e:Rk (DU d) ρ=if oP (iM d)=true then (match dW (kC d) with
  |some ns=>if kg ns=true then .ok (.int ns.sum,ρ) else .stk
  |none=>.stk) else .stk:=rfl
 have e2:dW (kC d)=some (d.map (·.2)):=by
  have:kC d=(d.map (·.2)).map U.int:=by unfold kC;rw[Zc];rfl
  rw[this,jJ]
 rw[e,if_pos (kq h),e2]
 dsimp only
 rw[if_pos]
 ·rfl
 ·unfold kg
  rw[YG,decide_eq_true_eq,Yp,ZN]
  refine⟨by lia,fun x hx => ?_⟩
  obtain⟨p,hp,rfl⟩:=Y9.mp hx
  have:=hv p hp
  exact decide_eq_true (by lia)
theorem lT (h:Sm d):aR d≠[]:=fun z=>h.ne (List.map_eq_nil_iff.mp z)
theorem mM (h:Sm d):∀p∈aR d,0≤p.2∧p.2<1000:=by
 intro p hp
 obtain⟨q,hq,rfl⟩:=Y9.mp hp
 have h1:=h.ps q hq
 have h2:=h.le q hq
 have h3:=qJ h
 constructor
 ·exact Int.ediv_nonneg (by lia) (by lia)
 ·have:q.2 / (iY d:Int)≤q.2:=Int.ediv_le_self _ (by lia)
  show q.2 / (iY d:Int)<1000
  lia
theorem lU (h:Sm d)(k:List Int):0≤dX (aR d) k∧dX (aR d) k<1000:=by
 by_cases c:k∈(aR d).map (·.1)
 ·exact mM h _ (jH c)
 ·rw[eI c];lia
theorem oU (h:Sm d)(l:List (List Int))(hl:l.length≤(aR d).length):(l.flatMap fun k=>Zh (dX (aR d) k).toNat k).length≤2000000:=by
 have:∀l:List (List Int),(l.flatMap fun k=>Zh (dX (aR d) k).toNat k).length≤l.length*1000:=by
  intro l
  induction l with
  |nil=>simp
  |cons k l ih =>
   have:=lU h k
   rw[abn,Yu,aaj,YN];lia
 have h1:=this l
 have h2:=h.ln
 rw[dq] at hl
 lia
theorem sO {Q:List Int→Prop}(h:∀p∈d,Q p.1):∀p∈aR d,Q p.1:=by
 intro p hp
 obtain⟨q,hq,rfl⟩:=Y9.mp hp
 exact h q hq
theorem wY (h:Sm d){xs:List (List Int)}{k:List Int}(hx:xs.length≤2000000):cZ (.lst (xs.map au)) [.lst (Zh (dX (aR d) k).toNat (au k))]=.ok (.non,.lst ((xs++Zh (dX (aR d) k).toNat k).map au)):=by
 have:=lU h k
 have sz:Yx=16777216:=rfl
 rw[E2,if_pos (by rw[Yp,aaj];lia),Y2,List.map_replicate]
theorem B4 {m:List (List Int)}(hm:Sh n m):∀p∈bh [] (dP bG (a_ l) (a_ m)),p.1≠[]:=by
 intro p hp
 rcases qK _ _ p hp with z|z
 ·cases z
 ·obtain⟨q,hq,e⟩:=Y9.mp z
  obtain⟨a,_,hq⟩:=List.mem_flatMap.mp hq
  obtain⟨b,hb,rfl⟩:=Y9.mp hq
  rw[←e]
  intro y
  have l1:=hm.len _ (oS hb)
  have:(bG a.1 b.1).length=0:=by rw[show bG a.1 b.1=[] from y];rfl
  unfold bG at this
  rw[Yp] at this
  have:=hm.n1
  lia
noncomputable def AD (l m:List (List Int)):Dc:=aR (bh [] (dP bG (a_ l) (a_ m)))
theorem B5 {m:List (List Int)}(hl:Sh n l)(hm:Sh n m)(h:l.length*m.length<1000):bD [SU l,SU m]=.ok (if 24<jq (AD l m) then .str "many" else SU (kn (AD l m))):=by
 have s:=AA hl.ne hm.ne h
 have hk:=B4 (l:=l) hm
 obtain⟨o3,o4,o5,o6,o7,e2⟩:=L7 hl hm
 have ep:AD l m=aR (bh [] (dP bG (a_ l) (a_ m))):=rfl
 generalize bh [] (dP bG (a_ l) (a_ m))=d at s e2 ep hk
 have e3:=jt s
 have e4:=fun ρ=>HF (lT s) (by rw[dq];exact s.ln) (mM s) (ρ:=ρ)
 have e0:DU []=.dct [] []:=rfl
 have e1:LS (cA 10 [SU l,SU m])=.nx [some (SU l),some (SU m),some (DU []),none,none,none,none,none,none,none]:=by
  unfold LS
  simp only[aB,dE,cA,Nat.reduceAdd,Nat.reduceSub,e0]
 have f3:MV [some (SU l),some (SU m),some (DU d),o3,o4,o5,o6,o7,none,none]=.nx [some (SU l),some (SU m),some (DU d),o3,o4,o5,o6,o7,some (DU (aR d)),none]:=by
  unfold MV
  simp only[aB,dE,cA,Nat.reduceAdd,Nat.reduceSub,e3]
 have f4:MW [some (SU l),some (SU m),some (DU d),o3,o4,o5,o6,o7,some (DU (aR d)),none]=.ok (decide (24<jq (aR d)),[some (SU l),some (SU m),some (DU d),o3,o4,o5,o6,o7,some (DU (aR d)),none]):=by
  unfold MW
  simp only[aB,dE,cA,Nat.reduceAdd,Nat.reduceSub,E7,e4]
 unfold bD
 rw[e1]
 dsimp only
 rw[e2]
 dsimp only
 rw[f3]
 dsimp only
 rw[f4,ep]
 by_cases c:24<jq (aR d)
 ·rw[decide_eq_true c,if_pos c]
 ·rw[decide_eq_false c,if_neg c]
  dsimp only
  have e5:=sN (lT s) (by rw[dq];have:=s.ln;lia) (sO (Q:=fun k=>k≠[]) hk)
  obtain⟨o',e6⟩:=E4 (s:=gZ (gM "list" 9 cZ (aa (aZ nJ (eL (aa (ae 7) ak)) (aZ mx (ae 8) (ae 7))) ak))) (j:=7) (aR d)
   (fun xs o=>[some (SU l),some (SU m),some (DU d),o3,o4,o5,o6,o,some (DU (aR d)),some (.lst (xs.map au))]) (fun l _ hl=>oU s l hl)
   (fun xs o k hk hx=>⟨_,rfl,by
    have sz:(1:Nat)≤Yx:=by decide
    have g:=lU s k
    simp only[aB,dE,cA,Nat.reduceAdd,Nat.reduceSub,Aw hk,E3 g.1 (by lia:dX (aR d) k≤100000),wY s hx,sz]⟩) o7
  have sz:((kn (aR d)).map au).length≤Yx:=by
   have:=oU s (eN ((aR d).map (·.1))) (by rw[(dD _).length_eq,Yp];exact YC _)
   have z:Yx=16777216:=rfl
   rw[Yp,z]
   unfold kn
   lia
  have z0:(0:Nat)≤Yx:=by decide
  unfold LU at e2
  rw[e0,D9] at e2
  rw[ZM] at e6
  unfold eT yG
  simp only[aB,dE,cA,Nat.reduceAdd,Nat.reduceSub,e2,EZ,e3,E7,e4,decide_eq_false c,e5,e6,yM,z0,sz]
  rfl
end Hc
namespace Hc
open L2
open Hc.Cn Hc.Ts
theorem L8 {m:List (List Int)}(hl:Sh n l)(hm:Sh n m){a b:List Int}(ha:a∈l)(hb:b∈m):∀i∈b,0≤i∧i<(a.length:Int):=by
 intro i hi
 rw[hl.len a ha]
 exact hm.bd b hb i hi
theorem wZ (l m:List (List Int)):(ik bG l m).length=l.length*m.length:=by
 unfold ik
 induction l with
 |nil=>simp
 |cons a l ih=>rw[abn,Yu,ih,Yp,YN,Nat.succ_mul,Nat.add_comm]
theorem yO {m:List (List Int)}(hl:Sh n l)(hm:Sh n m){a:List Int}(ha:a∈l){x6:Option U} :
  xn (zm [none,some 3] (cF 0) eO (fF 2 cV (aa (ae 1) (aa (ae 0) ak))) [x0,some (SU m),x2,some (au a),x4,x5,x6]) (m.map au)=.ok ((m.map (bG a)).map au):=by
 rw[gd (c:=au) (g:=fun b=>au (bG a b)) (xs:=m) fun b hb=>by
  have e:=HD (L8 hl hm ha hb) (by rw[hm.len b hb];have:=hm.n8;lia)
  simp only[aB,dE,cA,Nat.reduceAdd,Nat.reduceSub,e]]
 rw[Zc];rfl
theorem B6 {m:List (List Int)}(hl:Sh n l)(hm:Sh n m):∃o,eM (cF 3)
  (gZ (gM "list" 2 cZ (aa (jO (g7 (ae 1)) [none,some 3] (cF 0) eO (fF 2 cV (aa (ae 1) (aa (ae 0) ak)))) ak)))
  (l.map au) [some (SU l),some (SU m),some (.lst []),none,none,none,none]=.nx [some (SU l),some (SU m),some (.lst ((ik bG l m).map au)),o,none,none,none]:=by
 have Yn:=hl.ln
 have Yb:=hm.ln
 obtain⟨ρ',e1,o',e2⟩:=cN (us:=l.map au) (sg:=cF 3)
  (s:=gZ (gM "list" 2 cZ (aa (jO (g7 (ae 1)) [none,some 3] (cF 0) eO (fF 2 cV (aa (ae 1) (aa (ae 0) ak)))) ak)))
  (fun k ρ=>∃o,ρ=[some (SU l),some (SU m),some (.lst ((ik bG (l.take k) m).map au)),o,none,none,none])
  (fun k u ρ hu h00=>by
   obtain⟨o,hr⟩:=h00
   subst hr
   have hn:k<l.length:=by have:=(YD.mp hu).1;rwa [Yp] at this
   rw[YH,Ys hn] at hu
   obtain rfl:au l[k]=u:=by injection hu
   have e:=fun {x0 x2 x4 x5 x6:Option U}=>yO hl hm (YX hn) (x0:=x0) (x2:=x2) (x4:=x4) (x5:=x5) (x6:=x6)
   have z1:((m.map (bG l[k])).map au).length≤Yx:=by rw[Yp,Yp];have:Yx=16777216:=rfl;lia
   have z2:((ik bG (l.take k) m).map au).length+((m.map (bG l[k])).map au).length≤Yx:=by
    rw[Yp,wZ,Yp,Yp,YJ]
    have:Yx=16777216:=rfl
    have:min k l.length*m.length≤60*60:=ad4 (by lia) Yb
    lia
   have e3:ik bG (l.take (k+1)) m=ik bG (l.take k) m++m.map (bG l[k]):=by
    unfold ik
    rw[Y_ hn,adx]
    simp
   refine⟨_,_,rfl,.inl ?_,some (au l[k]),rfl⟩
   rw[e3,Y2]
   simp only[aB,dE,cA,Nat.reduceAdd,Nat.reduceSub,gI,e,z1,E2,z2])
  (ρ:=[some (SU l),some (SU m),some (.lst []),none,none,none,none]) ⟨none,rfl⟩
 refine⟨o',?_⟩
 rw[e1,e2,Yp,ZU]
theorem B7 {m:List (List Int)}(hl:Sh n l)(hm:Sh n m)(h:l.length*m.length<1000):dk [SU l,SU m]=.ok (SU (kn (aR (a_ (ik bG l m))))):=by
 obtain⟨o3,e1⟩:=B6 hl hm
 have ln:=wZ l m
 have ne:ik bG l m≠[]:=by
  intro z
  rw[z] at ln
  have h1:0<l.length:=aaX.mpr hl.ne
  have h2:0<m.length:=aaX.mpr hm.ne
  have:=Nat.mul_pos h1 h2
  rw[abO] at ln
  lia
 have s:=qL ne (by lia)
 have hk:∀p∈a_ (ik bG l m),p.1≠[]:=by
  intro p hp y
  have hq:=oS hp
  rw[y] at hq
  obtain⟨a,ha,hq⟩:=List.mem_flatMap.mp hq
  obtain⟨b,hb,hq⟩:=Y9.mp hq
  have l1:=hm.len _ hb
  have:(bG a b).length=0:=by rw[hq];rfl
  unfold bG at this
  rw[Yp] at this
  have:=hm.n1
  lia
 have e3:=mL (x:=.lst ((ik bG l m).map au)) (ss:=ik bG l m) (by funext ρ;exact ya) (by lia) s
 generalize a_ (ik bG l m)=d at s hk e3
 have e5:=sN (lT s) (by rw[dq];have:=s.ln;lia) (sO (Q:=fun k=>k≠[]) hk)
 obtain⟨o',e6⟩:=E4 (s:=gZ (gM "list" 5 cZ (aa (aZ nJ (eL (aa (ae 6) ak)) (aZ mx (ae 4) (ae 6))) ak))) (j:=6) (aR d)
  (fun xs o=>[some (SU l),some (SU m),some (.lst ((ik bG l m).map au)),o3,some (DU (aR d)),some (.lst (xs.map au)),o]) (fun l _ hl=>oU s l hl)
  (fun xs o k hk hx=>⟨_,rfl,by
   have sz:(1:Nat)≤Yx:=by decide
   have g:=lU s k
   simp only[aB,dE,cA,Nat.reduceAdd,Nat.reduceSub,Aw hk,E3 g.1 (by lia:dX (aR d) k≤100000),wY s hx,sz]⟩) none
 have sz:((kn (aR d)).map au).length≤Yx:=by
  have:=oU s (eN ((aR d).map (·.1))) (by rw[(dD _).length_eq,Yp];exact YC _)
  have z:Yx=16777216:=rfl
  rw[Yp,z]
  unfold kn
  lia
 have z0:(0:Nat)≤Yx:=by decide
 rw[ZM] at e6
 unfold dk gS
 simp only[aB,dE,cA,Nat.reduceAdd,Nat.reduceSub,gI,e1,EZ,e3,e5,e6,yM,z0,sz]
 rfl
theorem E8 {e:Dc}(p:d.Perm e)(n:Nd d)(s:Sm d):kn (aR d)=kn (aR e)∧((kn (aR e)).length:Int)=jq (aR d):=by
 have h1:=B1 (yK p) (oQ n)
 refine⟨h1,?_⟩
 rw[←h1]
 exact Hy (oQ n) fun q hq=>(mM s q hq).1
theorem HG {m:List (List Int)}(hl:Sh n l)(hm:Sh n m)(h:l.length*m.length<1000):∃ss:List (List Int),dk [SU l,SU m]=.ok (SU ss)∧bD [SU l,SU m]=.ok (if 24<ss.length then .str "many" else SU ss):=by
 have s:=AA hl.ne hm.ne h
 obtain⟨a,b⟩:=E8 (sL bG l m) s.nd s
 refine⟨_,B7 hl hm h,?_⟩
 rw[B5 hl hm h]
 unfold AD
 rw[a]
 by_cases c:24<jq (aR (bh [] (dP bG (a_ l) (a_ m))))
 ·rw[if_pos c,if_pos (by lia)]
 ·rw[if_neg c,if_neg (by lia)]
end Hc
namespace Hc
open L2
theorem lV (us:List U)(k:Nat):g_ us none (some (k:Int))=us.take k:=by
 unfold g_
 rw[HT.sIx_none,HT.sIx_nat,acR,Nat.sub_zero]
 rcases Nat.le_total k us.length with h|h
 ·rw[aad h]
 ·rw[Nat.min_eq_right h,ZU,aaw h]
theorem il (us:List U)(k:Nat):g_ us (some (k:Int)) none=us.drop k:=by
 unfold g_
 rw[HT.sIx_none,HT.sIx_nat]
 rcases Nat.le_total k us.length with h|h
 ·rw[aad h,aaw (by rw[Y1];lia)]
 ·rw[Nat.min_eq_right h,aby,List.drop_of_length_le h,List.take_nil]
noncomputable def vc (s:U):Prop:=∃v b,s=.lst [.int v,.bl b]∧0≤v∧(b=false→v<2147483647)
theorem iO {s:U}{m:Int}(h:vc s)(h0:0<m)(h1:m<18446744073709551616):∃r s',aG [s,.int m]=.ok (.int r,s')∧0≤r∧r<m∧vc s':=by
 obtain⟨v,b,rfl,hv,hb⟩:=h
 cases b with
 |true =>
  refine⟨v % m,.lst [.int (v / m),.bl true],?_,abo _ (by lia),aaK _ h0,v / m,true,rfl,Int.ediv_nonneg hv (by lia),fun h=>nomatch h⟩
  simp only[aG,gF,aB,dE,cA,Nat.reduceAdd,Nat.reduceSub,decide_eq_true h0,t9 h0 h1,zR]
 |false =>
  have g1:0≤(v*48271+29) % 2147483647:=abo _ (by decide)
  have g2:(v*48271+29) % 2147483647<2147483647:=aaK _ (by decide)
  have c1:kX v 48271=true:=Ls (by decide) (by decide)
  have d1:decide ((0:Int)<2147483647)=true:=by decide
  have d2:decide ((0:Int)<2147483629)=true:=by decide
  have d3:decide ((0:Int)<2147483587)=true:=by decide
  have e8:vC (((((v*48271+29) % 2147483647)*((v*48271+29) % 2147483647)+39373*((v*48271+29) % 2147483647)+7) % 2147483629*((((v*48271+29) % 2147483647)*((v*48271+29) % 2147483647)+39373*((v*48271+29) % 2147483647)+7) % 2147483629)+16807*((((v*48271+29) % 2147483647)*((v*48271+29) % 2147483647)+39373*((v*48271+29) % 2147483647)+7) % 2147483629)) % 2147483587) 8=true:=t9 (by decide) (by decide)
  have c2:kX ((v*48271+29) % 2147483647) ((v*48271+29) % 2147483647)=true:=pS g1 (by lia)
  have c3:kX 39373 ((v*48271+29) % 2147483647)=true:=pS (by decide) (by decide)
  generalize hs:(v*48271+29) % 2147483647=s1 at *
  have g3:0≤(s1*s1+39373*s1+7) % 2147483629:=abo _ (by decide)
  have g4:(s1*s1+39373*s1+7) % 2147483629<2147483629:=aaK _ (by decide)
  have c4:kX ((s1*s1+39373*s1+7) % 2147483629) ((s1*s1+39373*s1+7) % 2147483629)=true:=pS g3 (by lia)
  have c5:kX 16807 ((s1*s1+39373*s1+7) % 2147483629)=true:=pS (by decide) (by decide)
  refine⟨((s1*s1+39373*s1+7) % 2147483629*((s1*s1+39373*s1+7) % 2147483629)+16807*((s1*s1+39373*s1+7) % 2147483629)) % 2147483587 / 8 % m,.lst [.int s1,.bl false],?_,abo _ (by lia),aaK _ h0,s1,false,rfl,g1,fun _=>g2⟩
  ·simp only[aG,gF,aB,dE,cA,Nat.reduceAdd,Nat.reduceSub,decide_eq_true h0,c1,d1,d2,d3,hs,c2,c3,c4,c5,e8,zR]
theorem E9 {us:List U}{k:Int}(hu:u=.scr (ns.map .int)∨u=.lst (ns.map .int))(h0:0≤k):∃s,dN [u,.int k]=.ok s∧vc s:=by
 obtain⟨k,rfl⟩:∃n:Nat,k=n:=⟨k.toNat,by lia⟩
 have sP:∃c:Int,cO [u,.int k]=.ok (.int c):=by
  by_cases hk:k<ns.length
  ·refine⟨ns[k],?_⟩
   have d:decide ((k:Int)<((ns.map U.int).length:Nat))=true:=by rw[Yp];exact decide_eq_true (by lia)
   have e:kG (ns.map U.int) (k:Int)=some (.int ns[k]):=by rw[sd,YH,Ys hk];rfl
   rcases hu with rfl|rfl<;>simp only[cO,eG,aB,dE,cA,Nat.reduceAdd,Nat.reduceSub,d,e]
  ·refine⟨0,?_⟩
   have d:decide ((k:Int)<((ns.map U.int).length:Nat))=false:=by rw[Yp];exact decide_eq_false (by lia)
   rcases hu with rfl|rfl<;>simp only[cO,eG,aB,dE,cA,Nat.reduceAdd,Nat.reduceSub,d]
 obtain⟨c,hc⟩:=sP
 have VF:GD 10 18=true:=by decide
 have VG:(10:Int) ^ (18:Int).toNat=1000000000000000000:=by decide
 have l2:(2:Nat)≤Yx:=by decide
 have dm:decide ((0:Int)<2147483647)=true:=by decide
 by_cases h:1000000000000000000≤c
 ·refine⟨.lst [.int (c - 1000000000000000000),.bl true],?_,_,true,rfl,by lia,fun h=>nomatch h⟩
  simp only[dN,fL,aB,dE,cA,Nat.reduceAdd,Nat.reduceSub,hc,VF,VG,decide_eq_true h,l2,if_pos]
 ·refine⟨.lst [.int (c % 2147483647),.bl false],?_,_,false,rfl,abo _ (by decide),fun _=>aaK _ (by decide)⟩
  simp only[dN,fL,aB,dE,cA,Nat.reduceAdd,Nat.reduceSub,hc,VF,VG,decide_eq_false h,l2,dm,if_pos]
theorem qM {α:Type}:∀(l:List α) (i:Nat) (h:i<l.length),(l[i]::l.eraseIdx i).Perm l
 |x::l,0,_=>aao _
 |x::l,i+1,h=>by
  have h':i<l.length:=by simpa using h
  show (l[i]::x::l.eraseIdx i).Perm (x::l)
  exact (List.Perm.swap _ _ _).trans (List.Perm.cons x (qM l i h'))
theorem lW {α β:Type}(f:α→β):∀(l:List α) (i:Nat),(l.map f).eraseIdx i=(l.eraseIdx i).map f
 | [],_=>rfl
 |_::_,0=>rfl
 |x::l,i+1=>by
  show f x::(l.map f).eraseIdx i=f x::(l.eraseIdx i).map f
  rw[lW f l i]
theorem L9 {k:Int}{y:U}(h1:ad8 k us.length=some j)(h2:us[j]? = some y)(h3:0≤k)(h4:k<1000000000):mw (.lst us) [.int k]=.ok (y,.lst (us.eraseIdx j)):=by
 unfold mw
 dsimp only
 rw[if_pos (by lia),h1]
 dsimp only
 rw[h2]
noncomputable def AE (n:Nat)(os:List Int):Prop:=os.Perm (aX n)
theorem w6 {s:U}(h:vc s)(h1:m≤1000):∃(os:List Int) (s':U),c_ [s,.int m]=.ok (.tup (os.map .int),s')∧AE m os∧vc s':=by
 obtain⟨ys,⟨left,s'⟩,e,l,os,hr,hp,hs'⟩:=pT (G:=iH) (js:=[none,some 2,some 0]) (sg:=cF 0) (ge:=gM "list" 1 mw (aa (pF 2 2 aG (aa (iR iA (aa (ae 1) ak)) ak)) ak))
  (fun x:List Int×U=>[some x.2,some (.int m),some (.lst (x.1.map .int))]) m (fun ys x=>∃os:List Int,ys=os.map .int∧(os++x.1).Perm (aX m)∧vc x.2)
  (fun done u x hd h00=>by
   obtain⟨os,hr,hp,hs⟩:=h00
   obtain⟨left,s⟩:=x
   have hl:0<left.length:=by
    have:=hp.length_eq
    rw[Yu,eS] at this
    have h2:done.length=os.length:=by rw[hr,Yp]
    dsimp only at this
    lia
   have Fp:left.length≤m:=by
    have:=hp.length_eq
    rw[Yu,eS] at this
    dsimp only at this
    lia
   obtain⟨r,s',b1,b2,b3,b4⟩:=iO (m:=left.length) hs (by lia) (by lia)
   obtain⟨k,rfl⟩:∃n:Nat,r=n:=⟨r.toNat,by lia⟩
   have hk:k<left.length:=by lia
   refine⟨[some u,some (.lst (left.map .int)),some s],.int left[k],[some u,some (.lst ((left.eraseIdx k).map .int)),some s'],(left.eraseIdx k,s'),rfl,?_,rfl,os++[left[k]],by rw[hr,Y2];rfl,?_,b4⟩
   ·have hx:ad8 (k:Int) (left.map U.int).length=some k:=by
     unfold ad8
     rw[Yp]
     simp;lia
    have hy:(left.map U.int)[k]? = some (.int left[k]):=by rw[YH,Ys hk];rfl
    have pp:=L9 hx hy (by lia) (by lia)
    rw[lW] at pp
    simp only[aB,dE,cA,Nat.reduceAdd,Nat.reduceSub,Yp,b1,pp]
   ·rw[YW]
    refine List.Perm.trans (aal os ?_) hp
    exact qM left k hk) (aF 0 m) [] (aX m,s) (by rw[bA];simp) ⟨[],rfl,aao _,h⟩
 rw[bA] at l
 have ln:os.length=m:=by
  have:=congrArg List.length hr
  rw[aaE,Yp] at this
  lia
 have le:left=[]:=by
  have:=hp.length_eq
  rw[Yu,eS] at this
  dsimp only at this
  exact ZT (by lia)
 subst le
 rw[Zb] at hp
 rw[aaE] at hr
 dsimp only at e
 refine⟨os,s',?_,hp,hs'⟩
 rw[hr] at e
 simp only[c_,iI,aB,dE,cA,Nat.reduceAdd,Nat.reduceSub,mB m (by lia),G3 m (by lia),ic] at e ⊢
 simp only[aB,dE,cA,Nat.reduceAdd,Nat.reduceSub,e]
noncomputable def tO (os:List Int):U:=.tup (os.map .int)
theorem lX (n:Nat):aF 0 n=(ZA n).map fun i=>U.int (i:Nat):=by
 rw[ic];unfold aX;rw[Zc];rfl
theorem w9 (n:Nat):aX (n+1)=aX n++[(n:Int)]:=by
 unfold aX;rw[List.range_succ,Y2];rfl
theorem w_ {z:Nat}(h:z≤m):(aX m).take z=aX z:=by
 unfold aX;rw[←adf,List.take_range,aad h]
theorem HH (us:List U)(a b:Nat)(h:a≤b)(h2:b≤us.length):g_ us (some (a:Int)) (some (b:Int))=(us.drop a).take (b - a):=by
 unfold g_
 rw[HT.sIx_nat,HT.sIx_nat,aad h2,aad (Zd h h2)]
noncomputable def PZ:Nat→Nat
 |0=>1
 |n+1=>PZ n*(n+1)
theorem E_ {os:List Int}(h:os.Perm (aX k)):(os.take j++[(k:Int)]++os.drop j).Perm (aX (k+1)):=by
 rw[w9,YW]
 refine (ZP).trans ?_
 rw[YW]
 have:(os.drop j++os.take j).Perm (aX k):=(ZP).trans (by rw[Zz];exact h)
 exact ((aal [(k:Int)] this)).trans ZP
theorem HJ {a b c d e f g:Option U}{oss:List (List Int)}(hk:k≤8)(hl:oss.length≤1000)(hp:∀os∈oss,os.Perm (aX k))(v4:Option U) :
  ∃(ls:List (List Int)) (v4':Option U),eM (cF 4) (gZ (gM "list" 9 cZ (aa (jO (g8 (aa (aZ bR (ae 8) (gC (.int 1))) ak)) [none,some 4,some 8] (cF 0) eO (aZ bR (aZ bR (kP jU (ae 1) cI (bW (ae 0))) (cw (aa (ae 2) ak))) (kP jU (ae 1) (bW (ae 0)) cI))) ak))) (oss.map tO)
   [a,b,c,d,v4,e,f,g,some (.int k),some (.lst [])]=.nx [a,b,c,d,v4',e,f,g,some (.int k),some (.lst (ls.map tO))]∧ls.length=oss.length*(k+1)∧∀os∈ls,os.Perm (aX (k+1)):=by
 obtain⟨ρ',e1,ls,v,e2,l2,p2⟩:=cN (us:=oss.map tO) (sg:=cF 4) (s:=gZ (gM "list" 9 cZ (aa (jO (g8 (aa (aZ bR (ae 8) (gC (.int 1))) ak)) [none,some 4,some 8] (cF 0) eO (aZ bR (aZ bR (kP jU (ae 1) cI (bW (ae 0))) (cw (aa (ae 2) ak))) (kP jU (ae 1) (bW (ae 0)) cI))) ak)))
  (fun i ρ=>∃(ls:List (List Int)) (v:Option U),ρ=[a,b,c,d,v,e,f,g,some (.int k),some (.lst (ls.map tO))]∧ls.length=i*(k+1)∧∀os∈ls,os.Perm (aX (k+1)))
  (fun i u ρ hu h00=>by
   obtain⟨ls,v,hr,Fp,Cg⟩:=h00
   subst hr
   rw[YH] at hu
   cases ho:oss[i]? with
   |none=>rw[ho] at hu;cases hu
   |some os =>
    rw[ho] at hu
    cases hu
    have FI:=hp os (Z4 ho)
    have lo:os.length=k:=by have:=FI.length_eq;rwa [eS] at this
    have hi:i<oss.length:=by
     rcases acj i oss.length with z|z
     ·exact z
     ·rw[aab.mpr z] at ho;cases ho
    have sz:Yx=16777216:=rfl
    have l1:(1:Nat)≤Yx:=by decide
    have e0:xn (zm [none,some 4,some 8] (cF 0) eO (aZ bR (aZ bR (kP jU (ae 1) cI (bW (ae 0))) (cw (aa (ae 2) ak))) (kP jU (ae 1) (bW (ae 0)) cI)) [a,b,c,d,some (tO os),e,f,g,some (.int k),some (.lst (ls.map tO))]) ((ZA (k+1)).map fun i=>U.int (i:Nat))=.ok ((ZA (k+1)).map fun j=>tO (os.take j++[(k:Int)]++os.drop j)) :=
     gd fun j hj=>by
      have q1:((os.map U.int).take j).length+1≤Yx:=by rw[YJ,Yp];lia
      have q2:((os.map U.int).take j++[U.int k]).length+((os.map U.int).drop j).length≤Yx:=by rw[Yu,YJ,Y1,Yp,Z0];lia
      simp only[aB,dE,cA,Nat.reduceAdd,Nat.reduceSub,tO,lV,il,l1,q1,q2]
      simp only[Y2,adf,adg,Yw,ZM]
    have hm:i*(k+1)≤1000*9:=ad4 (by lia) (by lia)
    have q3:(ls.map tO).length+((ZA (k+1)).map fun j=>tO (os.take j++[(k:Int)]++os.drop j)).length≤Yx:=by
     rw[Yp,Yp,Z2];lia
    have ek:(k:Int)+1=((k+1:Nat):Int):=rfl
    refine⟨[a,b,c,d,some (tO os),e,f,g,some (.int k),some (.lst (ls.map tO))],[a,b,c,d,some (tO os),e,f,g,some (.int k),some (.lst ((ls++(ZA (k+1)).map fun j=>os.take j++[(k:Int)]++os.drop j).map tO))],rfl,.inl ?_,_,_,rfl,?_,?_⟩
    ·simp only[aB,dE,cA,Nat.reduceAdd,Nat.reduceSub,ek,mB (k+1) (by lia),lX,e0,E2,q3]
     simp only[Y2,Zc]
     rfl
    ·rw[Yu,Yp,Z2,Fp,Nat.add_mul,Nat.one_mul]
    ·intro x hx
     rcases Y4.mp hx with z|z
     ·exact Cg x z
     ·obtain⟨j,_,rfl⟩:=Y9.mp z
      exact E_ FI) (ρ:=[a,b,c,d,v4,e,f,g,some (.int k),some (.lst [])]) ⟨[],v4,rfl,by simp,fun x hx=>by cases hx⟩
 subst e2
 rw[Yp] at l2
 exact⟨ls,v,e1,l2,p2⟩
theorem L_ {os:List Int}(h:AE m os):os.length=m:=by have:=h.length_eq;rwa [eS] at this
theorem Fb (l:List Int)(k:Nat):(l.drop k++l.take k).Perm l:=(ZP).trans (by rw[Zz])
theorem B8 (l:List Int)(h:Nat):(((l.drop h).take h++l.take h)++l.drop (h+h)).Perm l:=by
 have e:l=l.take h++((l.drop h).take h++l.drop (h+h)):=by
  rw[←ad0,Zz,Zz]
 have p:((l.drop h).take h++l.take h).Perm (l.take h++(l.drop h).take h):=ZP
 refine (Z6 _ p).trans ?_
 rw[YW,←e]
noncomputable def jK (m:Nat)(r:R (U×U)):Prop:=∃(oss:List (List Int)) (s':U),r=.ok (.tup (oss.map tO),s')∧(∀os∈oss,AE m os)∧1≤oss.length∧oss.length≤24∧vc s'
theorem HK {s:U}{w:Int}(h8:m≤8)(e1:aG [s,.int 6]=.ok (.int w,s1))(yY:vc s1)(hw:w=4∨w=5):jK m (aC [s,.int m]):=by
 have sz:Yx=16777216:=rfl
 obtain⟨t,s2,e2,t0,t1,nO⟩:=iO (m:=4) yY (by decide) (by decide)
 obtain⟨n,hn⟩:∃n:Nat,1+t=n:=⟨(1+t).toNat,by lia⟩
 obtain⟨ys,s3,e3,ly,oss,hy,ho,RL⟩:=pT (G:=gb) (js:=[none,some 0,some 1]) (sg:=cF 0) (ge:=pF 2 1 c_ (aa (ae 2) ak))
  (fun x:U=>[some x,some (.int m),some (.tup (aF 0 m)),some (.int w),none,none,none,none,none,none]) n (fun ys x=>∃oss:List (List Int),ys=oss.map tO∧(∀os∈oss,AE m os)∧vc x)
  (fun done u x hd h00=>by
   obtain⟨oss,hr,hp,hs⟩:=h00
   obtain⟨os,x',b1,b2,b3⟩:=w6 (m:=m) hs (by lia)
   refine⟨[some u,some x,some (.int m)],tO os,[some u,some x',some (.int m)],x',rfl,?_,rfl,oss++[os],by rw[hr,Y2];rfl,?_,b3⟩
   ·simp only[aB,dE,cA,Nat.reduceAdd,Nat.reduceSub,b1,tO]
   ·intro y hy
    rcases Y4.mp hy with z|z
    ·exact hp y z
    ·rw[Zt.mp z];exact b2) (aF 0 n) [] s2 (by rw[bA];simp) ⟨[],rfl,(fun x hx=>by cases hx),nO⟩
 rw[aaE] at hy
 rw[bA] at ly
 have lo:oss.length=n:=by
  have:=congrArg List.length hy
  rw[Yp] at this
  lia
 refine⟨oss,s3,?_,ho,by lia,by lia,RL⟩
 rw[hy] at e3
 rcases hw with rfl|rfl<;>simp only[aC,bY,aB,dE,cA,Nat.reduceAdd,Nat.reduceSub,lq m (by lia),e1,cL,Int.reduceBEq,id,e2,hn,mB n (by lia),e3]
theorem Ma {s:U}(h1:1≤m)(h8:m≤8)(e1:aG [s,.int 6]=.ok (.int 0,s1))(yY:vc s1):jK m (aC [s,.int m]):=by
 have sz:Yx=16777216:=rfl
 have e0:xn (zm [none,some 2] (cF 0) eO (aZ bR (kP jU (ae 1) (bW (ae 0)) cI) (kP jU (ae 1) cI (bW (ae 0)))) [some s1,some (.int m),some (.tup (aF 0 m)),some (.int 0),none,none,none,none,none,none]) (aF 0 m)
   = .ok ((ZA m).map fun k=>.tup ((aF 0 m).drop k++(aF 0 m).take k)):=by
  have:=gd (f:=zm [none,some 2] (cF 0) eO (aZ bR (kP jU (ae 1) (bW (ae 0)) cI) (kP jU (ae 1) cI (bW (ae 0)))) [some s1,some (.int m),some (.tup (aF 0 m)),some (.int 0),none,none,none,none,none,none])
   (c:=fun i:Nat=>U.int (i:Nat)) (g:=fun k=>.tup ((aF 0 m).drop k++(aF 0 m).take k)) (xs:=ZA m) fun k hk=>by
    have q:((aF 0 m).drop k).length+((aF 0 m).take k).length≤Yx:=by rw[Y1,YJ,bA];lia
    simp only[aB,dE,cA,Nat.reduceAdd,Nat.reduceSub,lV,il,q]
  rwa [←lX] at this
 refine⟨(ZA m).map fun k=>(aX m).drop k++(aX m).take k,s1,?_,?_,by rw[Yp,Z2];exact h1,by rw[Yp,Z2];lia,yY⟩
 ·simp only[aC,bY,aB,dE,cA,Nat.reduceAdd,Nat.reduceSub,lq m (by lia),e1,cL,Int.reduceBEq,id,mB m (by lia),e0]
  rw[Zc]
  congr 4
  funext k
  show U.tup _=tO _
  unfold tO
  rw[ic,Y2,adg,adf]
 ·intro os ho
  obtain⟨k,_,rfl⟩:=Y9.mp ho
  exact Fb _ _
theorem Mb {s:U}(h8:m≤8)(e1:aG [s,.int 6]=.ok (.int 1,s1))(yY:vc s1):jK m (aC [s,.int m]):=by
 have l2:(2:Nat)≤Yx:=by decide
 obtain⟨os,s2,b1,b2,b3⟩:=w6 (m:=m) yY (by lia)
 refine⟨[aX m,os],s2,?_,?_,by simp,by simp,b3⟩
 ·simp only[aC,bY,aB,dE,cA,Nat.reduceAdd,Nat.reduceSub,lq m (by lia),e1,cL,Int.reduceBEq,id,b1,l2,tO,ic]
 ·intro x hx
  simp only[YU,aaL,or_false] at hx
  rcases hx with rfl|rfl
  ·exact aao _
  ·exact b2
theorem HL {s:U}(h1:1≤m)(h8:m≤8)(e1:aG [s,.int 6]=.ok (.int 2,s1))(yY:vc s1):jK m (aC [s,.int m]):=by
 have sz:Yx=16777216:=rfl
 have l2:(2:Nat)≤Yx:=by decide
 have d1:vC (m:Int) 2=true:=t9 (by decide) (by decide)
 have d2:kX 2 ((m / 2:Nat):Int)=true:=pS (by decide) (by decide)
 have e2:(m:Int) / 2=((m / 2:Nat):Int):=by lia
 have e3:(2:Int)*((m / 2:Nat):Int)=((m / 2+m / 2:Nat):Int):=by lia
 have c1:g_ (aF 0 m) (some ((m / 2:Nat):Int)) (some ((m / 2+m / 2:Nat):Int))=((aF 0 m).drop (m / 2)).take (m / 2):=by
  rw[HH _ _ _ (by lia) (by rw[bA];lia),adO]
 have q1:(((aF 0 m).drop (m / 2)).take (m / 2)).length+((aF 0 m).take (m / 2)).length≤Yx:=by rw[YJ,Y1,YJ,bA];lia
 have q2:(((aF 0 m).drop (m / 2)).take (m / 2)++(aF 0 m).take (m / 2)).length+((aF 0 m).drop (m / 2+m / 2)).length≤Yx:=by rw[Yu,YJ,Y1,YJ,Y1,bA];lia
 refine⟨[aX m,((aX m).drop (m / 2)).take (m / 2)++(aX m).take (m / 2)++(aX m).drop (m / 2+m / 2)],s1,?_,?_,by simp,by simp,yY⟩
 ·simp only[aC,bY,aB,dE,cA,Nat.reduceAdd,Nat.reduceSub,lq m (by lia),e1,cL,Int.reduceBEq,id,d1,e2,d2,e3,c1,lV,il,q1,q2,l2]
  simp only[tO,Y2,adf,adg,ic]
 ·intro x hx
  simp only[YU,aaL,or_false] at hx
  rcases hx with rfl|rfl
  ·exact aao _
  ·exact B8 _ _
theorem JK (h:n≤4):1≤PZ n∧PZ n≤24:=by
 have:n=0∨n=1∨n=2∨n=3∨n=4:=by lia
 rcases this with rfl|rfl|rfl|rfl|rfl<;>decide
theorem Mc {s:U}(h1:1≤m)(h8:m≤8)(e1:aG [s,.int 6]=.ok (.int 3,s1))(yY:vc s1):jK m (aC [s,.int m]):=by
 have sz:Yx=16777216:=rfl
 have l0:(0:Nat)≤Yx:=by decide
 have l1:(1:Nat)≤Yx:=by decide
 obtain⟨t,s2,e2,t0,t1,nO⟩:=iO (m:=3) yY (by decide) (by decide)
 obtain⟨z,hz⟩:∃z:Nat,(if 2+t<(m:Int) then 2+t else (m:Int))=z:=⟨(if 2+t<(m:Int) then 2+t else (m:Int)).toNat,by split<;>lia⟩
 have zb:1≤z∧z≤4∧z≤m:=by split at hz<;>lia
 obtain⟨ρ',e3,oss,v4,v8,rfl,l3,p3⟩:=cN (us:=aF 0 z) (sg:=cF 8) (s:=(aN (bj 9 (eL ak))
 (aN (fG (g7 (ae 6)) (cF 4)
 (gZ (gM "list" 9 cZ (aa (jO (g8 (aa (aZ bR (ae 8) (gC (.int 1))) ak)) [none,some 4,some 8] (cF 0) eO (aZ bR (aZ bR (kP jU (ae 1) cI (bW (ae 0))) (cw (aa (ae 2) ak))) (kP jU (ae 1) (bW (ae 0)) cI))) ak))))
 (vy 6 9))))
  (fun i ρ=>∃(oss:List (List Int)) (v4 v8:Option U),ρ=[some s2,some (.int m),some (.tup (aF 0 m)),some (.int 3),v4,none,some (.lst (oss.map tO)),some (.int z),v8,none]∧oss.length=PZ i∧∀os∈oss,os.Perm (aX i))
  (fun i u ρ hu h00=>by
   obtain⟨oss,v4,v8,hr,hl,hp⟩:=h00
   subst hr
   have hi:i<z:=by
    rcases acj i z with y|y
    ·exact y
    ·rw[aab.mpr (by rw[bA];exact y)] at hu;cases hu
   obtain rfl:u=.int i:=by
    rw[lX,YH,List.getElem?_range hi] at hu
    cases hu;rfl
   obtain⟨ls,v4',g1,g2,g3⟩:=HJ (a:=some s2) (b:=some (.int m)) (c:=some (.tup (aF 0 m))) (d:=some (.int 3)) (e:=none) (f:=some (.lst (oss.map tO))) (g:=some (.int z)) (k:=i) (oss:=oss) (by lia) (by have:=JK (n:=i) (by lia);lia) hp v4
   refine⟨[some s2,some (.int m),some (.tup (aF 0 m)),some (.int 3),v4,none,some (.lst (oss.map tO)),some (.int z),some (.int i),none],[some s2,some (.int m),some (.tup (aF 0 m)),some (.int 3),v4',none,some (.lst (ls.map tO)),some (.int z),some (.int i),none],rfl,.inl ?_,ls,v4',some (.int i),rfl,by rw[g2,hl];rfl,g3⟩
   simp only[aB,dE,cA,Nat.reduceAdd,Nat.reduceSub,l0,g1])
  (ρ:=[some s2,some (.int m),some (.tup (aF 0 m)),some (.int 3),none,none,some (.lst [.tup []]),some (.int z),none,none]) ⟨[[]],none,none,rfl,rfl,fun x hx=>by rw[Zt.mp hx];exact aao _⟩
 rw[bA] at l3 p3
 have e4:xn (zm [none,some 2,some 7] (cF 0) eO (aZ bR (ae 0) (kP jU (ae 1) (bW (ae 2)) cI)) [some s2,some (.int m),some (.tup (aF 0 m)),some (.int 3),v4,none,some (.lst (oss.map tO)),some (.int z),v8,none]) (oss.map tO)=.ok (oss.map fun os=>tO (os++(aX m).drop z)) :=
  gd fun os ho=>by
   have lo:os.length=z:=by have:=(p3 os ho).length_eq;rwa [eS] at this
   have q:(os.map U.int).length+((aF 0 m).drop z).length≤Yx:=by rw[Yp,Y1,bA];lia
   simp only[aB,dE,cA,Nat.reduceAdd,Nat.reduceSub,tO,il,q]
   simp only[Y2,adg,ic]
 have fb:=JK (n:=z) zb.2.1
 refine⟨oss.map fun os=>os++(aX m).drop z,s2,?_,?_,by rw[Yp];lia,by rw[Yp];lia,nO⟩
 ·simp only[aC,bY,aB,dE,cA,Nat.reduceAdd,Nat.reduceSub,lq m (by lia),e1,cL,Int.reduceBEq,id,l0,l1,e2,hz,mB z (by lia),e3,e4]
  rw[Zc]
  rfl
 ·intro x hx
  obtain⟨os,ho,rfl⟩:=Y9.mp hx
  have:(aX m)=aX z++(aX m).drop z:=by
   rw[←w_ zb.2.2,Zz]
  show (os++_).Perm (aX m)
  refine (Z6 _ (p3 os ho)).trans ?_
  rw[←this]
theorem yP {s:U}(h:vc s)(h1:1≤m)(h8:m≤8):jK m (aC [s,.int m]):=by
 obtain⟨w,s1,e1,w0,w1,yY⟩:=iO (m:=6) h (by decide) (by decide)
 have hw:w=0∨w=1∨w=2∨w=3∨w=4∨w=5:=by lia
 rcases hw with rfl|rfl|rfl|rfl|hw
 ·exact Ma h1 h8 e1 yY
 ·exact Mb h8 e1 yY
 ·exact HL h1 h8 e1 yY
 ·exact Mc h1 h8 e1 yY
 ·exact HK h8 e1 yY hw
noncomputable def Ye (n:Nat)(u:U):Prop:=∃d,zw u=some d∧KD d≤n
end Hc
namespace Hc
open L2
open Hc.Cn Hc.Ts
noncomputable def OI (us:List U)(ρ:Ev):R (List U×Ev):=match us with
 | [u,w]=>match BC u,BC w with
  |some us,some ws=>.ok (aaT (fun a b=>.tup [a,b]) us ws,ρ)
  |_,_=>.stk
 |_=>.stk
theorem OJ {ga:Ev→R (List U×Ev)}:GU ga ρ=(ga ρ).bind fun x=>OI x.1 x.2:=nr rfl
theorem HM {ws:List U}:OI [.tup us,.tup ws] ρ=.ok (aaT (fun a b=>.tup [a,b]) us ws,ρ):=nr rfl
noncomputable def HN (T1 T2:String)(u:U)(ρ:Ev):R (U×Ev):=if Bo u="script" then .stk else .ok (.bl (d9 (Bo u) T1||d9 (Bo u) T2),ρ)
theorem uU {T1 T2:String}{g:Ev→R (U×Ev)}:xX T1 T2 g ρ=(g ρ).bind fun x=>HN T1 T2 x.1 x.2:=nr rfl
theorem HP {i:Int}:HN "tuple" "list" (.int i) ρ=.ok (.bl false,ρ):=(if_neg (show ¬("int"="script") by decide)).trans (congrArg (fun z=>R.ok (U.bl z,ρ)) (show (d9 "int" "tuple"||d9 "int" "list")=false by decide))
theorem HQ {i:Str}:HN "tuple" "list" (.str i) ρ=.ok (.bl false,ρ):=(if_neg (show ¬("str"="script") by decide)).trans (congrArg (fun z=>R.ok (U.bl z,ρ)) (show (d9 "str" "tuple"||d9 "str" "list")=false by decide))
theorem HU:HN "tuple" "list" (.tup us) ρ=.ok (.bl true,ρ):=(if_neg (show ¬("tuple"="script") by decide)).trans (congrArg (fun z=>R.ok (U.bl z,ρ)) (show (d9 "tuple" "tuple"||d9 "tuple" "list")=true by decide))
theorem Fc {i:Int}:bC (k+1) [.int i,.int i]=.ok (.bl true):=by
 simp only[bC,cC,aB,dE,cA,Nat.reduceAdd,Nat.reduceSub,uU,HP,beq_self_eq_true,id]
theorem Fd {i:Str}:bC (k+1) [.str i,.str i]=.ok (.bl true):=by
 simp only[bC,cC,aB,dE,cA,Nat.reduceAdd,Nat.reduceSub,uU,HQ,uz,beq_self_eq_true,id]
theorem HV (us:List U):aaT (fun a b=>U.tup [a,b]) us us=us.map fun a=>.tup [a,a]:=by
 induction us with
 |nil=>rfl
 |cons u us ih=>rw[aaZ,ih];rfl
theorem xa (h:∀u∈us,bC k [u,u]=.ok (.bl true)):bC (k+1) [.tup us,.tup us]=.ok (.bl true):=by
 have e:xn (zm [none,none] (ed 2 (aT (cF 0) (aT (cF 1) d_))) eO (fF 2 (eP .S 2 (cC k)) (aa (ae 0) (aa (ae 1) ak))) [some (.tup us),some (.tup us)]) (us.map fun a=>U.tup [a,a])=.ok ((us.map fun a=>U.tup [a,a]).map fun _=>.bl true):=by
  refine zT fun u hu => ?_
  obtain⟨x,hx,rfl⟩:=Y9.mp hu
  have hs:eP .S 2 (cC k) [x,x]=.ok (.bl true):=h x hx
  rw[Eg,MX]
  simp only[aB,dE,cA,Nat.reduceAdd,Nat.reduceSub]
  simp only[yc] at hs
  simp only[aB,dE,cA,Nat.reduceAdd,Nat.reduceSub] at hs
  simp only[hs,aB,dE,cA,Nat.reduceAdd,Nat.reduceSub]
 rw[Zc] at e
 have ea:=yg us fun _=>true
 have eb:(us.all fun _=>true)=true:=by rw[ZN];intros;rfl
 rw[eb] at ea
 simp only[bC,cC,aB,dE,cA,Nat.reduceAdd,Nat.reduceSub,uU,HU,beq_self_eq_true,abT,OJ,HM,HV,id]
 have e3:((fun _=>U.bl true)∘fun a=>U.tup [a,a])=fun _:U=>U.bl true:=rfl
 rw[e3] at e
 simp only[e,aB,dE,cA,Nat.reduceAdd,Nat.reduceSub,ea]
theorem HW (rs:List (List Int)):bC 20 [SU rs,SU rs]=.ok (.bl true):=xa fun u hu=>by
 obtain⟨x,_,rfl⟩:=Y9.mp hu
 exact xa fun u hu=>by
  obtain⟨y,_,rfl⟩:=Y9.mp hu
  exact Fc
theorem B9 {e:Dc}(hd:d≠[])(he:e≠[]):∃t,qu id (DU d) (DU e)=.ok (.bl t):=by
 have i1:∀d:Dc,dW (kC d)=some (d.map (·.2)):=fun d=>by
  have:kC d=(d.map (·.2)).map U.int:=by unfold kC;rw[Zc];rfl
  rw[this,jJ]
 refine⟨id (EN (iM d) (kC d) (iM e) (kC e)),?_⟩
 show (if (oP (iM d)&&oP (iM e)&&(dW (kC d)).isSome&&(dW (kC e)).isSome)=true then R.ok (U.bl (id (EN (iM d) (kC d) (iM e) (kC e)))) else R.stk)=_
 rw[kq hd,kq he,i1,i1];rfl
theorem Fe {a b:List (List Int)}(ha:Sh n a)(hb:Sh n b):∃(t:Bool) (x y:U),qx [SU a,SU b]=.ok (.bl t)∧bg [SU a]=.ok x∧bg [SU b]=.ok y∧qu id x y=.ok (.bl t):=by
 have la:=ha.ln
 have lb:=hb.ln
 have sa:=qL ha.ne (by lia)
 have sb:=qL hb.ne (by lia)
 obtain⟨t,e⟩:=B9 (lT sa) (lT sb)
 refine⟨t,_,_,?_,mL (gI a) (by lia) sa,mL (gI b) (by lia) sb,e⟩
 have c1:=iN (gI a) (by lia)
 have c2:=iN (gI b) (by lia)
 have l1:=jt sa
 have l2:=jt sb
 unfold qx yF
 simp only[aB,dE,cA,Nat.reduceAdd,Nat.reduceSub,c1,c2,l1,l2,e]
theorem Sh.of {l':List (List Int)}(h:Sh n l)(ne:l'≠[])(ln:l'.length≤24)(sub:∀a∈l',a∈l):Sh n l':=⟨ne,by lia,h.n1,h.n8,fun a ha=>h.len a (sub a ha),fun a ha=>h.bd a (sub a ha)⟩
theorem qN (h:0<l.length):l≠[]:=aaX.mp h
theorem AF {s:U}(h:vc s)(hl:Sh n l)(VH:l.length≤24):∃(l':List (List Int)) (s':U),bU [s,SU l]=.ok (SU l',s')∧Sh n l'∧l'.length≤24∧vc s':=by
 have sz:Yx=16777216:=rfl
 have one:(1:Nat)≤Yx:=by decide
 have l0:0<l.length:=aaX.mpr hl.ne
 obtain⟨w,s1,e1,w0,w1,h1⟩:=iO (m:=4) h (by decide) (by decide)
 have k0:(l.map au).length=l.length:=Yp _
 obtain⟨r,s2,e2,r0,r1,h2⟩:=iO (m:=((l.map au).length:Int)) h1 (by lia) (by lia)
 obtain⟨j,rfl⟩:∃j:Nat,r=j:=⟨r.toNat,by lia⟩
 have hj:j<l.length:=by lia
 have ct:=lV (l.map au) j
 have cd:=il (l.map au) j
 have O9:g_ (l.map au) (some ((j:Int)+1)) none=(l.map au).drop (j+1):=il (l.map au) (j+1)
 rw[←adf] at ct
 rw[←adg] at cd O9
 have ha:kG (l.map au) (j:Int)=some (au l[j]):=by rw[sd,YH,Ys hj];rfl
 have k1:((l.drop j).map au).length=l.length - j:=by rw[Yp,Y1]
 have k2:((l.take j).map au).length=j:=by rw[Yp,YJ];lia
 have k3:((l.drop (j+1)).map au).length=l.length - (j+1):=by rw[Yp,Y1]
 have q1:(l.map au).length+((l.drop j).map au).length≤Yx:=by lia
 have q2:(l.map au++(l.drop j).map au).length+((l.take j).map au).length≤Yx:=by rw[Yu];lia
 have q3:(l.map au).length+1≤Yx:=by lia
 have q4:((l.take j).map au).length+((l.drop (j+1)).map au).length≤Yx:=by lia
 have q5:((l.drop j).map au).length+((l.take j).map au).length≤Yx:=by lia
 have b0:∀{a b:Int},a=b→(a==b)=true:=fun e=>by rw[e];exact beq_self_eq_true _
 have b1:∀{a b:Int},a≠b→(a==b)=false:=fun e=>beq_false_of_ne e
 by_cases c0:w=0∧l.length<13
 ·refine⟨l++l.drop j++l.take j,s2,?_,hl.of (qN (by rw[Yu,Yu];lia)) (by rw[Yu,Yu,Y1,YJ];lia) ?_,by rw[Yu,Yu,Y1,YJ];lia,h2⟩
  ·have d:=decide_eq_true (show ((l.map au).length:Int)<13 by lia)
   unfold bU eh SU
   rw[Y2,Y2]
   simp only[aB,dE,cA,Nat.reduceAdd,Nat.reduceSub,e1,e2,cL,b0 c0.1,id,d,ct,cd,q1,q2]
  ·intro a ha
   rcases Y4.mp ha with ha|ha
   ·rcases Y4.mp ha with ha|ha
    ·exact ha
    ·exact ZW ha
   ·exact ZJ ha
 by_cases c1:w=1∧l.length<24
 ·refine⟨l++[l[j]],s2,?_,hl.of (qN (by rw[Yu];lia)) (by rw[Yu];exact c1.2) ?_,by rw[Yu];exact c1.2,h2⟩
  ·have d:=decide_eq_true (show ((l.map au).length:Int)<24 by lia)
   unfold bU eh SU
   rw[Y2,Yw,ZM]
   have n0:(w==0)=false:=b1 (by lia)
   simp only[aB,dE,cA,Nat.reduceAdd,Nat.reduceSub,e1,e2,cL,n0,b0 c1.1,id,d,ha,one,q3]
  ·intro a ha
   rcases Y4.mp ha with ha|ha
   ·exact ha
   ·rw[Zt] at ha
    rw[ha];exact YX hj
 by_cases c2:w=2∧1<l.length
 ·refine⟨l.take j++l.drop (j+1),s2,?_,hl.of (qN (by rw[Yu,YJ,Y1];lia)) (by rw[Yu,YJ,Y1];lia) ?_,by rw[Yu,YJ,Y1];lia,h2⟩
  ·have d:=decide_eq_true (show (1:Int)<((l.map au).length:Int) by lia)
   unfold bU eh SU
   rw[Y2]
   have m0:(w==0)=false:=b1 (by lia)
   have m1:(w==1)=false:=b1 (by lia)
   simp only[aB,dE,cA,Nat.reduceAdd,Nat.reduceSub,e1,e2,cL,m0,m1,b0 c2.1,id,d,ct,O9,q4]
  ·intro a ha
   rcases Y4.mp ha with ha|ha
   ·exact ZJ ha
   ·exact ZW ha
 refine⟨l.drop j++l.take j,s2,?_,hl.of (qN (by rw[Yu,YJ,Y1];lia)) (by rw[Yu,YJ,Y1];lia) ?_,by rw[Yu,YJ,Y1];lia,h2⟩
 ·unfold bU eh SU
  rw[Y2]
  have hw:w=0∨w=1∨w=2∨w=3:=by lia
  rcases hw with rfl|rfl|rfl|rfl
  ·have d:decide (((l.map au).length:Int)<13)=false:=decide_eq_false (by lia)
   simp only[aB,dE,cA,Nat.reduceAdd,Nat.reduceSub,e1,e2,cL,show ((0:Int)==0)=true from rfl,show ((0:Int)==1)=false from rfl,show ((0:Int)==2)=false from rfl,id,d,ct,cd,q5]
  ·have d:decide (((l.map au).length:Int)<24)=false:=decide_eq_false (by lia)
   simp only[aB,dE,cA,Nat.reduceAdd,Nat.reduceSub,e1,e2,cL,show ((1:Int)==1)=true from rfl,show ((1:Int)==0)=false from rfl,show ((1:Int)==2)=false from rfl,id,d,ct,cd,q5]
  ·have d:decide ((1:Int)<((l.map au).length:Int))=false:=decide_eq_false (by lia)
   simp only[aB,dE,cA,Nat.reduceAdd,Nat.reduceSub,e1,e2,cL,show ((2:Int)==2)=true from rfl,show ((2:Int)==0)=false from rfl,show ((2:Int)==1)=false from rfl,id,d,ct,cd,q5]
  ·simp only[aB,dE,cA,Nat.reduceAdd,Nat.reduceSub,e1,e2,cL,show ((3:Int)==0)=false from rfl,show ((3:Int)==1)=false from rfl,show ((3:Int)==2)=false from rfl,id,ct,cd,q5]
 ·intro a ha
  rcases Y4.mp ha with ha|ha
  ·exact ZW ha
  ·exact ZJ ha
end Hc
namespace Hc
open L2
open Hc.Cn Hc.Ts
noncomputable def P0:Ev→SR:=(aN (bj 8 (fF 2 dk (aa (ae 6) (aa (ae 7) ak))))
 (aN (qW (gB (aZ GG (iR iA (aa (ae 8) ak)) (gC (.int 24)))) (bj 8 (gC (.str "many"))) dO)
 (qW (Bi (gB (fF 2 (bC 20) (aa (fF 2 bD (aa (ae 6) (aa (ae 7) ak))) (aa (ae 8) ak))))) (cz (gC (.bl false))) dO)))
noncomputable def P1:Ev→SR:=(aN (bj 10 (fF 2 qx (aa (ae 6) (aa (ae 7) ak))))
 (qW (MP (Bi (gB (jV "bool" (ae 10)))) (gB (aZ (gP not) (ae 10) (aZ (qu id) (fF 1 bg (aa (ae 6) ak)) (fF 1 bg (aa (ae 7) ak)))))) (cz (gC (.bl false))) dO))
noncomputable def bL:Ev→SR:=(aN (bj 2 (fF 2 dN (aa (ae 0) (aa (ae 1) ak))))
 (aN (bj 3 (aZ bR (gC (.int 1)) (pF 2 2 aG (aa (gC (.int 6)) ak))))
 (aN (Bl 4 5 (aa (pF 2 2 aC (aa (ae 3) ak)) (aa (pF 2 2 aC (aa (ae 3) ak)) ak)))
 (aN (fG (g7 (eL (aa (cw (aa (ae 4) (aa (ae 5) ak))) (aa (cw (aa (ae 5) (aa (ae 4) ak))) (aa (cw (aa (ae 4) (aa (ae 4) ak))) ak))))) (ed 2 (aT (cF 6) (aT (cF 7) d_))) P0)
 (aN (bj 9 (pF 2 2 bU (aa (ae 4) ak)))
 (fG (g7 (eL (aa (cw (aa (ae 4) (aa (ae 5) ak))) (aa (cw (aa (ae 4) (aa (ae 9) ak))) (aa (cw (aa (ae 9) (aa (ae 4) ak))) (aa (cw (aa (ae 5) (aa (ae 9) ak))) (aa (cw (aa (ae 5) (aa (pF 2 2 bU (aa (ae 5) ak)) ak))) ak))))))) (ed 2 (aT (cF 6) (aT (cF 7) d_))) P1))))))
theorem Ff:EU=(aN (fG (g8 (aa (iR vE (aa (gC (.int 1)) (aa (iR rT (aa (iR iA (aa (ae 0) ak)) (aa (gC (.int 4)) ak))) ak))) ak)) (cF 1) bL) (cz (gC (.bl true)))):=rfl
theorem Me {m:List (List Int)}(hl:Sh n l)(hm:Sh n m)(al:l.length≤24)(am:m.length≤24){x1:Option U} :
  ∃c,P0 [x0,x1,x2,x3,x4,x5,some (SU l),some (SU m),x8,x9,x10]=.nx [x0,x1,x2,x3,x4,x5,some (SU l),some (SU m),some c,x9,x10]:=by
 have h:l.length*m.length<1000:=acq (ad4 al am) (by decide)
 obtain⟨ss,e1,e2⟩:=HG hl hm h
 have e3:iA [SU ss]=.ok (.int ss.length):=by unfold SU;rw[ye,Yp]
 unfold P0
 by_cases c:24<ss.length
 ·have d:=decide_eq_true (show (24:Int)<(ss.length:Int) by lia)
  have sb:bC 20 [.str "many",.str "many"]=.ok (.bl true):=Fd
  rw[if_pos c] at e2
  refine⟨.str "many",?_⟩
  simp only[aB,dE,cA,Nat.reduceAdd,Nat.reduceSub,e1,e2,e3,d,sb]
 ·have d:=decide_eq_false (show ¬(24:Int)<(ss.length:Int) by lia)
  have sb:=HW ss
  rw[if_neg c] at e2
  refine⟨SU ss,?_⟩
  simp only[aB,dE,cA,Nat.reduceAdd,Nat.reduceSub,e1,e2,e3,d,sb]
theorem Mf {m:List (List Int)}(hl:Sh n l)(hm:Sh n m){x1:Option U} :
  ∃c,P1 [x0,x1,x2,x3,x4,x5,some (SU l),some (SU m),x8,x9,x10]=.nx [x0,x1,x2,x3,x4,x5,some (SU l),some (SU m),x8,x9,some c]:=by
 obtain⟨t,x,y,e1,e2,e3,e4⟩:=Fe hl hm
 refine⟨.bl t,?_⟩
 unfold P1
 simp only[aB,dE,cA,Nat.reduceAdd,Nat.reduceSub,e1,e2,e3,e4,uz,beq_self_eq_true,abT]
noncomputable def OL (p:List (List Int)×List (List Int)):U:=.tup [SU p.1,SU p.2]
theorem U5 {n:Nat}{x0 x1 x2 x3 x4 x5 x9 x10:Option U}:∀(ps:List (List (List Int)×List (List Int))) (y6 y7 y8:Option U),(∀p∈ps,Sh n p.1∧p.1.length≤24∧Sh n p.2∧p.2.length≤24) →
  ∃a b c,eM (ed 2 (aT (cF 6) (aT (cF 7) d_))) P0 (ps.map OL) [x0,x1,x2,x3,x4,x5,y6,y7,y8,x9,x10]=.nx [x0,x1,x2,x3,x4,x5,a,b,c,x9,x10]
 | [],y6,y7,y8,_=>⟨y6,y7,y8,by rw[ZM,oJ]⟩
 |p::ps,y6,y7,y8,h=>by
  obtain⟨h1,h2,h3,h4⟩:=h p YO
  obtain⟨c,e⟩:=Me h1 h3 h2 h4 (x0:=x0) (x1:=x1) (x2:=x2) (x3:=x3) (x4:=x4) (x5:=x5) (x8:=y8) (x9:=x9) (x10:=x10)
  obtain⟨a',b',c',e'⟩:=U5 ps (some (SU p.1)) (some (SU p.2)) (some c) fun q hq=>h q (YS _ hq)
  refine⟨a',b',c',?_⟩
  rw[Yw,pR]
  unfold OL at e' ⊢
  rw[MX]
  simp only[vP,aa6,acw]
  rw[e,oK,e']
theorem P2 {n:Nat}{x0 x1 x2 x3 x4 x5 x8 x9:Option U}:∀(ps:List (List (List Int)×List (List Int))) (y6 y7 y10:Option U),(∀p∈ps,Sh n p.1∧Sh n p.2) →
  ∃a b c,eM (ed 2 (aT (cF 6) (aT (cF 7) d_))) P1 (ps.map OL) [x0,x1,x2,x3,x4,x5,y6,y7,x8,x9,y10]=.nx [x0,x1,x2,x3,x4,x5,a,b,x8,x9,c]
 | [],y6,y7,y10,_=>⟨y6,y7,y10,by rw[ZM,oJ]⟩
 |p::ps,y6,y7,y10,h=>by
  obtain⟨h1,h3⟩:=h p YO
  obtain⟨c,e⟩:=Mf h1 h3 (x0:=x0) (x1:=x1) (x2:=x2) (x3:=x3) (x4:=x4) (x5:=x5) (x8:=x8) (x9:=x9) (x10:=y10)
  obtain⟨a',b',c',e'⟩:=P2 ps (some (SU p.1)) (some (SU p.2)) (some c) fun q hq=>h q (YS _ hq)
  refine⟨a',b',c',?_⟩
  rw[Yw,pR]
  unfold OL at e' ⊢
  rw[MX]
  simp only[vP,aa6,acw]
  rw[e,oK,e']
theorem AG {s:U}(h:vc s)(h1:1≤m)(h8:m≤8):∃(l:List (List Int)) (s':U),aC [s,.int m]=.ok (SU l,s')∧Sh m l∧l.length≤24∧vc s':=by
 obtain⟨oss,s2,e2,ho,l1,VH,h2⟩:=yP h h1 h8
 refine⟨oss,s2,e2,⟨qN (by lia),by lia,h1,h8,fun a ha=>L_ (ho a ha),fun a ha i hi => ?_⟩,VH,h2⟩
 exact yf.mp ((ho a ha).mem_iff.mp hi)
theorem OM {x6 x7:Option U}:∃a b c d e f g h j:Option U,bL [some (.scr (ns.map .int)),some (.int i),x2,x3,x4,x5,x6,x7,x8,x9,x10]=.nx [some (.scr (ns.map .int)),some (.int i),a,b,c,d,e,f,g,h,j]:=by
 obtain⟨s0,e0,h0⟩:=E9 (us:=[]) (u:=.scr (ns.map .int)) (ns:=ns) (k:=i) (.inl rfl) (by lia)
 obtain⟨m,s1,e1,m0,m1,h1⟩:=iO (m:=6) h0 (by decide) (by decide)
 obtain⟨k,hk⟩:∃k:Nat,1+m=k:=⟨(1+m).toNat,by lia⟩
 obtain⟨A,s2,e2,hA,lA,h2⟩:=AG (m:=k) h1 (by lia) (by lia)
 obtain⟨B,s3,e3,hB,lB,h3⟩:=AG (m:=k) h2 (by lia) (by lia)
 obtain⟨C,s4,e4,hC,lC,h4⟩:=AF h3 hA lA
 obtain⟨D,s5,e5,hD,lD,h5⟩:=AF h4 hB lB
 obtain⟨a1,b1,c1,g1⟩:=U5 (n:=k) (x0:=some (.scr (ns.map .int))) (x1:=some (.int i)) (x2:=some s3) (x3:=some (.int k)) (x4:=some (SU A)) (x5:=some (SU B)) (x9:=x9) (x10:=x10) [(A,B),(B,A),(A,A)] x6 x7 x8 (by
  intro p hp
  simp only[YU,ac3,or_false] at hp
  rcases hp with rfl|rfl|rfl
  ·exact⟨hA,lA,hB,lB⟩
  ·exact⟨hB,lB,hA,lA⟩
  ·exact⟨hA,lA,hA,lA⟩)
 obtain⟨a2,b2,c2,g2⟩:=P2 (n:=k) (x0:=some (.scr (ns.map .int))) (x1:=some (.int i)) (x2:=some s5) (x3:=some (.int k)) (x4:=some (SU A)) (x5:=some (SU B)) (x8:=c1) (x9:=some (SU C)) [(A,B),(A,C),(C,A),(B,C),(B,D)] a1 b1 x10 (by
  intro p hp
  simp only[YU,ac3,or_false] at hp
  rcases hp with rfl|rfl|rfl|rfl|rfl
  ·exact⟨hA,hB⟩
  ·exact⟨hA,hC⟩
  ·exact⟨hC,hA⟩
  ·exact⟨hB,hC⟩
  ·exact⟨hB,hD⟩)
 simp only[Yw,ZM,OL] at g1 g2
 have two:(2:Nat)≤Yx:=by decide
 have Pq:(3:Nat)≤Yx:=by decide
 have UD:(5:Nat)≤Yx:=by decide
 refine⟨some s5,some (.int k),some (SU A),some (SU B),a2,b2,c1,some (SU C),c2,?_⟩
 unfold bL
 simp only[aB,dE,cA,Nat.reduceAdd,Nat.reduceSub,e0,e1,hk,e2,e3,two,Pq,g1,e4,e5,UD,g2]
theorem pure_law (ns:List Int)(hl:ns.length≤63):wC [.scr (ns.map .int)]=.ok (.bl true):=by
 obtain⟨z,hz⟩:∃z:Nat,(if (if (4:Int)<(((ns.map U.int).length:Nat):Int) then 4 else (((ns.map U.int).length:Nat):Int))>1 then (if (4:Int)<(((ns.map U.int).length:Nat):Int) then 4 else (((ns.map U.int).length:Nat):Int)) else 1)=z:=⟨(if (if (4:Int)<(((ns.map U.int).length:Nat):Int) then 4 else (((ns.map U.int).length:Nat):Int))>1 then (if (4:Int)<(((ns.map U.int).length:Nat):Int) then 4 else (((ns.map U.int).length:Nat):Int)) else 1).toNat,by split<;>(try split)<;>lia⟩
 have zb:z≤1000:=by split at hz<;>(try split at hz)<;>lia
 obtain⟨ρ',e,a,b,c,d,e',f,g,h,j,k,rfl⟩:=cN (us:=aF 0 z) (sg:=cF 1) (s:=bL) (fun _ ρ=>∃a b c d e f g h j k:Option U,ρ=[some (.scr (ns.map .int)),a,b,c,d,e,f,g,h,j,k])
  (fun i u ρ hu h00=>by
   obtain⟨a,b,c,d,e,f,g,h,j,k,hr⟩:=h00
   subst hr
   have hi:i<z:=by
    rcases acj i z with y|y
    ·exact y
    ·rw[aab.mpr (by rw[bA];exact y)] at hu;cases hu
   obtain rfl:u=.int i:=by
    rw[lX,YH,List.getElem?_range hi] at hu
    cases hu;rfl
   obtain⟨a1,b1,c1,d1,e1,f1,g1,h1,j1,q⟩:=OM (ns:=ns) (i:=i) (x2:=b) (x3:=c) (x4:=d) (x5:=e) (x6:=f) (x7:=g) (x8:=h) (x9:=j) (x10:=k)
   exact⟨_,_,rfl,.inl q,_,_,_,_,_,_,_,_,_,_,rfl⟩)
  (ρ:=[some (.scr (ns.map .int)),none,none,none,none,none,none,none,none,none,none]) ⟨_,_,_,_,_,_,_,_,_,_,rfl⟩
 unfold wC
 rw[Ff]
 simp only[aB,dE,cA,Nat.reduceAdd,Nat.reduceSub,hz,mB z (by lia),e]
end Hc
namespace Hc
open L2
theorem walk {q:aa1}{d:DefRec}{K:Params→Yy}(OQ:d.params.defaults=[])(hY:∀(w:ack) (h:abr),YP w h→(K w.params).In h)(F:∀(w:ack) (mg:Str→Option Yv) (fa:YM) (h:abr),(K w.params).In h→h.Ns YQ mg→mg d.name=some (.ref fa) →
   ∃fd:ab7,(∀(s:YK) (u:Yv),BindsTo s fd ⟨[u],[]⟩ [("script",u)])∧∀base:abr,(K w.params).In base→base.Ns YQ mg→iU PySem.Challenge.rw_hushcards_k13_two_shuffles.prog w (K w.params) mg base s_ 22 fa fd ["script"] (vA (K w.params))) :
  PySem.W.WalkO q loose XP YP PySem.Challenge.rw_hushcards_k13_two_shuffles.row.toRowW d [] (fun f vs=>PySem.call f vs) :=
 L2.walk_of (l:=PySem.Challenge.rw_hushcards_k13_two_shuffles) (n:=63) (k:=22) (x:="script") (CX:=fun _=>s_) (sp:=fun w=>vA (K w.params)) rfl (by decide) OQ ⟨rfl,by decide,by decide⟩ hY F (fun _ _ a ns hl hO hS=>⟨a,ns,rfl,K4 hO hS,hl,fun _=>rfl⟩) fun _ _ _ _ _ z=>z
end Hc
open PySem PySem.W PyProof.Rows
set_option maxRecDepth 100000 in
set_option maxHeartbeats 0 in
theorem PySem.Challenge.cw_hushcards_k13_two_shuffles_holds : PySem.Challenge.rw_hushcards_k13_two_shuffles.Holds := by
 w_on
 refine PySem.W.holds_law (by decide +kernel) fun UE => ?_
 refine' PySem.W.holds_open Hc.left (PySem.W.Hook.of _) (PySem.W.Hook.keeps _) (XP:=PySem.W.XL Hc.vw [])
  (fun s e=>PySem.W.xl_of s (Bool.and_eq_true_iff.mp e).1) PySem.W.XL.keeps ?d ?t ?k
  (fun s e=>PySem.W.recFacts_of (Bool.and_eq_true_iff.mp e).2) ?w UE ?g ⟨rfl,rfl,rfl,rfl,rfl,by decide +kernel⟩ ?hw ?hc
 case d=>rfl
 case t=>rfl
 case k=>rfl
 case w=>rfl
 case g=>decide +kernel
 case hw=>w_witness2
 show PySem.W.WalkO Hc.vw [] (PySem.W.XL Hc.vw []) (PySem.W.InK Hc.Kf) _ _ _ _
 k_fill
 refine Hc.walk rfl (fun w h Y=>Y) ?F
 case F =>
  intro w mg fa h KX G OR
  refine' Hc.all_mk KX G OR ?a0 ?l0 ?c0 ?k0 ?a1 ?l1 ?c1 ?k1 ?a2 ?l2 ?c2 ?k2 ?a3 ?l3 ?c3 ?k3 ?a4 ?l4 ?c4 ?k4 ?a5 ?l5 ?c5 ?k5 ?a6 ?l6 ?c6 ?k6 ?a7 ?l7 ?c7 ?k7 ?a8 ?l8 ?c8 ?k8 ?a9 ?l9 ?c9 ?k9 ?R5 ?R6 ?R7 ?R8 ?Sj ?Sk ?Sl ?Sn ?SA ?SD ?SE ?SF ?SV ?SW ?SX ?SY ?S9 ?S_ ?Ta ?Tb ?To ?Tp ?Tq ?Tr ?TH ?TJ ?TL ?TM ?T4 ?T5 ?T6 ?T7 ?Uh ?Ui ?Uj ?Uk ?Uv ?Uw ?Ux ?Uy ?Qc ?Qd ?Qe ?Qf ?z_abs ?z_all ?z_bool ?z_dict ?z_isinstance ?z_len ?z_list ?z_max ?z_min ?z_range ?z_sorted ?z_sum ?z_tuple ?z_zip ?g_MOST_ORDERS ?qS ?uZ ?u3 ?jB ?jM ?qT ?mS ?jC ?Fw ?ME ?MF ?MG ?MJ ?MK ?Ib ?ML ?yW ?MM ?Fx ?qU ?u4 ?u5 ?jD ?mT ?qV ?mU Hc.pure_law
  (case a0=>k_is)
  (case l0=>k_is)
  (case c0=>k_is)
  (case k0=>k_is)
  (case a1=>k_is)
  (case l1=>k_is)
  (case c1=>k_is)
  (case k1=>k_is)
  (case a2=>k_is)
  (case l2=>k_is)
  (case c2=>k_is)
  (case k2=>k_is)
  (case a3=>k_is)
  (case l3=>k_is)
  (case c3=>k_is)
  (case k3=>k_is)
  (case a4=>k_is)
  (case l4=>k_is)
  (case c4=>k_is)
  (case k4=>k_is)
  (case a5=>k_is)
  (case l5=>k_is)
  (case c5=>k_is)
  (case k5=>k_is)
  (case a6=>k_is)
  (case l6=>k_is)
  (case c6=>k_is)
  (case k6=>k_is)
  (case a7=>k_is)
  (case l7=>k_is)
  (case c7=>k_is)
  (case k7=>k_is)
  (case a8=>k_is)
  (case l8=>k_is)
  (case c8=>k_is)
  (case k8=>k_is)
  (case a9=>k_is)
  (case l9=>k_is)
  (case c9=>k_is)
  (case k9=>k_is)
  (case R5=>k_is)
  (case R6=>k_is)
  (case R7=>k_is)
  (case R8=>k_is)
  (case Sj=>k_is)
  (case Sk=>k_is)
  (case Sl=>k_is)
  (case Sn=>k_is)
  (case SA=>k_is)
  (case SD=>k_is)
  (case SE=>k_is)
  (case SF=>k_is)
  (case SV=>k_is)
  (case SW=>k_is)
  (case SX=>k_is)
  (case SY=>k_is)
  (case S9=>k_is)
  (case S_=>k_is)
  (case Ta=>k_is)
  (case Tb=>k_is)
  (case To=>k_is)
  (case Tp=>k_is)
  (case Tq=>k_is)
  (case Tr=>k_is)
  (case TH=>k_is)
  (case TJ=>k_is)
  (case TL=>k_is)
  (case TM=>k_is)
  (case T4=>k_is)
  (case T5=>k_is)
  (case T6=>k_is)
  (case T7=>k_is)
  (case Uh=>k_is)
  (case Ui=>k_is)
  (case Uj=>k_is)
  (case Uk=>k_is)
  (case Uv=>k_is)
  (case Uw=>k_is)
  (case Ux=>k_is)
  (case Uy=>k_is)
  (case Qc=>k_is)
  (case Qd=>k_is)
  (case Qe=>k_is)
  (case Qf=>k_is)
  (case z_abs=>k_is)
  (case z_all=>k_is)
  (case z_bool=>k_is)
  (case z_dict=>k_is)
  (case z_isinstance=>k_is)
  (case z_len=>k_is)
  (case z_list=>k_is)
  (case z_max=>k_is)
  (case z_min=>k_is)
  (case z_range=>k_is)
  (case z_sorted=>k_is)
  (case z_sum=>k_is)
  (case z_tuple=>k_is)
  (case z_zip=>k_is)
  (case g_MOST_ORDERS=>k_is)
  (case qS=>k_is)
  (case uZ=>k_is)
  (case u3=>k_is)
  (case jB=>k_is)
  (case jM=>k_is)
  (case qT=>k_is)
  (case mS=>k_is)
  (case jC=>k_is)
  (case Fw=>k_exc)
  (case ME=>k_is)
  (case MF=>k_is)
  (case MG=>k_is)
  (case MJ=>k_is)
  (case MK=>k_is)
  (case Ib=>k_is)
  (case ML=>k_is)
  (case yW=>kts_exm)
  (case MM=>kit_is)
  (case Fx=>k_is)
  (case qU=>kit_is)
  (case u4=>kit_is)
  (case u5=>kit_is)
  (case jD=>kit_is)
  (case mT=>kit_is)
  (case qV=>kit_is)
  (case mU=>kit_is)