import PyProof.Rows.All
import Wide.All
import OpenK.AllK
import Wide.FinOn
import Lean
import PyProof.EqAt
import PyProof.EqKinds
import PyProof.TupleCall
import PyProof.NeKinds
import PyProof.TupleKey
import PyProof.DictRoadsH
import PySem.SetTable
import PyProof.SetRoads
import PyProof.DictKeyH
import PyProof.IsRules
import PyProof.Rows.SetFrom
import PyProof.WalksMore
import PyProof.ListMulRoad
import PyProof.FactsAll.subtypes_4
import PyProof.Rows.ListMulArg
import PyProof.ZipIter
import PyProof.DictItems
import PyProof.DictValues
import PyProof.DictWalks
import PyProof.FactsAll.dict_itemiterator
import PyProof.Rows.SortShell
import PyProof.Rows.SortWalk
import KE.KSortTup
import KE.KDictList
import PyProof.AutoListH
import PyProof.SumWalk
import PyProof.WalkInts
import PySem.Challenge.RW_hushcards_k56_plans_of_formulas
abbrev hG:=@decide_eq_true
abbrev hJ:=@decide_eq_false
abbrev hU.{u}:=@if_neg.{u}
abbrev hV.{u}:=@if_pos.{u}
set_option Elab.async false
set_option linter.all false
set_option maxRecDepth 100000
set_option maxHeartbeats 4000000
open PySem renaming wpAny_bind->Zv,wpAny_pure->Zy,Value->ZF,sizeLine->ZH,Shared->ZT,starEach->ZX,Addr->ZY,wpAny->Z1,model->Z8,mainGlobals->aag,bootBuiltins->aai,Around->aar,wpAny_newObj_type->aat,wpAny_call_entry->aav,wpAny_callSpecial?_slot->aaw,mem_of_lookup->aaH,wpAny_mono->aaN,wpAny_setState_of->aaP,wpAny_holding->aaW,SetTable->aaY,foldedSetIterable->aa8,compareOp->aa9,Expr->abd,wpAny_field->abf,cLine->abn,sysModules->abu,sizeLine_eq->abw,wpAny_askSetting->aby,wpAny_typeNameOfWhole_keyiter->abz,wpAny_seqItems->abC,wpAny_truthy_bool->abE,backTo->abL,Program->abM,wpAny_setField_rec->abR,Heap->abT,assignEach->abY,wpAny_passesOwn->abZ,wpAny_typeNameOf_keyiter->ab7,Stmt->aca,World->acd,wpAny_attempt->ach,wpAny_setField->acw,wpAny_specialOf->acC,codeAny_builtin->acG,wpAny_rule->acJ,wpAny_collect_seq->acM,eval->acP,IsPair->acR,firstArgMember->acV,binaryOp->acX,wpAny_isInstance->ac0,start->ac4,behindInMarks->ac5,attributeBase->ac9,HeapKind->adb,wpAny_pyIter_list->adm,sliceBounds->adp,wpAny_of_eq->adu,wpAny_dictEntries->adx,Keyword->adH,wpAny_forIn_list->adI,pyNext->adO,wpAny_updateSeq_pair->adQ,FuncData->adR,swapsWithSole->adS,swappedStores->adT,Paired->ad0,wpAny_execs_nil->ad2,swapsWith->ad3,letOwnedTupleGo->ad4,getItem->ad5,keywordEach->ad6,wpAny_setEntries_of->ad_,rawInt->aei,wpAny_pyIter_tuple->aej,codeAny_mono->aem,wpAny_Call_Name_kw->aen,wpAny_typeOf->aeq,intKind->aew,wpAny_fieldsOf->aeC,Scope->aeD,seqIndex?->aeG,atKey->aeH,wpAny_pyIter_slot->aeM,NameKind->aeN,DictEntry->aeO,PassesOwn->aeP,pickOrder->aeR
open List renaming getElem?_eq_getElem->Zw,length_map->Zz,mem_cons_self->ZA,mem_cons_of_mem->ZC,size_toArray->ZI,length_append->ZJ,mem_cons->ZK,length_cons->ZM,getElem?_eq_some_iff->ZN,mem_append_right->ZO,map_cons->ZR,mem_singleton->ZV,mem_append_left->ZZ,getElem?_map->Z2,getElem?_set_ne->Z_,pairwise_cons->aaa,mem_append->aab,append_assoc->aac,append_nil->aad,map_append->aae,lookup_cons->aaj,getD_eq_getElem?_getD->aak,mem_map->aal,mem_of_getElem?->aan,mem_range->aao,range->aas,getElem?_cons_succ->aax,pairwise_singleton->aaA,getElem?_eq_none_iff->aaB,length_set->aaF,getElem?_append_right->aaG,length_nil->aaL,not_mem_nil->aaM,pairwise_map->aaO,nodup_cons->aaS,all_eq_true->aaT,length_range->aaX,map_map->aaZ,getElem?_append_left->aa1,find?_cons->aa2,drop_eq_getElem_cons->aa4,zipWith->aba,map_nil->abj,getElem?_set_self->abk,map_congr_left->abm,length_take->abx,nodup_append->abH,mem_map_of_mem->abI,take_of_length_le->abJ,zipWith_cons_cons->abK,getElem?_zipWith->abS,take_succ_eq_append_getElem->abW,nil_append->ab4,ext_getElem?->ab5,all_cons->ace,getElem?_range->acg,length_zipWith->aci,getElem?_cons_zero->acj,length_drop->acm,mem_nil_iff->acn,drop_length->aco,getElem_mem->acr,replicate->acu,drop_zero->acv,set_cons_zero->acy,length_replicate->acB,flatMap_cons->acO,getD->acU,cons_append->acZ,mem_flatMap->ac1,of_mem_zip->ac6,zip_cons_cons->ac7,forIn_cons->ada,find?_eq_none->ade,length_zip->adg,set_cons_succ->adh,nodup_nil->adB,length_singleton->adD,take_append_drop->adE,nodup_range->adK,eq_nil_of_length_eq_zero->adM,take_length->adN,filterMap_cons->ad1,replicate_succ->aeb,perm_ext_iff_of_nodup->aef,mem_filterMap->aek,pairwise_iff_getElem->aez,getElem?_take_of_lt->aeF,filterMap_cons_some->aeK,Nodup->aeQ
open PySem.Heap renaming get?_push_of_some->Zx,get?_push_size->ZQ,lt_size->ZU,size_push->aaU,get?_update_self->aa_,SameBut->abp
open PySem.W renaming Frag->ZD,mg_none_of->aam,nsIn->aaD,kia_one->aa0,fnOf->abi,kia_tup->abr,keepIn->acs,kitx_list->adn,kitx_dict->ado,findIn->adz,mg_of->adZ,codeIn->aex,kitAny->aeB,methodObj->aeE
open Bool renaming false_ne_true->ZE,and_eq_true->Z3,false_eq_true->Z9,or_eq_false_iff->aaE,eq_iff_iff->aaR,or_eq_true->ab6,not_true->acf,eq_false_iff->acL,and_false->adA,not_false->aeA
open PySem.Str renaming ofString->ZL
open Nat renaming le_refl->ZP,ne_of_lt->Z6,lt_of_lt_of_le->aah,le_trans->aaz,zero_le->aaI,lt_irrefl->abe,mul_assoc->abg,pow_succ->abD,lt_succ_of_lt->abF,le_of_lt_succ->abG,mul_comm->abP,le_add_right->acp,ne_of_gt->acz,zero_add->acD,succ_pos->acE,mod_lt->acN,lt_or_ge->ac3,lt_of_le_of_lt->ac_,mul_left_comm->adq,lt_trichotomy->adt,lt_succ_self->adJ,pow_le_pow_right->adP,min_self->aes,add_zero->aev
open Option.some renaming inj->Z0
open Array renaming getElem?_toList->Z4,length_toList->Z5,getElem?_eq_getElem->Z7,getElem?_eq_some_iff->aay,getElem?_eq_none->adk,getD->ads,perm_iff_toList_perm->aeg,forIn_toList->aeu
open PySem.PassesOwn renaming never->aaf
open PySem.Builtin.SmallTypes renaming nextOf->aap,ownedTupleIsFree->aa7,ownedTupleHandOut->acW
open PySem.F renaming plainAttrs_list->aaq,slot_list_extend->abb,type_list_extend->abc,slot_dict_keyiterator_next->abB,slot_tuple_iterator_next->abN,slot_list_append->ab9,type_list_append->ab_,args_tuple_add_2->ac2,entry_tuple_add->ac8,slot_tuple_add->adj,args_dict_keyiterator_next_1->adF,entry_dict_keyiterator_next->adL,args_tuple_iterator_next_1->adV,slot_dict_setdefault->adY,entry_tuple_iterator_next->ad8,slot_zip_next->ad9
open Int renaming toNat_natCast->aau,emod_lt_of_pos->abQ,emod_nonneg->acF
open PyProof.Rows renaming arrOf->aaC,wpS_bind->aaK,SortSt->aa6,slot_tuple_getitem->abl,wpS_pure->abo,IntsAre->abA,pendingOf->ab8,step_dedup->ack,kindOf->acx,callWith_type1->acA,Keyed->acS,pairsOf_toList->adC,wpS_forRange->adG,reverseSlice'->adX,assignInOrder_cons->aeh,envOfC->aeo,seqObj->aet,KeyOrd->aeS
open PySem.Heap.SameBut renaming update->aaJ
open Option renaming map_eq_some_iff->aaQ,bind_some->aaV,getD_some->abO,isSome_iff_exists->ab0,getD_none->acY,map_eq_none_iff->adl
open PySem.Builtin.Tuple renaming tupleHashOf->aa3,tupleExact->ab2,tupleItemsOf->acQ,tupleIsExact->aee
open List.Perm renaming refl->aa5,append_left->abq
open PySem.Obj renaming data_mapFields->abh,isFreed_of_fields->acH,mapSeq->acK,cls_mapFields->adw,putSet->aeL
open PyProof.Rows.KeyOrd renaming kle_refl->abt,kle_trans->acq,kle_of_klt->ady
open List.Pairwise renaming imp_of_mem->abv
open PySem.Builtin.Slice renaming slicePlaces->abU,sliceAdjust->acT,sliceApplied->aed
open Classical renaming byContradiction->abV
open PySem.Around renaming under_plainId->abX
open PySem.SeqAt renaming EqAt->ab1
open PySem.Builtin.List renaming listTooLong->ab3,listLengthHint->aea
open List.Nodup renaming length_le_of_subset->acb
open False renaming elim->acI
open PyProof.Rows.F renaming plain_set_update_loop->adf
open Nat.Coprime renaming dvd_of_dvd_mul_right->adi
open PySem.Builtin.Frozenset renaming updateFrom->adU
open PySem.Builtin.Dict_items renaming ownsTuple->adW
open PySem.SeqAt.EqAt renaming same->ad7,int_int->aep,of_refs->aer
open PySem.Calls renaming Name_function_global->aec,spliced_cons->ael,call_function_entry->aey
open PySem.SeqAt.RcAt renaming tuples->aeI,lists_lengths->aeJ
open PySem PySem.Spec PyProof.Rows
variable {a b it i1 i2 a1 a2:ZY}{o t f p:Int×Int}{P prog:abM}{w:acd}{h h':abT}{t' i j k n g m mask ep:Nat}{ch fp L L':List ZY}{x qual:Str}{N ps loose:List Str}{M:Model}{A:ZY->Prop}{E Q:ZF->ZT->Prop}{s:ZT}{pos:Pos}{pins:List (ZY×Obj)}{c tg iter elt:abd}{K:ZD}{op:CmpOp}{body:List aca}{l l1 l2:Bool}{hi:Option Int}{C:Nat->Option (Int×ZF)}{mg:Str->Option ZF}{fd:adR}{scope:aeD}{items ys:Array ZF}{ns:List Int}{its:List ZF}{T:String}{q:ZF}{XP:(Str->Option ZF)->abT->Prop}{YP:acd->abT->Prop}{env:Env}{js:List (Option Nat)}{v7:List abd}{ds:Array aeO}{dC:List (List Int)}
namespace L2
noncomputable def gF (s:aca):Arguments:=match s with
 | .FunctionDef _ a _ _ _ _ _ _ _ _=>a
 |_=>{posonlyargs:=[],args:=[],vararg:=none,kwonlyargs:=[],kw_defaults:=[],kwarg:=none,defaults:=[]}
noncomputable def cJ (s:aca):List aca:=match s with
 | .FunctionDef _ _ b _ _ _ _ _ _ _=>b
 |_=>[]
noncomputable def aq (s:aca):aeD:=match s with
 | .FunctionDef _ _ _ _ _ _ sc _ _ _=>sc
 |_=>{kind:=.function,names:=[],isGenerator:=false,isCoroutine:=false}
end L2
namespace Hc
open L2
noncomputable def top (i:Nat):aca:=PySem.Challenge.pw_hushcards_k56_plans_of_formulas.main.body.getD i (.Pass ⟨0,0,0,0⟩)
noncomputable abbrev hS (s:String)(n:Nat):ZF:=.str (ZL s) n
noncomputable abbrev hE (P:Params)(s:String)(n:Nat)(v:ZF):aeO:=⟨PyData.keyHash P (ZL s),hS s n,v⟩
noncomputable abbrev hD (c:ZF)(l:List aeO)(n:Nat):Obj:=⟨c,none,.dict l.toArray n,(List.toArray [])⟩
noncomputable abbrev hX (c:ZF)(l:List ZF):Obj:=⟨c,none,.fields l.toArray,(List.toArray [])⟩
noncomputable abbrev hC (n q:String)(a:Nat)(l k:Int)(r r1:Nat)(v1 v2:ZF)(r2:Nat)(m:Int)(m':Nat):Obj:=hX (.type "code") [hS n a,hS q (a+1),hS "/claim/cut.py" (a+2),.int l 0,.int k 0,.int 0 0,.int 0 0,.int 3 0,.ref r,.bool true,.int 181 0,.ref r1,.none,v1,v2,.ref r2,.int m 0,.int l 0,hS "/claim/cut.py" m']
noncomputable abbrev hF (n q:String)(s:aca)(kV qB pm:ZF)(an:Option ZY)(cd ct:ZF):Obj:=⟨.type "function",none,.func (abi n q (gF s) (cJ s) (aq s) .none kV qB pm an cd ct),(List.toArray [])⟩
noncomputable abbrev h9:=hS "law_hushcards_k56_plans_of_formulas"
noncomputable def Kf (P:Params):ZD:=
 (nat_lit 2,hD .none [] 0) ::
 (nat_lit 3,hD (.type "dict") [hE P "__name__" 165 (h9 409),hE P "__doc__" 166 .none,hE P "__package__" 167 .none,hE P "__loader__" 168 (.builtin "__main__.__loader__#opaque"),hE P "__spec__" 169 .none,hE P "__annotations__" 170 (.ref 6),hE P "__builtins__" 171 (.ref 4),hE P "__file__" 173 (hS "/claim/cut.py" 172),hE P "__cached__" 174 .none,hE P "CardError" 206 (.ref 24),hE P "NoFormula" 222 (.ref 37),hE P "TooMany" 238 (.ref 49),hE P "is_whole" 247 (.ref 58),hE P "MOST_PILES_MIXED" 251 (.int 4 250),hE P "exchanged" 265 (.ref 65),hE P "arrangements" 271 (.ref 70),hE P "pile_mix" 277 (.ref 75),hE P "pair_at" 286 (.ref 82),hE P "turned" 293 (.ref 89),hE P "mixed_and_seen" 302 (.ref 96),hE P "turning" 308 (.ref 101),hE P "choosing" 317 (.ref 108),hE P "MOST_BITS" 321 (.int 3 320),hE P "MOST_FORMULAS_WITHIN" 323 (.int 20 322),hE P "is_made" 330 (.ref 115),hE P "formulas_within" 339 (.ref 122),hE P "is_formula" 345 (.ref 127),hE P "row_of" 354 (.ref 134),hE P "steps_of" 364 (.ref 141),hE P "piles_of" 374 (.ref 148),hE P "pair_behind" 384 (.ref 155),hE P "plan_from" 402 (.ref 162),hE P "plan_of" 408 (.ref 167),hE P "_law_cell_at" 418 (.ref 174),hE P "_law_state" 427 (.ref 181),hE P "_law_take" 437 (.ref 188),hE P "_law_divisor" 445 (.ref 195),hE P "_law_ratio" 454 (.ref 202),hE P "_law_laid" 460 (.ref 207),hE P "_law_paths" 476 (.ref 214),hE P "_law_walked" 482 (.ref 219),hE P "_law_total" 492 (.ref 226),hE P "_law_gone" 498 (.ref 231),hE P "_law_order" 504 (.ref 236),hE P "_law_sound" 510 (.ref 241),hE P "_law_pair" 517 (.ref 248),hE P "_law_formula" 529 (.ref 255),hE P "_law_some_formula" 537 (.ref 262),hE P "_law_worth" 546 (.ref 269),hE P "_law_bits_in" 555 (.ref 276),hE P "_law_all_bits" 561 (.ref 281),hE P "_law_seen_chances" 567 (.ref 286),hE P "_law_results" 573 (.ref 291),hE P "_law_same" 579 (.ref 296),hE P "_law_row_due" 588 (.ref 303),hE P "_law_right" 594 (.ref 308),hE P "law" 606 (.ref 315)] 57) ::
 (nat_lit 23,hD (.type "dict") [hE P "__module__" 196 (hS "hushcards.errors" 187),hE P "__firstlineno__" 200 (.int 2 199),hE P "__static_attributes__" 201 (.ref 22),hE P "__weakref__" 203 (.ref 25),hE P "__doc__" 204 .none] 3) ::
 (nat_lit 24,⟨.type "type",none,.cls {name:="CardError",bases:=[.type "ValueError"],mro:=[.ref 24,.type "ValueError",.type "Exception",.type "BaseException",.type "object"],ns:=23,qualname:="CardError",subclasses:=[.ref 37,.ref 49]},(List.toArray [some (.ref 15),none,some (hS "CardError" 189),some (hS "CardError" 197),some (.builtin "ValueError.__new__"),some (.bool true)])⟩) ::
 (nat_lit 36,hD (.type "dict") [hE P "__module__" 214 (hS "hushcards.errors" 187),hE P "__firstlineno__" 218 (.int 4 217),hE P "__static_attributes__" 219 (.ref 35),hE P "__doc__" 220 .none] 2) ::
 (nat_lit 37,⟨.type "type",none,.cls {name:="NoFormula",bases:=[.ref 24],mro:=[.ref 37,.ref 24,.type "ValueError",.type "Exception",.type "BaseException",.type "object"],ns:=36,qualname:="NoFormula"},(List.toArray [some (.ref 28),none,some (hS "NoFormula" 207),some (hS "NoFormula" 215),some (.builtin "ValueError.__new__"),some (.bool true)])⟩) ::
 (nat_lit 48,hD (.type "dict") [hE P "__module__" 230 (hS "hushcards.errors" 187),hE P "__firstlineno__" 234 (.int 6 233),hE P "__static_attributes__" 235 (.ref 47),hE P "__doc__" 236 .none] 2) ::
 (nat_lit 49,⟨.type "type",none,.cls {name:="TooMany",bases:=[.ref 24],mro:=[.ref 49,.ref 24,.type "ValueError",.type "Exception",.type "BaseException",.type "object"],ns:=48,qualname:="TooMany"},(List.toArray [some (.ref 40),none,some (hS "TooMany" 223),some (hS "TooMany" 231),some (.builtin "ValueError.__new__"),some (.bool true)])⟩) ::
 (nat_lit 57,hC "is_whole" "is_whole" 241 9 1 52 53 (.ref 54) (.ref 55) 56 245 246) ::
 (nat_lit 58,hF "is_whole" "is_whole" (top 5) .none .none (hS "hushcards.orders" 239) none (.ref 57) .none) ::
 (nat_lit 64,hC "exchanged" "exchanged" 252 13 3 59 60 (.ref 61) (.ref 62) 63 263 264) ::
 (nat_lit 65,hF "exchanged" "exchanged" (top 8) .none .none (hS "hushcards.shuffles" 248) none (.ref 64) .none) ::
 (nat_lit 69,hC "arrangements" "arrangements" 266 19 1 66 67 .none .none 68 269 270) ::
 (nat_lit 70,hF "arrangements" "arrangements" (top 9) .none .none (hS "hushcards.shuffles" 248) none (.ref 69) .none) ::
 (nat_lit 74,hC "pile_mix" "pile_mix" 272 27 2 71 72 .none .none 73 275 276) ::
 (nat_lit 75,hF "pile_mix" "pile_mix" (top 10) .none .none (hS "hushcards.shuffles" 248) none (.ref 74) .none) ::
 (nat_lit 81,hC "pair_at" "pair_at" 280 32 1 76 77 (.ref 78) (.ref 79) 80 284 285) ::
 (nat_lit 82,hF "pair_at" "pair_at" (top 12) .none .none (hS "hushcards.gates" 278) none (.ref 81) .none) ::
 (nat_lit 88,hC "turned" "turned" 287 34 1 83 84 (.ref 85) (.ref 86) 87 291 292) ::
 (nat_lit 89,hF "turned" "turned" (top 13) .none .none (hS "hushcards.gates" 278) none (.ref 88) .none) ::
 (nat_lit 95,hC "mixed_and_seen" "mixed_and_seen" 294 36 3 90 91 (.ref 92) (.ref 93) 94 300 301) ::
 (nat_lit 96,hF "mixed_and_seen" "mixed_and_seen" (top 14) .none .none (hS "hushcards.gates" 278) none (.ref 95) .none) ::
 (nat_lit 100,hC "turning" "turning" 303 38 2 97 98 .none .none 99 306 307) ::
 (nat_lit 101,hF "turning" "turning" (top 15) .none .none (hS "hushcards.gates" 278) none (.ref 100) .none) ::
 (nat_lit 107,hC "choosing" "choosing" 309 40 3 102 103 (.ref 104) (.ref 105) 106 315 316) ::
 (nat_lit 108,hF "choosing" "choosing" (top 16) .none .none (hS "hushcards.gates" 278) none (.ref 107) .none) ::
 (nat_lit 114,hC "is_made" "is_made" 324 45 1 109 110 (.ref 111) (.ref 112) 113 328 329) ::
 (nat_lit 115,hF "is_made" "is_made" (top 20) .none .none (hS "hushcards.formulas" 318) none (.ref 114) .none) ::
 (nat_lit 121,hC "formulas_within" "formulas_within" 331 53 1 116 117 (.ref 118) (.ref 119) 120 337 338) ::
 (nat_lit 122,hF "formulas_within" "formulas_within" (top 21) .none .none (hS "hushcards.formulas" 318) none (.ref 121) .none) ::
 (nat_lit 126,hC "is_formula" "is_formula" 340 59 1 123 124 .none .none 125 343 344) ::
 (nat_lit 127,hF "is_formula" "is_formula" (top 22) .none .none (hS "hushcards.formulas" 318) none (.ref 126) .none) ::
 (nat_lit 133,hC "row_of" "row_of" 346 72 1 128 129 (.ref 130) (.ref 131) 132 352 353) ::
 (nat_lit 134,hF "row_of" "row_of" (top 23) .none .none (hS "hushcards.formulas" 318) none (.ref 133) .none) ::
 (nat_lit 140,hC "steps_of" "steps_of" 355 77 2 135 136 (.ref 137) (.ref 138) 139 362 363) ::
 (nat_lit 141,hF "steps_of" "steps_of" (top 24) .none .none (hS "hushcards.formulas" 318) none (.ref 140) .none) ::
 (nat_lit 147,hC "piles_of" "piles_of" 365 87 4 142 143 (.ref 144) (.ref 145) 146 372 373) ::
 (nat_lit 148,hF "piles_of" "piles_of" (top 25) .none .none (hS "hushcards.formulas" 318) none (.ref 147) .none) ::
 (nat_lit 154,hC "pair_behind" "pair_behind" 375 93 4 149 150 (.ref 151) (.ref 152) 153 382 383) ::
 (nat_lit 155,hF "pair_behind" "pair_behind" (top 26) .none .none (hS "hushcards.formulas" 318) none (.ref 154) .none) ::
 (nat_lit 161,hC "plan_from" "plan_from" 385 97 4 156 157 (.ref 158) (.ref 159) 160 400 401) ::
 (nat_lit 162,hF "plan_from" "plan_from" (top 27) .none .none (hS "hushcards.formulas" 318) none (.ref 161) .none) ::
 (nat_lit 166,hC "plan_of" "plan_of" 403 112 1 163 164 .none .none 165 406 407) ::
 (nat_lit 167,hF "plan_of" "plan_of" (top 28) .none .none (hS "hushcards.formulas" 318) none (.ref 166) .none) ::
 (nat_lit 173,hC "_law_cell_at" "_law_cell_at" 411 119 2 168 169 (.ref 170) (.ref 171) 172 416 417) ::
 (nat_lit 174,hF "_law_cell_at" "_law_cell_at" (top 30) .none .none (h9 409) none (.ref 173) .none) ::
 (nat_lit 180,hC "_law_state" "_law_state" 419 123 2 175 176 (.ref 177) (.ref 178) 179 425 426) ::
 (nat_lit 181,hF "_law_state" "_law_state" (top 31) .none .none (h9 409) none (.ref 180) .none) ::
 (nat_lit 187,hC "_law_take" "_law_take" 428 128 2 182 183 (.ref 184) (.ref 185) 186 435 436) ::
 (nat_lit 188,hF "_law_take" "_law_take" (top 32) .none .none (h9 409) none (.ref 187) .none) ::
 (nat_lit 194,hC "_law_divisor" "_law_divisor" 438 137 2 189 190 (.ref 191) (.ref 192) 193 443 444) ::
 (nat_lit 195,hF "_law_divisor" "_law_divisor" (top 33) .none .none (h9 409) none (.ref 194) .none) ::
 (nat_lit 201,hC "_law_ratio" "_law_ratio" 446 143 2 196 197 (.ref 198) (.ref 199) 200 452 453) ::
 (nat_lit 202,hF "_law_ratio" "_law_ratio" (top 34) .none .none (h9 409) none (.ref 201) .none) ::
 (nat_lit 206,hC "_law_laid" "_law_laid" 455 146 2 203 204 .none .none 205 458 459) ::
 (nat_lit 207,hF "_law_laid" "_law_laid" (top 35) .none .none (h9 409) none (.ref 206) .none) ::
 (nat_lit 213,hC "_law_paths" "_law_paths" 461 148 5 208 209 (.ref 210) (.ref 211) 212 474 475) ::
 (nat_lit 214,hF "_law_paths" "_law_paths" (top 36) .none .none (h9 409) none (.ref 213) .none) ::
 (nat_lit 218,hC "_law_walked" "_law_walked" 477 165 1 215 216 .none .none 217 480 481) ::
 (nat_lit 219,hF "_law_walked" "_law_walked" (top 37) .none .none (h9 409) none (.ref 218) .none) ::
 (nat_lit 225,hC "_law_total" "_law_total" 483 181 1 220 221 (.ref 222) (.ref 223) 224 490 491) ::
 (nat_lit 226,hF "_law_total" "_law_total" (top 38) .none .none (h9 409) none (.ref 225) .none) ::
 (nat_lit 230,hC "_law_gone" "_law_gone" 493 186 2 227 228 .none .none 229 496 497) ::
 (nat_lit 231,hF "_law_gone" "_law_gone" (top 39) .none .none (h9 409) none (.ref 230) .none) ::
 (nat_lit 235,hC "_law_order" "_law_order" 499 195 2 232 233 .none .none 234 502 503) ::
 (nat_lit 236,hF "_law_order" "_law_order" (top 40) .none .none (h9 409) none (.ref 235) .none) ::
 (nat_lit 240,hC "_law_sound" "_law_sound" 505 198 3 237 238 .none .none 239 508 509) ::
 (nat_lit 241,hF "_law_sound" "_law_sound" (top 41) .none .none (h9 409) none (.ref 240) .none) ::
 (nat_lit 247,hC "_law_pair" "_law_pair" 511 218 1 242 243 (.ref 244) (.ref 245) 246 515 516) ::
 (nat_lit 248,hF "_law_pair" "_law_pair" (top 42) .none .none (h9 409) none (.ref 247) .none) ::
 (nat_lit 254,hC "_law_formula" "_law_formula" 518 220 2 249 250 (.ref 251) (.ref 252) 253 527 528) ::
 (nat_lit 255,hF "_law_formula" "_law_formula" (top 43) .none .none (h9 409) none (.ref 254) .none) ::
 (nat_lit 261,hC "_law_some_formula" "_law_some_formula" 530 230 1 256 257 (.ref 258) (.ref 259) 260 535 536) ::
 (nat_lit 262,hF "_law_some_formula" "_law_some_formula" (top 44) .none .none (h9 409) none (.ref 261) .none) ::
 (nat_lit 268,hC "_law_worth" "_law_worth" 538 233 2 263 264 (.ref 265) (.ref 266) 267 544 545) ::
 (nat_lit 269,hF "_law_worth" "_law_worth" (top 45) .none .none (h9 409) none (.ref 268) .none) ::
 (nat_lit 275,hC "_law_bits_in" "_law_bits_in" 547 240 1 270 271 (.ref 272) (.ref 273) 274 553 554) ::
 (nat_lit 276,hF "_law_bits_in" "_law_bits_in" (top 46) .none .none (h9 409) none (.ref 275) .none) ::
 (nat_lit 280,hC "_law_all_bits" "_law_all_bits" 556 247 1 277 278 .none .none 279 559 560) ::
 (nat_lit 281,hF "_law_all_bits" "_law_all_bits" (top 47) .none .none (h9 409) none (.ref 280) .none) ::
 (nat_lit 285,hC "_law_seen_chances" "_law_seen_chances" 562 252 2 282 283 .none .none 284 565 566) ::
 (nat_lit 286,hF "_law_seen_chances" "_law_seen_chances" (top 48) .none .none (h9 409) none (.ref 285) .none) ::
 (nat_lit 290,hC "_law_results" "_law_results" 568 257 2 287 288 .none .none 289 571 572) ::
 (nat_lit 291,hF "_law_results" "_law_results" (top 49) .none .none (h9 409) none (.ref 290) .none) ::
 (nat_lit 295,hC "_law_same" "_law_same" 574 265 2 292 293 .none .none 294 577 578) ::
 (nat_lit 296,hF "_law_same" "_law_same" (top 50) .none .none (h9 409) none (.ref 295) .none) ::
 (nat_lit 302,hC "_law_row_due" "_law_row_due" 580 273 1 297 298 (.ref 299) (.ref 300) 301 586 587) ::
 (nat_lit 303,hF "_law_row_due" "_law_row_due" (top 51) .none .none (h9 409) none (.ref 302) .none) ::
 (nat_lit 307,hC "_law_right" "_law_right" 589 278 1 304 305 .none .none 306 592 593) ::
 (nat_lit 308,hF "_law_right" "_law_right" (top 52) .none .none (h9 409) none (.ref 307) .none) ::
 (nat_lit 314,hC "law" "law" 595 291 1 309 310 (.ref 311) (.ref 312) 313 604 605) ::
 (nat_lit 315,hF "law" "law" (top 53) .none .none (h9 409) none (.ref 314) .none)::[]
noncomputable def vw:abM:={PySem.Challenge.pw_hushcards_k56_plans_of_formulas with main:={PySem.Challenge.pw_hushcards_k56_plans_of_formulas.main with body:=([1,2,3,5,7,8,9,10,12,13,14,15,16,18,19,20,21,22,23,24,25,26,27,28,30,31,32,33,34,35,36,37,38,39,40,41,42,43,44,45,46,47,48,49,50,51,52,53]:List Nat).map top}}
noncomputable def hk:PySem.W.Hook:=PySem.W.kHook Kf [2,3,23,24,36,37,48,49,57,58,64,65,69,70,74,75,81,82,88,89,95,96,100,101,107,108,114,115,121,122,126,127,133,134,140,141,147,148,154,155,161,162,166,167,173,174,180,181,187,188,194,195,201,202,206,207,213,214,218,219,225,226,230,231,235,236,240,241,247,248,254,255,261,262,268,269,275,276,280,281,285,286,290,291,295,296,302,303,307,308,314,315] (λ_=>by kernel_rfl)
noncomputable abbrev WX:=PySem.Challenge.rw_hushcards_k56_plans_of_formulas.row
def left:PySem.W.LeftO WX.prog vw [] (λs=>PySem.W.xlAt vw [] s&&PySem.W.recOk (PySem.W.RowW.records WX.toRowW) s) hk.obs hk.val 4004:=λw=>by kernel_rfl
end Hc
namespace L2
noncomputable abbrev Key:=Sum Int Str
noncomputable def wZ:Key->ZF->Bool
 | .inl k,v=>Value.isInt k v
 | .inr x,v=>Value.isStrOf x v
noncomputable def UN (w:acd):Key->Int
 | .inl k=>hashInt k
 | .inr x=>hashStr w x
theorem cW:∀{k:Key} {v:ZF},wZ k v=true->(∃i t,k=Sum.inl i/\v=Value.int i t)\/(∃x t,k=Sum.inr x/\v=Value.str x t)
 | .inl i,v,h=>by
  obtain⟨t,e⟩:=Value.isInt_shape (k:=i) (v:=v) h;exact .inl ⟨i,t,rfl,e⟩
 | .inr x,v,h=>by
  obtain⟨t,e⟩:=Value.isStrOf_shape (x:=x) (v:=v) h;exact .inr ⟨x,t,rfl,e⟩
def E8 (i:Int)(t:Tok):wZ (.inl i) (.int i t)=true:=by simp[wZ,Value.isInt]
def E9 (x:Str)(t:Tok):wZ (.inr x) (.str x t)=true:=by simp[wZ,Value.isStrOf]
theorem OF (a b:Int):decide ((Sum.inl a:Key)=Sum.inl b)=(a==b):=by
 by_cases e:a=b
 ·subst e;simp
 ·have h:¬(Sum.inl a:Key)=Sum.inl b:=λq=>e (Sum.inl.inj q);rw[hJ h];exact (beq_eq_false_iff_ne.mpr e).symm
theorem OG (a b:Str):decide ((Sum.inr a:Key)=Sum.inr b)=decide (a=b):=by
 by_cases e:a=b
 ·subst e;simp
 ·have h:¬(Sum.inr a:Key)=Sum.inr b:=λq=>e (Sum.inr.inj q);rw[hJ h,hJ e]
def OH (a:Int)(b:Str):decide ((Sum.inl a:Key)=Sum.inr b)=false:=hJ (λq=>nomatch q)
def OI (a:Str)(b:Int):decide ((Sum.inr a:Key)=Sum.inl b)=false:=hJ (λq=>nomatch q)
noncomputable def eM (prog:abM)(w:acd):PySem.KeyKind prog w Key where
 is:=wZ
 hash:=UN w
 inj:=λv a b ha hb=>by
  rcases cW ha with⟨i,t,rfl,rfl⟩|⟨x,t,rfl,rfl⟩
  ·rcases cW hb with⟨j,u,rfl,e⟩|⟨y,u,rfl,e⟩
   ·injection e with e1 _;rw[e1]
   ·exact nomatch e
  ·rcases cW hb with⟨j,u,rfl,e⟩|⟨y,u,rfl,e⟩
   ·exact nomatch e
   ·injection e with e1 _;rw[e1]
 byValue:=λk v h=>by
  rcases cW h with⟨i,t,rfl,rfl⟩|⟨x,t,rfl,rfl⟩<;>rfl
 pyHash:=λhv h=>by
  rcases cW hv with⟨i,t,rfl,rfl⟩|⟨x,t,rfl,rfl⟩
  ·exact wpAny_pyHash_int h
  ·exact wpAny_pyHash_str h
 eqBool:=λhu hv h=>by
  rcases cW hu with⟨i,t,rfl,rfl⟩|⟨x,t,rfl,rfl⟩
  ·rcases cW hv with⟨j,u,rfl,rfl⟩|⟨y,u,rfl,rfl⟩
   ·rw[OF] at h;exact wpAny_eqBool_int h
   ·rw[OH] at h;exact SeqAt.EqAt.int_str i t y u _ _ _ _ h
  ·rcases cW hv with⟨j,u,rfl,rfl⟩|⟨y,u,rfl,rfl⟩
   ·rw[OI] at h;exact SeqAt.EqAt.str_int x t j u _ _ _ _ h
   ·rw[OG] at h;exact wpAny_eqBool_str h
 «strs»:=λk x t v h=>by
  rcases cW h with⟨i,u,rfl,e⟩|⟨y,u,rfl,e⟩
  ·exact nomatch e
  ·injection e with e1 _
   subst e1;cases v<;>rfl
def zD (prog:abM)(w:acd)(i:Int)(t:Tok):(eM prog w).is (.inl i) (.int i t)=true:=E8 i t
def zE (prog:abM)(w:acd)(x:Str)(t:Tok):(eM prog w).is (.inr x) (.str x t)=true:=E9 x t
end L2
namespace L2
inductive V where
 |non|bl (b:Bool)|int (i:Int)|str (x:Str)|byt (b:Array UInt8)|flt (b:UInt64)|ref (a:ZY)|ty (n:String)
 deriving DecidableEq
def bA:V->ZF->Prop
 | .non,u=>u=Value.none
 | .bl b,u=>u=Value.bool b
 | .int i,u=>∃t,u=Value.int i t
 | .str x,u=>∃t,u=Value.str x t
 | .byt b,u=>∃t,u=Value.bytes b t
 | .flt b,u=>∃t,u=Value.float b t
 | .ref a,u=>u=Value.ref a
 | .ty n,u=>u=Value.type n
abbrev bw:List V->List ZF->Prop:=ad0 bA
def bw.length {xs:List V}{us:List ZF}(r:bw xs us):xs.length=us.length:=Paired.length r
theorem bw.get:∀{xs:List V} {us:List ZF} {i:Nat} {x:V},bw xs us->xs[i]? = some x->∃u,us[i]? = some u/\bA x u
 |_,_,_,_,.nil,e=>by simp at e
 |_,_,0,_,.cons r _,e=>by simp at e;subst e;exact⟨_,rfl,r⟩
 |_,_,i+1,x,.cons _ t,e=>by
  obtain⟨u,h1,h2⟩:=bw.get (i:=i) (x:=x) t (by simpa using e);exact⟨u,by simpa using h1,h2⟩
theorem bw.set {x:V}{u:ZF}(r:bA x u):∀{xs:List V} {us:List ZF} (i:Nat),bw xs us->bw (xs.set i x) (us.set i u)
 |_,_,_,.nil=>.nil
 |_,_,0,.cons _ t=>.cons r t
 |_,_,i+1,.cons q t=>.cons q (bw.set r i t)
theorem bw.append:∀{xs ys:List V} {us ws:List ZF},bw xs us->bw ys ws->bw (xs++ys) (us++ws)
 |_,_,_,_,.nil,s=>s
 |_,_,_,_,.cons r t,s=>.cons r (bw.append t s)
theorem bw.take:∀{xs:List V} {us:List ZF} (n:Nat),bw xs us->bw (xs.take n) (us.take n)
 |_,_,0,_=>.nil
 |_,_,_+1,.nil=>.nil
 |_,_,n+1,.cons r t=>.cons r (bw.take n t)
theorem bw.drop:∀{xs:List V} {us:List ZF} (n:Nat),bw xs us->bw (xs.drop n) (us.drop n)
 |_,_,0,r=>r
 |_,_,_+1,.nil=>.nil
 |_,_,n+1,.cons _ t=>bw.drop n t
def qC:Option V->Option ZF->Prop
 |some v,some u=>bA v u
 |none,none=>True
 |_,_=>False
def KV {κ:Type}:List (κ×V)->List (κ×ZF)->Prop:=ad0 λ(p:κ×V) (q:κ×ZF)=>p.1=q.1/\bA p.2 q.2
noncomputable def kV:Key->V
 | .inl i=>.int i
 | .inr x=>.str x
inductive HO where
 |lst (xs:List V)
 |tup (xs:List V)
 |dK (bE:List (Key×V))|dT (bE:List (List Key×V))
 |set (S:Int->Bool) (n:Nat)
 |ins (C dx:ZY) (fs:List (Str×V))
 |own (x:ZY)
 |xd (fs:List (Str×V))
 |met (f x:ZY)
 |rng (lo hi:Int)
 |frz (o:Obj) (u:HO)
 |tbl (ps:Array ZF)
 |ext (φ:abT->Prop)
noncomputable abbrev Hp:=ZY->Option HO
noncomputable def cE (H:Hp)(a:ZY)(o:HO):Hp:=λb=>if b=a then some o else H b
theorem bC {H:Hp}{o:HO}:cE H a o a=some o:=by unfold cE;rw[hV rfl]
def bq {H:Hp}{o:HO}(h:b≠a):cE H a o b=H b:=by unfold cE;rw[hU h]
theorem bR {H:Hp}{o:HO}(h:H a=some o)(h':H b=none):a≠b:=by
 lia
section
variable (P:abM)(w:acd)
def bT (H:Hp)(h:abT)(a:ZY):HO->Prop
 | .lst xs=>xs.length<=ZH/\∃(its:List ZF) (n:Nat),bw xs its/\h.get? a=some {cls:=.type "list",data:=.seq its.toArray n}
 | .tup xs=>xs.length<=ZH/\∃its:List ZF,bw xs its/\IsTup h a its.toArray/\∃n,h.get? a=some {cls:=.type "tuple",data:=.seq its.toArray n}
 | .dK bE=>bE.length<=ZH/\(a==abu)=false/\∃vs,KV bE vs/\h.DictOf (eM P w) a vs
 | .dT bE=>bE.length<=ZH/\(a==abu)=false/\∃xs:List (List Key×ZY×ZF),
   ad0 (λ(p:List Key×V) (q:List Key×ZY×ZF)=>p.1=q.1/\H q.2.1=some (.tup (p.1.map kV))/\bA p.2 q.2.2) bE xs/\
   ∃o es ep,h.get? a=some o/\o.ExactDict/\o.data=.dict es ep/\es.toList=xs.map (entryOfKey (tupleKind (eM P w)))/\(xs.map (·.1)).Nodup
 | .set S n=>h.SetOf (aew P w) a S n
 | .ins C dx fs=>H dx=some (.own a)/\fs.length<=1000/\dx≠a/\h.get? a=some (PySem.W.instObj C dx)/\
   ∃mA,h.Ns1 dx mA/\(∀f,qC (fs.lookup f) (mA f))/\PySem.Within mA (fs.map (·.1))
 | .own _=>∃o,h.get? a=some o
 | .xd fs=>∃mA,h.Ns1 a mA/\∀f,qC (fs.lookup f) (mA f)
 | .rng lo hi=>∃t u v,h.get? a=some {cls:=.type "range",data:=.fields (List.toArray [.int lo t,.int hi u,.int 1 v])}
 | .frz o u=>h.get? a=some o/\bT H h a u
 | .tbl ps=>h.get? a=some {cls:=.none,data:=.fields ps}
 | .met f x=>h.get? a=some (aeE (.ref f) (.ref x))
 | .ext φ=>φ h/\(∃o,h.get? a=some o)/\∀h1 h2:abT,φ h1->(∀o,h1.get? a=some o->h2.get? a=some o)->φ h2
def mn (H:Hp)(h:abT):Prop:=∀a o,H a=some o->bT P w H h a o
end
section
variable {H H':Hp}{o:HO}
theorem bT.lt (x:bT P w H h a o):a<h.objs.size:=by
 cases o with
 |lst xs=>obtain⟨_,_,_,_,e⟩:=x;exact ZU e
 |tup xs=>obtain⟨_,_,_,p,_⟩:=x;exact p.lt
 |dK bE=>obtain⟨_,_,_,_,o,_,_,e,_⟩:=x;exact ZU e
 |dT bE=>obtain⟨_,_,_,_,o,_,_,e,_⟩:=x;exact ZU e
 |set S n=>obtain⟨o,_,_,_,e,_⟩:=x;exact ZU e
 |ins C dx fs=>obtain⟨_,_,_,e,_⟩:=x;exact ZU e
 |own y=>obtain⟨_,e⟩:=x;exact ZU e
 |xd fs=>obtain⟨_,⟨_,_,_,e,_⟩,_⟩:=x;exact ZU e
 |rng lo hi=>obtain⟨_,_,_,e⟩:=x;exact ZU e
 |frz ob u=>obtain⟨e,_⟩:=x;exact ZU e
 |tbl ps=>exact ZU (show h.get? a=some _ from x)
 |met f y=>exact ZU (show h.get? a=some _ from x)
 |ext φ=>obtain⟨_,⟨_,e⟩,_⟩:=x;exact ZU e
theorem Paired.mapP {α β:Type}{F G:α->β->Prop}:∀{l₁:List α} {l₂:List β},ad0 F l₁ l₂->(∀a b,F a b->G a b)->ad0 G l₁ l₂
 |_,_,.nil,_=>.nil
 |_,_,.cons r t,f=>.cons (f _ _ r) (Paired.mapP t f)
theorem bT.stay (x:bT P w H h a o)(k:∀b u,(b=a\/H b=some (.own a))->h.get? b=some u->h'.get? b=some u)
  (ho:∀b,H b=some (.own a)->H' b=some (.own a)) (ht:∀b xs,H b=some (.tup xs)->H' b=some (.tup xs)):bT P w H' h' a o:=by
 induction o with
 |lst xs=>obtain⟨z,its,n,r,e⟩:=x;exact⟨z,its,n,r,k _ _ (.inl rfl) e⟩
 |tup xs=>obtain⟨z,its,r,⟨ob,e,c⟩,n2,e2⟩:=x;exact⟨z,its,r,⟨ob,k _ _ (.inl rfl) e,c⟩,n2,k _ _ (.inl rfl) e2⟩
 |dK bE=>obtain⟨z,y,vs,r,ob,es,ep,e,c⟩:=x;exact⟨z,y,vs,r,ob,es,ep,k _ _ (.inl rfl) e,c⟩
 |dT bE=>
  obtain⟨z,y,xs,r,ob,es,ep,e,c⟩:=x;exact⟨z,y,xs,Paired.mapP r λp q z=>⟨z.1,ht _ _ z.2.1,z.2.2⟩,ob,es,ep,k _ _ (.inl rfl) e,c⟩
 |set S n=>obtain⟨ob,es,ep,t,e,c⟩:=x;exact⟨ob,es,ep,t,k _ _ (.inl rfl) e,c⟩
 |ins C dx fs=>
  obtain⟨d,z,ne,e,mA,⟨od,es,ep,e2,c⟩,r⟩:=x;exact⟨ho _ d,z,ne,k _ _ (.inl rfl) e,mA,⟨od,es,ep,k _ _ (.inr d) e2,c⟩,r⟩
 |own y=>obtain⟨ob,e⟩:=x;exact⟨ob,k _ _ (.inl rfl) e⟩
 |xd fs=>obtain⟨mA,⟨od,es,ep,e,c⟩,r⟩:=x;exact⟨mA,⟨od,es,ep,k _ _ (.inl rfl) e,c⟩,r⟩
 |rng lo hi=>obtain⟨t,u,v,e⟩:=x;exact⟨t,u,v,k _ _ (.inl rfl) e⟩
 |frz ob u ih=>obtain⟨e,q⟩:=x;exact⟨k _ _ (.inl rfl) e,ih q⟩
 |tbl ps=>
  have e:h.get? a=some {cls:=.none,data:=.fields ps}:=x;show h'.get? a=some {cls:=.none,data:=.fields ps};exact k a _ (.inl rfl) e
 |met f y=>
  have e:h.get? a=some (aeE (.ref f) (.ref y)):=x;show h'.get? a=some (aeE (.ref f) (.ref y));exact k a _ (.inl rfl) e
 |ext φ=>obtain⟨p,⟨o,e⟩,st⟩:=x;exact⟨st _ _ p λo q=>k _ _ (.inl rfl) q,⟨o,k _ _ (.inl rfl) e⟩,st⟩
def mn.lt (x:mn P w H h)(e:H a=some o):a<h.objs.size:=(x a o e).lt
theorem mn.fresh (x:mn P w H h)(e:h.objs.size<=a):H a=none:=by
 cases q:H a with
 |none=>rfl
 |some u=>exact absurd (aah (x.lt q) e) (abe _)
def mn.kept (x:mn P w H h)(k:∀b u,h.get? b=some u->h'.get? b=some u):mn P w H h':=λa o e=>
 (x a o e).stay (λb u _ q=>k b u q) (λ_ q=>q) λ_ _ q=>q
theorem mn.laid (x:mn P w H h)(k:∀b u,h.get? b=some u->h'.get? b=some u)(hp:h.objs.size<=a)(new:bT P w (cE H a o) h' a o):mn P w (cE H a o) h':=λb u e=>by
 have hn:=x.fresh hp;by_cases hb:b=a
 ·subst hb;rw[bC] at e;cases e;exact new
 ·rw[bq hb] at e;exact (x b u e).stay (λc v _ q=>k c v q) (λc q=>by rw[bq (bR q hn)];exact q) λc xs q=>by rw[bq (bR q hn)];exact q
end
def Rd (H:Hp)(a:ZY)(u:HO):Prop:=H a=some u\/∃o,H a=some (.frz o u)
theorem Rd.ok {H:Hp}{u:HO}(r:Rd H a u)(x:mn P w H h):bT P w H h a u:=by
 rcases r with r|⟨o,r⟩
 ·exact x a u r
 ·obtain⟨_,q⟩:=x a _ r;exact q
def QV:Option HO->Prop
 |some (.lst _)=>True
 |some (.dK _)=>True
 |some (.dT _)=>True
 |some (.set _ _)=>True
 |some (.ins _ _ _)=>True
 |some (.ext _)=>True
 |_=>False
section
variable {H:Hp}{x e:ZY}{o':HO}
theorem mn.write (ok:mn P w H h)(mu:QV (H x))(he:e=x\/H e=some (.own x))(k:∀b u,b≠e->h.get? b=some u->h'.get? b=some u)(Q1:∃u,h'.get? e=some u)
  (new:bT P w (cE H x o') h' x o'):mn P w (cE H x o') h':=λb u q=>by
 have To:∀c y,H c=some (.own y)->c≠x:=λc y r z=>by subst z;rw[r] at mu;exact mu
 have VJ:∀c xs,H c=some (.tup xs)->c≠x:=λc xs r z=>by subst z;rw[r] at mu;exact mu
 by_cases hb:b=x
 ·grind[bC]
 ·rw[bq hb] at q;by_cases hbe:b=e
  ·have q':H b=some (.own x):=by
    lia
   rw[q] at q';cases q';obtain⟨v,hv⟩:=Q1;exact⟨v,by lia⟩
  ·refine (ok b u q).stay (λc v hc r=>k c v ?_ r) (λc r=>by rw[bq (To c b r)];exact r) λc xs r=>by rw[bq (VJ c xs r)];exact r
   grind
end
structure Un (fs ex:List ZY)(H H':Hp)(h h':abT):Prop where
 keep:∀b o,h.get? b=some o->H b=none->b∉fs->b∉ex->h'.get? b=some o
 slot:∀b o,h.get? b=some o->H b=none->b∈fs->b∉ex->∃sl,h'.get? b=some {o with slots:=sl}
 free:∀b o,h.get? b=some o->H b=none->b∉ex->H' b=none
 there:∀b o,h.get? b=some o->b∉ex->∃o',h'.get? b=some o'
 tups:∀b xs,H b=some (.tup xs)->H' b=some (.tup xs)
 frzs:∀b o u,H b=some (.frz o u)->H' b=some (.frz o u)
 tbls:∀b ps,H b=some (.tbl ps)->∃more,H' b=some (.tbl (ps++more))
section
variable {fs fs' ex ex':List ZY}{H H1 H2:Hp}{h1 h2:abT}{x e:ZY}{o:HO}
def Un.any (u:Un fs ex H H1 h h1){ob:Obj}(q:h.get? b=some ob)(n:H b=none)(hx:b∉ex):∃sl,h1.get? b=some {ob with slots:=sl}:=by
 by_cases hb:b∈fs
 ·exact u.slot b ob q n hb hx
 ·exact⟨ob.slots,u.keep b ob q n hb hx⟩
def Un.kept (k:∀b u,h.get? b=some u->h'.get? b=some u):Un fs ex H H h h' :=
 ⟨λb ob q _ _ _=>k b ob q,λb ob q _ _ _=>⟨ob.slots,k b ob q⟩,λ_ _ _ n _=>n,λb ob q _=>⟨ob,k b ob q⟩,λ_ _ q=>q,λ_ _ _ q=>q,λ_ ps q=>⟨(List.toArray []),by rw[q];simp⟩⟩
def Un.refl:Un fs ex H H h h:=Un.kept λ_ _ q=>q
def Un.laid (k:∀b u,h.get? b=some u->h'.get? b=some u)(hp:h.objs.size<=a)(hn:H a=none):Un fs ex H (cE H a o) h h' where
 keep:=λb u q _ _ _=>k b u q
 slot:=λb u q _ _ _=>⟨u.slots,k b u q⟩
 free:=λb u q n _=>by rw[bq (Z6 (aah (ZU q) hp))];exact n
 there:=λb u q _=>⟨u,k b u q⟩
 tups:=λb xs q=>by rw[bq (bR q hn)];exact q
 frzs:=λb u xs q=>by rw[bq (bR q hn)];exact q
 tbls:=λb ps q=>⟨(List.toArray []),by rw[bq (bR q hn),q];simp⟩
theorem Un.write (mu:QV (H x))(he:e=x\/H e=some (.own x))(k:∀b u,b≠e->h.get? b=some u->h'.get? b=some u)(Q1:∃u,h'.get? e=some u):Un fs ex H (cE H x o) h h':=by
 have hx:∀b,H b=none->b≠x:=λb n z=>by subst z;rw[n] at mu;exact mu
 have hb:∀b,H b=none->b≠e:=λb n z=>by
  lia
 have hm:∀b u,H b=some u->¬QV (some u)->b≠x:=λb u q nm z=>by lia
 refine⟨λb u q n _ _=>k b u (hb b n) q,λb u q n _ _=>⟨u.slots,k b u (hb b n) q⟩,λb u q n _=>by rw[bq (hx b n)];exact n,λb u q _=>?_,
  λb xs q=>by rw[bq (hm b _ q λz=>z)];exact q,λb u xs q=>by rw[bq (hm b _ q λz=>z)];exact q,λb ps q=>⟨(List.toArray []),by rw[bq (hm b _ q λz=>z),q];simp⟩⟩
 grind
end
noncomputable def Ua (h:abT)(H:Hp):List ZY:=(aas h.objs.size).filter λa=>(H a).isSome
noncomputable def xV (h:abT)(H:Hp):abT:=PySem.W.hideAll h (Ua h H)
def E_ (h:abT)(H:Hp):(xV h H).objs.size=h.objs.size:=PySem.W.hideAll_size _ _
def GL {H:Hp}{o:Obj}(e:h.get? b=some o)(n:H b=none):(xV h H).get? b=some o:=
 PySem.W.hideAll_get _ e λhm=>by
  have q:(H b).isSome=true:=(List.mem_filter.mp hm).2;rw[n] at q;simp at q
theorem KN {H:Hp}{o:Obj}(e:(xV h H).get? b=some o):h.get? b=some o/\H b=none:=by
 have e':h.get? b=some o:=PySem.W.of_hideAll (Ua h H) e;refine⟨e',?_⟩;cases q:H b with
 |none=>rfl
 |some x=>
  grind[Ua,ZU,xV,PySem.W.hideAll_none]
end L2
variable {xs vs:List L2.V}{H H' H1 H2:L2.Hp}{v y v':L2.V}{bE:List (L2.Key×L2.V)}
namespace L2
structure Mod (K:ZD)(mg:Str->Option ZF)(base:abT):Prop where
 kin:K.In base
 glob:base.Ns aag mg
 blt:∃mb,base.Ns builtinsNs mb/\∀x:Str,x≠"__name__"->mb x=aai x
 nolimit:base.NoLimit
structure Cx where
 prog:abM
 w:acd
 K:ZD
 mg:Str->Option ZF
 base:abT
 A:aar
 N:List Str
 s₀:ZT
 H₀:Hp
 env:Env
 outer:List Env
 stack:List Env
 ex:List ZY
 fn:Str->Bool
 calm:Bool
 pn:List (ZY×Obj)
 xe:ZF->ZT->Prop
noncomputable def Dk (l:List Env):List ZY:=l.filterMap (·.frame)
noncomputable abbrev Cx.fs (X:Cx):List ZY:=Dk X.outer
def Ku (sc:aeD)(x:Str):Prop:=sc.names.lookup x=some .local\/sc.names.lookup x=some .cell\/sc.names.lookup x=some .free
def GN (sc:aeD)(x:Str):Prop:=sc.names.lookup x=some .local\/sc.names.lookup x=some .cell
def UO (env:Env)(h:abT)(m:Str->Option ZF)(x:Str)(u:ZF):Prop:=
 (env.kindOf x=some .local/\m x=some u)\/((env.kindOf x=some .cell\/env.kindOf x=some .free)/\∃c,env.cells.lookup x=some c/\h.IsCell c (some u))
structure Cx.Ok (X:Cx):Prop where
 mod:Mod X.K X.mg X.base
 kind:X.env.scope.kind=.function
 glob:X.env.globals=aag
 blt:X.env.builtins=builtinsNs
 above:X.s₀.heap.objs.size<=X.env.locals
 inj:∀x y c,X.env.cells.lookup x=some c->X.env.cells.lookup y=some c->x=y
 has:∀x,(X.env.kindOf x=some .cell\/X.env.kindOf x=some .free)->∃c,X.env.cells.lookup x=some c
 cab:∀x c,X.fn x=true->X.env.cells.lookup x=some c->X.s₀.heap.objs.size<=c
 hd:X.calm=true->X.A.handled=none
 frames:X.A.frames=some X.stack
 stk:X.stack=X.outer\/(X.stack=X.env::X.outer/\X.env.frame=some X.env.locals)
 exf:∀b∈X.ex,b≠X.env.locals/\∀x c,X.env.cells.lookup x=some c->c≠b
 bs:∀b o,X.base.get? b=some o->X.s₀.heap.get? b=some o/\X.H₀ b=none
 bsz:X.base.objs.size<=X.s₀.heap.objs.size
 noex:∀b o,X.base.get? b=some o->b∉X.ex
 exfs:∀b∈X.ex,b∉X.fs
 funs:X.s₀.heap.FunFrames X.base X.outer
 frf:∀b∈X.fs,X.H₀ b=none
structure aN (X:Cx)(pins:List (ZY×Obj))(σ:List (Option V))(H:Hp)(s:ZT):Prop where
 ok:X.Ok
 os:s.os=X.s₀.os
 bare:AllBare s.gens
 base:Un X.fs X.ex X.H₀ H X.s₀.heap s.heap
 loc:∃m,s.heap.Ns X.env.locals m/\∀(i:Nat) (x:Str) (v:V),X.N[i]? = some x->σ[i]? = some (some v)->Ku X.env.scope x->∃u,bA v u/\UO X.env s.heap m x u
 cell:∀x c,X.env.cells.lookup x=some c->∃v,s.heap.IsCell c v
 free:H X.env.locals=none
 freeC:∀x c,X.env.cells.lookup x=some c->H c=none
 pin:∀p∈X.pn++pins,s.heap.get? p.1=some p.2/\H p.1=none/\p.1≠X.env.locals/\p.1∉X.fs/\∀v,p.2.data≠.cell v
 hok:mn X.prog X.w H s.heap
 len:σ.length=X.N.length
section
variable {X:Cx}{σ:List (Option V)}
theorem Cx.Ok.nofr (ok:X.Ok){o:Obj}(e:X.base.get? b=some o):b∉X.fs:=λhb=>by
 have:=(ok.funs.mem hb).1;lia
def aN.bs (I:aN X pins σ H s):∀b o,X.base.get? b=some o->s.heap.get? b=some o/\H b=none:=λb o e=>
 ⟨I.base.keep b o (I.ok.bs b o e).1 (I.ok.bs b o e).2 (I.ok.nofr e) (I.ok.noex b o e),I.base.free b o (I.ok.bs b o e).1 (I.ok.bs b o e).2 (I.ok.noex b o e)⟩
def aN.bk (I:aN X pins σ H s):∀b o,X.base.get? b=some o->s.heap.get? b=some o:=λb o e=>(I.bs b o e).1
def aN.mod (I:aN X pins σ H s):Mod X.K X.mg X.base:=I.ok.mod
def aN.kIn (I:aN X pins σ H s):X.K.In s.heap:=I.ok.mod.kin.keeps I.bk
def aN.lt (I:aN X pins σ H s):X.env.locals<s.heap.objs.size:=let ⟨_,hn,_⟩:=I.loc;hn.lt
def aN.sz (I:aN X pins σ H s):X.s₀.heap.objs.size<=s.heap.objs.size:=aaz I.ok.above (Nat.le_of_lt I.lt)
theorem aN.nofs (I:aN X pins σ H s)(h:s.heap.objs.size<=a):a∉X.fs:=λhb=>by
 obtain⟨_,o,ho,_⟩:=I.ok.funs.mem hb;exact absurd (aah (ZU ho) (aaz I.sz h)) (abe _)
theorem aN.cne (I:aN X pins σ H s):∀x c,X.env.cells.lookup x=some c->c≠X.env.locals:=λx c e z=>by
 obtain⟨v,o,ho,hd⟩:=I.cell x c e;obtain⟨m,⟨o',es,ep,Ki,hd',_⟩,_⟩:=I.loc;rw[z,Ki] at ho;cases ho;rw[hd'] at hd;cases hd
theorem aN.funs (I:aN X pins σ H s):s.heap.FunFrames X.base X.outer:=by
 have all:∀(l:List Env),(∀b∈Dk l,b∈X.fs)->X.s₀.heap.FunFrames X.base l->s.heap.FunFrames X.base l:=by
  intro l
  induction l with
  |nil=>intro _ _;trivial
  |cons env r ih=>
   intro hs hl;obtain⟨hk,⟨L,o,hf,hn,ho,hd⟩,hr⟩:=hl;have hL:L∈X.fs:=hs L (by unfold Dk;rw[ad1,hf];exact ZA);obtain⟨sl,e⟩:=I.base.slot L o ho (I.ok.frf L hL) hL λz=>I.ok.exfs L z hL;exact⟨hk,⟨L,_,hf,hn,e,hd⟩,ih (λb hb=>hs b (by unfold Dk;rw[ad1,hf];exact ZC _ hb)) hr⟩
 exact all X.outer (λ_ hb=>hb) I.ok.funs
theorem aN.stack (I:aN X pins σ H s):s.heap.FunFrames X.base X.stack:=by
 rcases I.ok.stk with e|⟨e,hf⟩
 ·rw[e];exact I.funs
 ·rw[e];obtain⟨m,hn,_⟩:=I.loc;refine .cons (by rw[I.ok.kind];decide) hf hn ?_ I.funs;exact Heap.get?_none_of_le (aaz I.ok.bsz I.ok.above)
theorem aN.stkSub (I:aN X pins σ H s):∀b∈Dk X.stack,b∈X.env.locals::X.fs:=λb hb=>by
 rcases I.ok.stk with e|⟨e,hf⟩
 ·rw[e] at hb;exact ZC _ hb
 ·rw[e] at hb;unfold Dk at hb;rw[ad1,hf] at hb;exact hb
theorem aN.stkFree (I:aN X pins σ H s):∀b∈Dk X.stack,H b=none:=λb hb=>by
 rcases ZK.mp (I.stkSub b hb) with e|hb
 ·rw[e];exact I.free
 ·obtain⟨_,o,ho,_⟩:=I.ok.funs.mem hb;exact I.base.free b o ho (I.ok.frf b hb) λz=>I.ok.exfs b z hb
theorem aN.step {t':Nat}{g':Array GenState}{d':Drawn}(I:aN X pins σ H s)(KD:∀b∈ch,(b∈X.ex\/X.s₀.heap.objs.size<=b)/\b≠X.env.locals/\(∀x c,X.env.cells.lookup x=some c->c≠b)/\∀p∈X.pn++pins,p.1≠b)(keep:∀b o,b≠X.env.locals->b∉X.fs->b∉ch->s.heap.get? b=some o->H b=none->h'.get? b=some o)(slot:∀b o,b≠X.env.locals->b∈X.fs->b∉ch->s.heap.get? b=some o->H b=none->∃sl,h'.get? b=some {o with slots:=sl})(free:∀b o,b∉ch->s.heap.get? b=some o->H b=none->H' b=none)(there:∀b o,b∉ch->s.heap.get? b=some o->∃o',h'.get? b=some o')(tups:∀b xs,H b=some (.tup xs)->H' b=some (.tup xs))(frzs:∀b o u,H b=some (.frz o u)->H' b=some (.frz o u))(tbls:∀b ps,H b=some (.tbl ps)->∃more,H' b=some (.tbl (ps++more)))(ns:∀m,s.heap.Ns X.env.locals m->h'.Ns X.env.locals m)(hok:mn X.prog X.w H' h')(hg:AllBare g') :
  aN X pins σ H' {s with heap:=h',gens:=g',drawn:=d',toks:=t'}:=by
 have W2:∀b o,X.s₀.heap.get? b=some o->b≠X.env.locals:=λb o e=>Z6 (aah (ZU e) I.ok.above);have UA:∀b o,X.s₀.heap.get? b=some o->b∉X.ex->b∉ch:=λb o e hx hb=>by
  rcases (KD b hb).1 with z|z
  ·exact hx z
  ·exact absurd (aah (ZU e) z) (abe _)
 have Ol:∀x c,X.env.cells.lookup x=some c->∀v,s.heap.IsCell c v->h'.IsCell c v:=λx c e v h00=>by
  obtain⟨o,ho,hd⟩:=h00;have Tp:c∉ch:=λz=>(KD c z).2.2.1 x c e rfl;by_cases hc:c∈X.fs
  ·obtain⟨sl,q⟩:=slot c o (I.cne x c e) hc Tp ho (I.freeC x c e);exact⟨_,q,hd⟩
  ·exact⟨o,keep c o (I.cne x c e) hc Tp ho (I.freeC x c e),hd⟩
 refine⟨I.ok,I.os,hg,⟨λb o e n hb hx=>?_,λb o e n hb hx=>?_,λb o e n hx=>?_,λb o e hx=>?_,λb xs e=>tups b xs (I.base.tups b xs e),λb o xs e=>frzs b o xs (I.base.frzs b o xs e),λb ps e=>?_⟩,?_,λx c e=>?_,?_,λx c e=>?_,λp hp=>?_,hok,I.len⟩
 ·exact keep b o (W2 b o e) hb (UA b o e hx) (I.base.keep b o e n hb hx) (I.base.free b o e n hx)
 ·obtain⟨sl,e1⟩:=I.base.slot b o e n hb hx;obtain⟨sl',e2⟩:=slot b _ (W2 b o e) hb (UA b o e hx) e1 (I.base.free b o e n hx);exact⟨sl',e2⟩
 ·obtain⟨o',e1⟩:=I.base.there b o e hx;exact free b o' (UA b o e hx) e1 (I.base.free b o e n hx)
 ·obtain⟨o',e1⟩:=I.base.there b o e hx;exact there b o' (UA b o e hx) e1
 ·obtain⟨m1,e1⟩:=I.base.tbls b ps e;obtain⟨m2,e2⟩:=tbls b _ e1;exact⟨m1++m2,by rw[e2,Array.append_assoc]⟩
 ·obtain⟨m,hn,hl⟩:=I.loc;refine⟨m,ns m hn,λi x v e1 e2 e3=>?_⟩;obtain⟨u,r,l⟩:=hl i x v e1 e2 e3;refine⟨u,r,?_⟩;rcases l with l|⟨k,c,e,z⟩
  ·exact .inl l
  ·exact .inr ⟨k,c,e,Ol x c e _ z⟩
 ·obtain⟨v,z⟩:=I.cell x c e;exact⟨v,Ol x c e v z⟩
 ·obtain⟨m,⟨o,_,_,ho,_⟩,_⟩:=I.loc;exact free _ o (λz=>(KD _ z).2.1 rfl) ho I.free
 ·obtain⟨v,o,ho,hd⟩:=I.cell x c e;exact free c o (λz=>(KD c z).2.2.1 x c e rfl) ho (I.freeC x c e)
 ·obtain⟨e,n,ne,nf,d⟩:=I.pin p hp;have Tp:p.1∉ch:=λz=>(KD p.1 z).2.2.2 p hp rfl;exact⟨keep p.1 p.2 ne nf Tp e n,free p.1 p.2 Tp e n,ne,nf,d⟩
theorem aN.un {t':Nat}(I:aN X pins σ H s)(u:Un X.fs [] H H' s.heap h')(hok:mn X.prog X.w H' h'):aN X pins σ H' {s with heap:=h',toks:=t'}:=by
 obtain⟨m,⟨o,es,ep,ho,r⟩,_⟩:=id I.loc;obtain⟨sl,hL⟩:=u.any ho I.free (by simp);exact I.step (g':=s.gens) (d':=s.drawn) (ch:=[]) (λ_ z=>nomatch z) (λb o _ hb _ e n=>u.keep b o e n hb (by simp)) (λb o _ hb _ e n=>u.slot b o e n hb (by simp)) (λb o _ e n=>u.free b o e n (by simp)) (λb o _ e=>u.there b o e (by simp)) u.tups u.frzs u.tbls (λm' hm=>by
  obtain⟨o',Kr,ep',Ki,r'⟩:=hm;rw[ho] at Ki;cases Ki;exact⟨_,Kr,ep',hL,r'⟩) hok I.bare
theorem aN.call {t':Nat}{g':Array GenState}{d':Drawn}(I:aN X pins σ H s)(u:Un (Dk X.stack) ch H H' s.heap h')(hok:mn X.prog X.w H' h')(hg:AllBare g')(KD:∀b∈ch,(b∈X.ex\/X.s₀.heap.objs.size<=b)/\b≠X.env.locals/\(∀x c,X.env.cells.lookup x=some c->c≠b)/\∀p∈X.pn++pins,p.1≠b) :
  aN X pins σ H' {s with heap:=h',gens:=g',drawn:=d',toks:=t'}:=by
 obtain⟨m,⟨o,es,ep,ho,r⟩,_⟩:=id I.loc;obtain⟨sl,hL⟩:=u.any ho I.free λz=>(KD _ z).2.1 rfl;exact I.step (ch:=ch) KD (λb o hL hb hc e n=>u.keep b o e n (λz=>(ZK.mp (I.stkSub b z)).elim hL hb) hc) (λb o _ _ hc e n=>u.any e n hc) (λb o hc e n=>u.free b o e n hc) (λb o hc e=>u.there b o e hc) u.tups u.frzs u.tbls (λm' hm=>by
  obtain⟨o',Kr,ep',Ki,r'⟩:=hm;rw[ho] at Ki;cases Ki;exact⟨_,Kr,ep',hL,r'⟩) hok hg
theorem aN.turned {t':Nat}(I:aN X pins σ H s)(k:∀b o,b≠it->s.heap.get? b=some o->h'.get? b=some o)(hn:H it=none)(hL:it≠X.env.locals)(h1:it∈X.ex\/X.s₀.heap.objs.size<=it)(h2:∀x c,X.env.cells.lookup x=some c->c≠it)(h3:∀p∈X.pn++pins,p.1≠it):aN X pins σ H {s with heap:=h',toks:=t'}:=by
 have W3:∀b u,H b=some u->b≠it:=λb u e z=>by rw[z,hn] at e;cases e
 refine I.step (g':=s.gens) (d':=s.drawn) (ch:=[it]) (λb hb=>?_) (λb o _ _ hc e _=>k b o (λz=>hc (by simp[z])) e) (λb o _ _ hc e _=>⟨o.slots,k b o (λz=>hc (by simp[z])) e⟩) (λ_ _ _ _ n=>n)
  (λb o hc e=>⟨o,k b o (λz=>hc (by simp[z])) e⟩) (λ_ _ e=>e) (λ_ _ _ e=>e) (λb ps e=>⟨(List.toArray []),by rw[e];simp⟩) (λm hm=>?_) (λb u e=>?_) I.bare
 ·have e:b=it:=by simpa using hb
  subst e;exact⟨h1,hL,h2,h3⟩
 ·obtain⟨o,es,ep,ho,r⟩:=hm;exact⟨o,es,ep,k _ o (Ne.symm hL) ho,r⟩
 ·refine (I.hok b u e).stay (λc v hc q=>k c v ?_ q) (λ_ q=>q) λ_ _ q=>q;rcases hc with z|z
  ·rw[z];exact W3 b u e
  ·exact W3 c _ z
def aN.tok (I:aN X pins σ H s)(t:Nat):aN X pins σ H {s with toks:=t}:=I.un (h':=s.heap) (t':=t) Un.refl I.hok
def aN.kept {t':Nat}(I:aN X pins σ H s)(k:∀b u,s.heap.get? b=some u->h'.get? b=some u):aN X pins σ H {s with heap:=h',toks:=t'}:=I.un (Un.kept k) (I.hok.kept k)
def aN.laid {t':Nat}{o:HO}(I:aN X pins σ H s)(k:∀b u,s.heap.get? b=some u->h'.get? b=some u)(hp:s.heap.objs.size<=a)(new:bT X.prog X.w (cE H a o) h' a o) :
  aN X pins σ (cE H a o) {s with heap:=h',toks:=t'}:=I.un (Un.laid k hp (I.hok.fresh hp)) (I.hok.laid k hp new)
def aN.write {t':Nat}{x e:ZY}{o:HO}(I:aN X pins σ H s)(mu:QV (H x))(he:e=x\/H e=some (.own x))(k:∀b u,b≠e->s.heap.get? b=some u->h'.get? b=some u)(Q1:∃u,h'.get? e=some u)(new:bT X.prog X.w (cE H x o) h' x o):aN X pins σ (cE H x o) {s with heap:=h',toks:=t'}:=I.un (Un.write mu he k Q1) (I.hok.write mu he k Q1 new)
def aN.pins_of {Om:List (ZY×Obj)}(I:aN X pins σ H s)(h:∀p∈Om,s.heap.get? p.1=some p.2/\H p.1=none/\p.1≠X.env.locals/\p.1∉X.fs/\∀v,p.2.data≠.cell v):aN X Om σ H s:=
 ⟨I.ok,I.os,I.bare,I.base,I.loc,I.cell,I.free,I.freeC,λp hp=>(aab.mp hp).elim (λz=>I.pin p (ZZ _ z)) (h p),I.hok,I.len⟩
theorem zF (hN:N.Nodup)(a:N[i]? = some x)(b:N[j]? = some x):i=j:=by
 obtain⟨h1,e1⟩:=ZN.mp a;obtain⟨h2,e2⟩:=ZN.mp b;exact (List.getElem_inj hN).mp (e1.trans e2.symm)
theorem w6 {A:aar}{u:ZF}{Q:Unit->ZT->Prop}(I:aN X pins σ H s)(hN:X.N.Nodup)(hi:X.N[i]? = some x)(hx:GN X.env.scope x)(r:bA v u)(h:∀s',aN X pins (σ.set i (some v)) H s'->(∃a,abp a s.heap s'.heap/\(a=X.env.locals\/X.env.cells.lookup x=some a))->Q () s')(hf:X.fn x=true\/X.env.scope.names.lookup x=some .local:=by first|exact .inl rfl|exact .inr rfl|assumption):Z1 M A (storeName X.env x u) Q E s:=by
 obtain⟨m,hn,hl⟩:=id I.loc;have VL:(X.env.scope.kind==.class||(X.env.scope.kind==.module&&X.env.locals != X.env.globals))=false:=by rw[I.ok.kind];rfl
 have W4:i<σ.length:=by rw[I.len];exact (ZN.mp hi).1
 have cne:=I.cne;have E1:∀{a:ZY} {h':abT},(∃o,s.heap.get? a=some o/\H a=none)->abp a s.heap h'->mn X.prog X.w H h':=λ{a h'} ha hs b ob e=>by
  obtain⟨_,_,v8⟩:=ha;refine (I.hok b ob e).stay (λc w' hc q=>(hs.2 c ?_).trans q) (λ_ q=>q) λ_ _ q=>q;rintro rfl;rcases hc with rfl|hc
  ·rw[v8] at e;cases e
  ·rw[v8] at hc;cases hc
 rcases hx with hk|hk
 ·refine wpAny_storeName_local hk hn (λh' Q2 hs=>?_) VL;obtain⟨oL,_,_,QK,_⟩:=id hn;refine h _ ⟨I.ok,I.os,I.bare,⟨λb o e n hb hx=>?_,λb o e n hb hx=>?_,I.base.free,λb o e hx=>?_,I.base.tups,I.base.frzs,I.base.tbls⟩,⟨_,Q2,λj y v' e1 e2 e3=>?_⟩,λy c e=>?_,I.free,I.freeC,λp hp=>?_,E1 ⟨oL,QK,I.free⟩ hs,by simpa using I.len⟩ ⟨_,hs,.inl rfl⟩
  ·exact (hs.2 b (Z6 (aah (ZU e) I.ok.above))).trans (I.base.keep b o e n hb hx)
  ·obtain⟨sl,e1⟩:=I.base.slot b o e n hb hx;exact⟨sl,(hs.2 b (Z6 (aah (ZU e) I.ok.above))).trans e1⟩
  ·obtain⟨o',e1⟩:=I.base.there b o e hx;exact⟨o',(hs.2 b (Z6 (aah (ZU e) I.ok.above))).trans e1⟩
  ·by_cases hj:j=i
   ·subst hj;rw[hi] at e1;cases e1;rw[abk W4] at e2;cases e2;exact⟨u,r,.inl ⟨hk,by simp⟩⟩
   ·rw[Z_ (Ne.symm hj)] at e2;obtain⟨u',r',q⟩:=hl j y v' e1 e2 e3;refine⟨u',r',?_⟩;rcases q with⟨k,e⟩|⟨k,c,e,z⟩
    ·refine .inl ⟨k,?_⟩;have:y≠x:=λe=>hj (zF hN e1 (e▸hi));simp[this,e]
    ·exact .inr ⟨k,c,e,z.sameBut hs (cne y c e)⟩
  ·obtain⟨w',z⟩:=I.cell y c e;exact⟨w',z.sameBut hs (cne y c e)⟩
  ·obtain⟨e,n,ne,nf,d⟩:=I.pin p hp;exact⟨(hs.2 p.1 ne).trans e,n,ne,nf,d⟩
 ·have VM:X.fn x=true:=by
   rcases hf with z|z
   ·exact z
   ·rw[z] at hk;cases hk
  obtain⟨c,hc⟩:=I.ok.has x (.inl hk);obtain⟨w',z⟩:=I.cell x c hc;refine wpAny_storeName_cell I.ok.kind hk hc z (λh' W5 hs=>?_);obtain⟨oc,hoc,hocd⟩:=id z;refine h {s with heap:=h'} ⟨I.ok,I.os,I.bare,⟨λb o e n hb hx=>?_,λb o e n hb hx=>?_,I.base.free,λb o e hx=>?_,I.base.tups,I.base.frzs,I.base.tbls⟩,⟨m,hn.sameBut hs (Ne.symm (cne x c hc)),λj y v' e1 e2 e3=>?_⟩,λy c' e=>?_,I.free,I.freeC,λp hp=>?_,E1 ⟨oc,hoc,I.freeC x c hc⟩ hs,by simpa using I.len⟩ ⟨c,hs,.inr hc⟩
  ·exact (hs.2 b (Z6 (aah (ZU e) (I.ok.cab x c VM hc)))).trans (I.base.keep b o e n hb hx)
  ·obtain⟨sl,e1⟩:=I.base.slot b o e n hb hx;exact⟨sl,(hs.2 b (Z6 (aah (ZU e) (I.ok.cab x c VM hc)))).trans e1⟩
  ·obtain⟨o',e1⟩:=I.base.there b o e hx;exact⟨o',(hs.2 b (Z6 (aah (ZU e) (I.ok.cab x c VM hc)))).trans e1⟩
  ·by_cases hj:j=i
   ·subst hj;rw[hi] at e1;cases e1;rw[abk W4] at e2;cases e2;exact⟨u,r,.inr ⟨.inl hk,c,hc,W5⟩⟩
   ·rw[Z_ (Ne.symm hj)] at e2;obtain⟨u',r',q⟩:=hl j y v' e1 e2 e3;refine⟨u',r',?_⟩;rcases q with q|⟨k,c',e,z'⟩
    ·exact .inl q
    ·refine .inr ⟨k,c',e,z'.sameBut hs ?_⟩;rintro rfl;exact hj (zF hN e1 (I.ok.inj _ _ _ e hc▸hi))
  ·by_cases hcc:c'=c
   ·subst hcc;exact⟨_,W5⟩
   ·obtain⟨w2,z2⟩:=I.cell y c' e;exact⟨w2,z2.sameBut hs hcc⟩
  ·obtain⟨e,n,ne,nf,d⟩:=I.pin p hp;refine⟨(hs.2 p.1 ?_).trans e,n,ne,nf,d⟩;intro q;rw[q,hoc] at e;have q':oc=p.2:=Z0 e;exact d w' (by rw[←q'];exact hocd)
def mq {A:aar}{u:ZF}{Q:Unit->ZT->Prop}(I:aN X pins σ H s)(hN:X.N.Nodup)(hi:X.N[i]? = some x)(hx:GN X.env.scope x)(r:bA v u)(h:∀s',aN X pins (σ.set i (some v)) H s'->Q () s')(hf:X.fn x=true\/X.env.scope.names.lookup x=some .local:=by first|exact .inl rfl|exact .inr rfl|assumption):Z1 M A (storeName X.env x u) Q E s:=
 w6 I hN hi hx r (λs' I' _=>h s' I') hf
theorem aN.call' {s':ZT}(I:aN X pins σ H s)(ho:s'.os=s.os)(u:Un (Dk X.stack) ch H H' s.heap s'.heap)(hok:mn X.prog X.w H' s'.heap)(hg:AllBare s'.gens)(KD:∀b∈ch,(b∈X.ex\/X.s₀.heap.objs.size<=b)/\b≠X.env.locals/\(∀x c,X.env.cells.lookup x=some c->c≠b)/\∀p∈X.pn++pins,p.1≠b):aN X pins σ H' s':=by
 obtain⟨h',g',d',t',o'⟩:=s';have e:o'=s.os:=ho;subst e;exact I.call (g':=g') (t':=t') (d':=d') u hok hg KD
end
abbrev XK:=ZF->Option ZY->Hp->Prop
noncomputable abbrev St:=List (Option V)
abbrev VK:=V->Hp->Prop
abbrev TE:=St->Hp->VK->Prop
abbrev TT:=St->Hp->(Bool->Hp->Prop)->Prop
abbrev TA:=St->Hp->(List V->Hp->Prop)->Prop
structure oI where
 nx:St->Hp->Prop
 rt:VK
 bk:St->Hp->Prop:=λ_ _=>False
 ct:St->Hp->Prop:=λ_ _=>False
abbrev TS:=oI->St->Hp->Prop
def EP (X:Cx)(pins:List (ZY×Obj))(σ:St)(Q:VK)(u:ZF)(s':ZT):Prop:=∃v H',aN X pins σ H' s'/\bA v u/\Q v H'
def TP (X:Cx)(pins:List (ZY×Obj))(σ:St)(Q:Bool->Hp->Prop)(b:Bool)(s':ZT):Prop:=∃H',aN X pins σ H' s'/\Q b H'
def AP (X:Cx)(pins:List (ZY×Obj))(σ:St)(Q:List V->Hp->Prop)(us:List ZF)(s':ZT):Prop:=∃vs H',aN X pins σ H' s'/\bw vs us/\Q vs H'
def SP (X:Cx)(pins:List (ZY×Obj))(D:oI)(f:Flow)(s':ZT):Prop:=
 match f with
 | .next=>∃σ' H',aN X pins σ' H' s'/\D.nx σ' H'
 | .brk=>∃σ' H',aN X pins σ' H' s'/\D.bk σ' H'
 | .cont=>∃σ' H',aN X pins σ' H' s'/\D.ct σ' H'
 | .ret u=>∃v σ' H',aN X pins σ' H' s'/\bA v u/\D.rt v H'
def PE (X:Cx)(e:abd)(t:TE):Prop:=
 ∀(pins:List (ZY×Obj)) (s:ZT) (σ:St) (H:Hp) (Q:VK),aN X pins σ H s->t σ H Q->Z1 (Z8 X.prog X.w) X.A (acP e X.env) (EP X pins σ Q) X.xe s
def PT (X:Cx)(e:abd)(t:TT):Prop:=
 ∀(pins:List (ZY×Obj)) (s:ZT) (σ:St) (H:Hp) (Q:Bool->Hp->Prop),aN X pins σ H s->t σ H Q->Z1 (Z8 X.prog X.w) X.A (isTrue e X.env (acP e X.env)) (TP X pins σ Q) X.xe s
def PW (X:Cx)(e:abd)(t:TT):Prop:=
 ∀(whole:Sem ZF) (pins:List (ZY×Obj)) (s:ZT) (σ:St) (H:Hp) (Q:Bool->Hp->Prop),aN X pins σ H s->t σ H Q->Z1 (Z8 X.prog X.w) X.A (isTrue e X.env whole) (TP X pins σ Q) X.xe s
def PW.pt {X:Cx}{e:abd}{t:TT}(h:PW X e t):PT X e t:=h _
def PA (X:Cx)(es:List abd)(t:TA):Prop:=
 ∀(pos:Pos) (pins:List (ZY×Obj)) (s:ZT) (σ:St) (H:Hp) (Q:List V->Hp->Prop),aN X pins σ H s->t σ H Q->Z1 (Z8 X.prog X.w) X.A (spliced (abL pos (ZX es X.env))) (AP X pins σ Q) X.xe s
def PS (X:Cx)(st:aca)(t:TS):Prop:=
 ∀(pins:List (ZY×Obj)) (s:ZT) (σ:St) (H:Hp) (D:oI),aN X pins σ H s->t D σ H->Z1 (Z8 X.prog X.w) X.A (exec st X.env) (SP X pins D) X.xe s
def wc (X:Cx)(st:List aca)(t:TS):Prop:=
 ∀(pins:List (ZY×Obj)) (s:ZT) (σ:St) (H:Hp) (D:oI),aN X pins σ H s->t D σ H->Z1 (Z8 X.prog X.w) X.A (execs st X.env) (SP X pins D) X.xe s
def eK {α:Type}{t:Sem α}{Q Q':α->ZT->Prop}{A:aar}(h:Z1 M A t Q E s)(hQ:∀a s,Q a s->Q' a s):Z1 M A t Q' E s:=aaN h hQ λ_ _ x=>x
end L2
variable {X:L2.Cx}{σ:L2.St}{te:L2.TE}
namespace L2
section
def OJ (i:Nat):TE:=λσ H Q=>∃v,σ[i]? = some (some v)/\Q v H
def tC (v:V):TE:=λ_ H Q=>Q v H
theorem oJ (hN:X.N[i]? = some x)(hv:Ku X.env.scope x)(hd:(x==("__debug__":Str))=false:=by decide)(vX:(x==("__classdict__":Str))=false:=by decide):PE X (.Name x pos) (OJ i):=by
 intro pins s σ H Q I h;obtain⟨v,e,h⟩:=h;obtain⟨m,hn,hl⟩:=I.loc;obtain⟨u,r,l⟩:=hl i x v hN e hv;have fin:EP X pins σ Q u s:=⟨v,H,I,r,h⟩;rcases l with⟨hk,hm⟩|⟨hk,c,hc,sL⟩
 ·exact wpAny_Name (wpAny_loadName_local I.ok.kind hk hn hm fin) hd
 ·rcases hk with hk|hk
  ·exact wpAny_Name (wpAny_loadName_cell I.ok.kind hk hc sL fin) hd
  ·exact wpAny_Name (wpAny_loadName_free I.ok.kind hk hc sL fin vX) hd
def xW {i j pos}:PE X (.Constant (.int i) j pos) (tC (.int i)):=λ_ _ _ H _ I h=>wpAny_Constant_int ⟨.int i,H,I.tok _,⟨_,rfl⟩,h⟩
def Q7 {b j pos}:PE X (.Constant (.bool b) j pos) (tC (.bl b)):=λ_ _ _ H _ I h=>Constant_bool ⟨.bl b,H,I,rfl,h⟩
def OL {j pos}:PE X (.Constant .none j pos) (tC .non):=λ_ _ _ H _ I h=>Constant_none ⟨.non,H,I,rfl,h⟩
def xX {x j pos}:PE X (.Constant (.str x) j pos) (tC (.str x)):=λ_ _ _ H _ I h=>Calls.Constant_str ⟨.str x,H,I.tok _,⟨_,rfl⟩,h⟩
def Gl (X:Cx)(x:Str):Prop:=X.env.kindOf x=some .globalImplicit
def Dl {u:ZF}(I:aN X pins σ H s)(hg:Gl X x)(hm:X.mg x=some u)(h:Q u s)(hd:(x==("__debug__":Str))=false:=by decide):Z1 (Z8 X.prog X.w) X.A (acP (.Name x pos) X.env) Q E s:=
 aec I.ok.kind hg (Calls.loadGlobal_global (by rw[I.ok.glob];exact I.mod.glob.keeps I.bk) hm h) hd
theorem tX {u:ZF}(I:aN X pins σ H s)(hg:Gl X x)(hm:X.mg x=none)(hv:aai x=some u)(h:Q u s)(hn:x≠"__name__":=by decide)(hd:(x==("__debug__":Str))=false:=by decide):Z1 (Z8 X.prog X.w) X.A (acP (.Name x pos) X.env) Q E s:=by
 obtain⟨mb,h1,h2⟩:=I.mod.blt;exact aec I.ok.kind hg (Calls.loadGlobal_builtin (by rw[I.ok.glob];exact I.mod.glob.keeps I.bk) hm (by rw[I.ok.blt];exact h1.keeps I.bk) ((h2 x hn).trans hv) h) hd
def KO {u:ZF}(hg:Gl X x)(hm:X.mg x=some u)(r:bA v u)(hd:(x==("__debug__":Str))=false:=by decide):PE X (.Name x pos) (tC v):=
 λ_ _ _ H _ I h=>Dl I hg hm ⟨v,H,I,r,h⟩ hd
def xY {u:ZF}(hg:Gl X x)(hm:X.mg x=none)(hv:aai x=some u)(r:bA v u)(hn:x≠"__name__":=by decide)(hd:(x==("__debug__":Str))=false:=by decide):PE X (.Name x pos) (tC v):=
 λ_ _ _ H _ I h=>tX I hg hm hv ⟨v,H,I,r,h⟩ hn hd
variable {a b:abd}{ta tb:TE}
def tB (t:TE):TT:=λσ H Q=>t σ H λx H1=>∃c,x=.bl c/\Q c H1
theorem OM {e:abd}{t:TE}(h:PE X e t)(he:∀whole,isTrue e X.env whole=(do let v ←whole;standAt e.pos;holding [v] (truthy v)):=by intro _;rfl):PT X e (tB t):=by
 intro pins s σ H Q I hw;refine isTrue_plain (eK (h pins s σ H _ I hw) λv s1 ⟨x,H1,I1,r1,q1⟩=>?_) (he _);obtain⟨d,rfl,q⟩:=q1;cases r1;exact abE ⟨H1,I1,q⟩
variable {tA tB':TT}{rest:List abd}
def Q8 (t u:TT):TT:=λσ H Q=>t σ H λc H1=>if c=true then u σ H1 Q else Q false H1
def Ww (t u:TT):TT:=λσ H Q=>t σ H λc H1=>if c=true then Q true H1 else u σ H1 Q
def UP (t:TT):TT:=λσ H Q=>t σ H λc H1=>Q (!c) H1
theorem KP (ha:PT X a tA):PW X (.BoolOp .And [a] pos) tA:=by
 intro wh pins s σ H Q I h;refine isTrue_and (eK (ha pins s σ H Q I h) λc s1 e=>?_);cases c with
 |true=>exact isTrue_and_nil e
 |false=>exact e
theorem ON (ha:PT X a tA):PW X (.BoolOp .Or [a] pos) tA:=by
 intro wh pins s σ H Q I h;refine isTrue_or (eK (ha pins s σ H Q I h) λc s1 e=>?_);cases c with
 |false=>exact isTrue_or_nil e
 |true=>exact e
theorem OO (ha:PT X a tA)(hb:PW X (.BoolOp .And (b::rest) pos) tB'):PW X (.BoolOp .And (a::b::rest) pos) (Q8 tA tB'):=by
 intro wh pins s σ H Q I h;refine isTrue_and (eK (ha pins s σ H _ I h) λc s1 ⟨H1,I1,q1⟩=>?_);cases c with
 |true=>exact hb wh pins s1 σ H1 Q I1 q1
 |false=>exact⟨H1,I1,q1⟩
theorem Q9 (ha:PT X a tA)(hb:PW X (.BoolOp .Or (b::rest) pos) tB'):PW X (.BoolOp .Or (a::b::rest) pos) (Ww tA tB'):=by
 intro wh pins s σ H Q I h;refine isTrue_or (eK (ha pins s σ H _ I h) λc s1 ⟨H1,I1,q1⟩=>?_);cases c with
 |true=>exact⟨H1,I1,q1⟩
 |false=>exact hb wh pins s1 σ H1 Q I1 q1
def OP (ha:PT X a tA):PT X (.UnaryOp .Not a pos) (UP tA):=by
 intro pins s σ H Q I h;exact isTrue_not (ha pins s σ H (λc H1=>Q (!c) H1) I h)
def Q_ (ta tb:TE):TE:=λσ H Q=>ta σ H λx H1=>∃c,x=.bl c/\if c=true then tb σ H1 Q else Q (.bl false) H1
def Ra (ta:TE):TE:=λσ H Q=>ta σ H λx H1=>∃c,x=.bl c/\Q (.bl (!c)) H1
def OQ {op}{t:TE}(h:PE X a t):PE X (.BoolOp op [a] pos) t:=λpins s σ H Q I hw=>BoolOp_one (h pins s σ H Q I hw)
theorem OR (ha:PE X a ta)(hb:PE X (.BoolOp .And (b::rest) pos) tb):PE X (.BoolOp .And (a::b::rest) pos) (Q_ ta tb):=by
 intro pins s σ H Q I h;refine BoolOp_and (eK (ha pins s σ H _ I h) λv s1 ⟨x,H1,I1,r1,q1⟩=>?_);obtain⟨c,rfl,q1⟩:=q1;cases r1;refine abE ?_;cases c with
 |true=>exact hb pins s1 σ H1 Q I1 q1
 |false=>exact⟨.bl false,H1,I1,rfl,q1⟩
theorem OS (ha:PE X a ta):PE X (.UnaryOp .Not a pos) (Ra ta):=by
 intro pins s σ H Q I h;refine UnaryOp_ (eK (ha pins s σ H _ I h) λv s1 ⟨x,H1,I1,r1,q1⟩=>?_);obtain⟨c,rfl,q1⟩:=q1;cases r1;exact not_of (abE ⟨.bl (!c),H1,I1,rfl,q1⟩)
def Xs (t:TT)(ta tb:TE):TE:=λσ H Q=>t σ H λc H1=>if c=true then ta σ H1 Q else tb σ H1 Q
theorem GO (hc:PT X c tA)(ha:PE X a ta)(hb:PE X b tb):PE X (.IfExp c a b pos) (Xs tA ta tb):=by
 intro pins s σ H Q I h;refine wpAny_IfExp (eK (hc pins s σ H _ I h) λd s1 ⟨H1,I1,q1⟩=>?_);cases d with
 |true=>exact ha pins s1 σ H1 Q I1 q1
 |false=>exact hb pins s1 σ H1 Q I1 q1
end
end L2
namespace L2
def gD (K:ZD)(H:Hp)(a:ZY)(xs:List V):Prop:=
 Rd H a (.lst xs) \/
  ∃(o:Obj) (its:Array ZF) (n:Nat),K.lookup a=some o/\o.cls=.type "list"/\o.dict=none/\o.data=.seq its n/\its.size<=ZH/\bw xs its.toList
def jj (K:ZD)(H:Hp)(a:ZY)(xs:List V):Prop:=
 Rd H a (.tup xs) \/
  ∃(o:Obj) (its:Array ZF) (n:Nat),K.lookup a=some o/\o.cls=.type "tuple"/\o.data=.seq its n/\its.size<=ZH/\bw xs its.toList
noncomputable def UQ:ZF->Option V
 | .none=>some .non
 | .bool b=>some (.bl b)
 | .int i _=>some (.int i)
 | .str x _=>some (.str x)
 | .bytes b _=>some (.byt b)
 | .float b _=>some (.flt b)
 | .ref a=>some (.ref a)
 | .type n=>some (.ty n)
 |_=>none
theorem bA.abs {x:V}{u:ZF}(r:bA x u):UQ u=some x:=by
 cases x with
 |non=>cases r;rfl
 |bl _=>cases r;rfl
 |int _=>obtain⟨t,rfl⟩:=r;rfl
 |str _=>obtain⟨t,rfl⟩:=r;rfl
 |byt _=>obtain⟨t,rfl⟩:=r;rfl
 |flt _=>obtain⟨t,rfl⟩:=r;rfl
 |ref _=>cases r;rfl
 |ty _=>cases r;rfl
def bA.inj {x:V}{u:ZF}(r:bA x u)(q:bA y u):x=y:=Z0 (r.abs.symm.trans q.abs)
theorem bw.inj:∀{xs ys:List V} {us:List ZF},bw xs us->bw ys us->xs=ys
 |_,_,_,.nil,.nil=>rfl
 |_,_,_,.cons r t,.cons r' t'=>by rw[r.inj r',bw.inj t t']
section
variable {ys:List V}
def gD.of (h:H a=some (.lst xs)):gD K H a xs:=.inl (.inl h)
def jj.of (h:H a=some (.tup xs)):jj K H a xs:=.inl (.inl h)
theorem aN.list (I:aN X pins σ H s)(h:gD X.K H a xs):∃its:List ZF,bw xs its/\PlainL s.heap a its.toArray/\xs.length<=ZH:=by
 rcases h with h|⟨o,its,n,hk,hc,hd,hs,hz,r⟩
 ·obtain⟨z,its,n,r,e⟩:=h.ok I.hok;exact⟨its,r,⟨_,n,e,rfl,rfl,rfl⟩,z⟩
 ·refine⟨its.toList,r,⟨o,n,I.kIn a o hk,hc,hd,by simpa using hs⟩,?_⟩;have e:=r.length;simp only[Z5] at e;lia
theorem aN.tuple (I:aN X pins σ H s)(h:jj X.K H a xs):∃its:List ZF,bw xs its/\IsTup s.heap a its.toArray/\xs.length<=ZH:=by
 rcases h with h|⟨o,its,n,hk,hc,hs,hz,r⟩
 ·obtain⟨z,its,r,p,_⟩:=h.ok I.hok;exact⟨its,r,p,z⟩
 ·refine⟨its.toList,r,⟨o,I.kIn a o hk,hc,n,by simp[*]⟩,?_⟩;have e:=r.length;simp only[Z5] at e;lia
theorem aN.list_inj (I:aN X pins σ H s)(h:gD X.K H a xs)(h':gD X.K H a ys):xs=ys:=by
 obtain⟨its,r,⟨o,n,e,_,_,d⟩,_⟩:=I.list h;obtain⟨its',r',⟨o',n',e',_,_,d'⟩,_⟩:=I.list h';rw[e] at e';cases e';rw[d] at d';injection d' with d1 _
 have:its=its':=by simpa using congrArg Array.toList d1
 subst this;exact r.inj r'
theorem aN.tuple_inj (I:aN X pins σ H s)(h:jj X.K H a xs)(h':jj X.K H a ys):xs=ys:=by
 obtain⟨its,r,⟨o,e,_,n,d⟩,_⟩:=I.tuple h;obtain⟨its',r',⟨o',e',_,n',d'⟩,_⟩:=I.tuple h';rw[e] at e';cases e';rw[d] at d';injection d' with d1 _
 have:its=its':=by simpa using congrArg Array.toList d1
 subst this;exact r.inj r'
end
noncomputable abbrev Cx.wish (X:Cx)(E:ZF->ZT->Prop):Cx:={X with xe:=E}
noncomputable abbrev Cx.nox (X:Cx):Cx:=X.wish λ_ _=>False
def Cx.Ok.wish (ok:X.Ok)(E:ZF->ZT->Prop):(X.wish E).Ok:=
 ⟨ok.mod,ok.kind,ok.glob,ok.blt,ok.above,ok.inj,ok.has,ok.cab,ok.hd,ok.frames,ok.stk,ok.exf,ok.bs,ok.bsz,ok.noex,ok.exfs,ok.funs,ok.frf⟩
def Cx.Ok.unwish (ok:(X.wish E).Ok):X.Ok:=
 ⟨ok.mod,ok.kind,ok.glob,ok.blt,ok.above,ok.inj,ok.has,ok.cab,ok.hd,ok.frames,ok.stk,ok.exf,ok.bs,ok.bsz,ok.noex,ok.exfs,ok.funs,ok.frf⟩
def aN.wish (I:aN X pins σ H s)(E:ZF->ZT->Prop):aN (X.wish E) pins σ H s:=⟨I.ok.wish E,I.os,I.bare,I.base,I.loc,I.cell,I.free,I.freeC,I.pin,I.hok,I.len⟩
def aN.unwish (I:aN (X.wish E) pins σ H s):aN X pins σ H s:=⟨I.ok.unwish,I.os,I.bare,I.base,I.loc,I.cell,I.free,I.freeC,I.pin,I.hok,I.len⟩
theorem SP.unwish {D:oI}{f:Flow}{s':ZT}(h:SP (X.wish E) pins D f s'):SP X pins D f s':=by
 cases f with
 |next=>obtain⟨σ',H',I,q⟩:=h;exact⟨σ',H',I.unwish,q⟩
 |brk=>obtain⟨σ',H',I,q⟩:=h;exact⟨σ',H',I.unwish,q⟩
 |cont=>obtain⟨σ',H',I,q⟩:=h;exact⟨σ',H',I.unwish,q⟩
 |ret u=>obtain⟨v,σ',H',I,r,q⟩:=h;exact⟨v,σ',H',I.unwish,r,q⟩
def wc.nox {st:List aca}{t:TS}(h:wc X.nox st t):wc X st t:=λpins s σ H D I hw=>
 aaN (h pins s σ H D (I.wish _) hw) (λ_ _ q=>q.unwish) λ_ _ z=>acI z
section
variable {st:aca}{rest:List aca}{t u:TS}{e:abd}
def Rb:TS:=λD σ H=>D.nx σ H
def UR (t u:TS):TS:=λD σ H=>t {D with nx:=u D} σ H
def Dm:wc X [] Rb:=λ_ _ σ H _ I h=>ad2 ⟨σ,H,I,h⟩
theorem GP (h1:PS X st t)(h2:wc X rest u):wc X (st::rest) (UR t u):=by
 intro pins s σ H D I h;refine wpAny_execs_cons (eK (h1 pins s σ H {D with nx:=u D} I h) λf s1 q=>?_);cases f with
 |next=>
  obtain⟨σ',H',I',q⟩:=q;exact h2 pins s1 σ' H' D I' q
 |ret v=>exact q
 |brk=>exact q
 |cont=>exact q
theorem Dn (h1:PS X st t):wc X [st] t:=by
 intro pins s σ H D I h;refine wpAny_execs_cons (eK (h1 pins s σ H D I h) λf s1 q=>?_);cases f with
 |next=>exact ad2 q
 |ret v=>exact q
 |brk=>exact q
 |cont=>exact q
def aN.quiet (I:aN X pins σ H s):interactive X.env=false:=by simp[interactive,I.ok.kind]
def Rc (te:TE):TS:=λD σ H=>te σ H λ_ H1=>D.nx σ H1
def Dq (he:PE X e te)(hs:ad3 e none pos.line X.env=pure false:=by rfl):PS X (.Expr e pos) (Rc te):=by
 intro pins s σ H D I h;exact wpAny_Expr_any (eK (he pins s σ H _ I h) λv s1 ⟨x,H1,I1,r1,q1⟩=>⟨σ,H1,I1,q1⟩) I.quiet hs
def US (te:TE):TS:=λD σ H=>te σ H D.rt
def BJ (he:PE X e te):PS X (.Return (some e) pos) (US te):=by
 intro pins s σ H D I h;exact wpAny_Return_some (eK (he pins s σ H _ I h) λv s1 ⟨x,H1,I1,r1,q1⟩=>⟨x,σ,H1,I1,r1,q1⟩)
def UT (c:TT)(t u:TS):TS:=λD σ H=>c σ H λb H1=>if b=true then t D σ H1 else u D σ H1
theorem MO {a b:List aca}{tc:TT}(hc:PT X c tc)(ha:wc X a t)(hb:wc X b u):PS X (.If c a b pos) (UT tc t u):=by
 intro pins s σ H D I h;refine wpAny_If (eK (hc pins s σ H _ I h) λd s1 ⟨H1,I1,q1⟩=>?_);cases d with
 |true=>exact ha pins s1 σ H1 D I1 q1
 |false=>exact hb pins s1 σ H1 D I1 q1
end
abbrev TG:=V->St->Hp->(St->Hp->Prop)->Prop
abbrev KQ:=List V->St->Hp->(St->Hp->Prop)->Prop
def PG (X:Cx)(rE:abd)(t:TG):Prop:=
 ∀(pins:List (ZY×Obj)) (s:ZT) (σ:St) (H:Hp) (v:V) (u:ZF) (Q:St->Hp->Prop),aN X pins σ H s->bA v u->t v σ H Q->
  Z1 (Z8 X.prog X.w) X.A (assign rE X.env u) (λ_ s'=>∃σ' H',aN X pins σ' H' s'/\Q σ' H') X.xe s
def MP (X:Cx)(ts:List abd)(t:KQ):Prop:=
 ∀(pins:List (ZY×Obj)) (s:ZT) (σ:St) (H:Hp) (vs:List V) (us:List ZF) (Q:St->Hp->Prop),aN X pins σ H s->bw vs us->t vs σ H Q->
  Z1 (Z8 X.prog X.w) X.A (assignInOrder ((abY ts X.env).map (·.2)) us) (λ_ s'=>∃σ' H',aN X pins σ' H' s'/\Q σ' H') X.xe s
abbrev OT:=V->V->V->Hp->(Hp->Prop)->Prop
def Rf (X:Cx)(t:OT):Prop:=
 ∀(pins:List (ZY×Obj)) (s:ZT) (σ:St) (H:Hp) (o i v:V) (ov iv u:ZF) (Q:Hp->Prop),aN X pins σ H s->bA o ov->bA i iv->bA v u->t o i v H Q->
  Z1 (Z8 X.prog X.w) X.A (setItem ov iv u) (λ_ s'=>∃H',aN X pins σ H' s'/\Q H') X.xe s
abbrev Ub:=V->V->Hp->VK->Prop
def UU (X:Cx)(op:Operator)(t:Ub):Prop:=
 ∀(pins:List (ZY×Obj)) (s:ZT) (σ:St) (H:Hp) (x y:V) (v u:ZF) (Q:VK),aN X pins σ H s->bA x v->bA y u->t x y H Q->
  Z1 (Z8 X.prog X.w) X.A (inplaceOp op v u) (EP X pins σ Q) X.xe s
def zG (i:Nat):TG:=λv σ H Q=>Q (σ.set i (some v)) H
def KR (hN:X.N.Nodup)(hi:X.N[i]? = some x)(hx:GN X.env.scope x)(hf:X.fn x=true\/X.env.scope.names.lookup x=some .local:=by first|exact .inl rfl|exact .inr rfl|assumption):PG X (.Name x pos) (zG i):=by
 intro pins s σ H v u Q I r h;exact wpAny_assign_Name (mq I hN hi hx r (λs' I'=>⟨_,H,I',h⟩) hf)
def UW:KQ:=λvs σ H Q=>vs=[]/\Q σ H
def Rg (t:TG)(u:KQ):KQ:=λvs σ H Q=>∃v r,vs=v::r/\t v σ H λσ' H'=>u r σ' H' Q
theorem KS:MP X [] UW:=by
 intro pins s σ H vs us Q I r h;obtain⟨e,h⟩:=h;subst e;cases r;exact assignInOrder_nil ⟨σ,H,I,h⟩
theorem GQ {e:abd}{es:List abd}{t:TG}{u:KQ}(h1:PG X e t)(h2:MP X es u)
  (hs:(abY (e::es) X.env).map (·.2)=assign e X.env::(abY es X.env).map (·.2):=by rfl):MP X (e::es) (Rg t u):=by
 intro pins s σ H vs us Q I r h;obtain⟨v,vr,e1,h⟩:=h;subst e1;cases r with
 |cons r rr=>
  rw[hs];refine aeh (eK (h1 pins s σ H _ _ _ I r h) λ_ s1 ⟨σ1,H1,I1,q1⟩=>?_);exact h2 pins s1 σ1 H1 _ _ Q I1 rr q1
def UX (K:ZD)(n:Nat)(t:KQ):TG:=λv σ H Q=>∃a xs,v=.ref a/\jj K H a xs/\xs.length=n/\t xs σ H Q
theorem OU {es:List abd}{t:KQ}(hc:X.calm=true)(h:MP X es t)(hn:(abY es X.env).length=n:=by rfl)(VN:(abY es X.env).findIdx? (·.1)=none:=by rfl):PG X (.Tuple es k pos) (UX X.K n t):=by
 intro pins s σ H v u Q I r hw;obtain⟨a,xs,e1,hq,hl,hw⟩:=hw;subst e1;cases r;obtain⟨its,rv,ht,hz⟩:=I.tuple hq;refine assign_Tuple_tuple (I.ok.hd hc) ht (by simp[hn,←hl,rv.length]) VN λh' hx=>?_;have I1:aN X pins σ H {s with heap:=h'}:=I.kept (t':=s.toks) λb o e=>hx b o (Z6 (ZU e)) e;exact h pins _ σ H xs _ Q I1 (by simpa using rv) hw
def UY (to ti:TE)(t:OT):TG:=λv σ H Q=>to σ H λo H1=>ti σ H1 λi H2=>t o i v H2 λH3=>Q σ H3
def OV {o i:abd}{to ti:TE}{t:OT}(ho:PE X o to)(hi:PE X i ti)(hs:Rf X t)
  (ha:∀v,assign (.Subscript o i pos) X.env v=(do
   let ov ←holding [v] (acP o X.env)
   let iv ←holding [v,ov] (acP i X.env)
   standAt pos
   holding [v,ov,iv] (setItem ov iv v)
   release [v,ov,iv] []):=by intro _;rfl):PG X (.Subscript o i pos) (UY to ti t):=by
 intro pins s σ H v u Q I r h;rw[ha];refine Zv (aaW (eK (ho pins s σ H _ I h) λov s1 ⟨x,H1,I1,r1,q1⟩=>?_));refine Zv (aaW (eK (hi pins s1 σ H1 _ I1 q1) λiv s2 ⟨y,H2,I2,r2,q2⟩=>?_));refine Zv (wpAny_standAt (Zv (aaW (eK (hs pins s2 σ H2 x y v ov iv u _ I2 r1 r2 r q2) λ_ s3 ⟨H3,I3,q3⟩=>?_))));exact wpAny_release ⟨σ,H3,I3,q3⟩
def GR (te:TE)(g:TG):TS:=λD σ H=>te σ H λx H1=>g x σ H1 D.nx
def GU {e:abd}{g:TG}(he:PE X e te)(hg:PG X tg g)(hs:adS [tg] e pos.line X.env=pure false:=by rfl)(hw:adT [tg] e X.env=pure none:=by rfl)(h1:(abY [tg] X.env).map (·.2)=[assign tg X.env]:=by rfl):PS X (.Assign [tg] e pos) (GR te g):=by
 intro pins s σ H D I h;refine wpAny_Assign_stores (eK (he pins s σ H _ I h) λv s1 ⟨x,H1,I1,r1,q1⟩=>?_) hs hw;rw[h1];exact eK (hg pins s1 σ H1 x v _ I1 r1 q1) λ_ s2 q=>q
def GV {e:abd}{nv:Pos}(hN:X.N.Nodup)(hi:X.N[i]? = some x)(hx:GN X.env.scope x)(he:PE X e te)(hs:ad3 e (some (.Name x nv)) pos.line X.env=pure false:=by rfl)(hf:X.fn x=true\/X.env.scope.names.lookup x=some .local:=by first|exact .inl rfl|exact .inr rfl|assumption) :
  PS X (.Assign [.Name x nv] e pos) (GR te (zG i)):=by
 intro pins s σ H D I h;refine wpAny_Assign_Name (eK (he pins s σ H _ I h) λv s1 ⟨y,H1,I1,r1,q1⟩=>?_) hs;exact mq I1 hN hi hx r1 (λs2 I2=>⟨_,H1,I2,q1⟩) hf
def UZ (i j:Nat)(ta:TA):TS:=λD σ H=>ta σ H λvs H1=>∃v w,vs=[v,w]/\D.nx ((σ.set i (some v)).set j (some w)) H1
theorem OW {y:Str}{a b:abd}{ta:TA}{px py pt:Pos}{kt k2 pt2}(hc:X.calm=true)(hN:X.N.Nodup)(hi:X.N[i]? = some x)(hj:X.N[j]? = some y)(zp:i≠j)(hx:X.env.scope.names.lookup x=some .local)(hy:X.env.scope.names.lookup y=some .local)(ha:PA X [a,b] ta)(hw:adT [.Tuple [.Name x px,.Name y py] kt pt] (.Tuple [a,b] k2 pt2) X.env=pure (some [x,y]))(hs:adS [.Tuple [.Name x px,.Name y py] kt pt] (.Tuple [a,b] k2 pt2) pos.line X.env=pure false:=by rfl) :
  PS X (.Assign [.Tuple [.Name x px,.Name y py] kt pt] (.Tuple [a,b] k2 pt2) pos) (UZ i j ta):=by
 intro pins s σ H D I h;rw[exec_Assign_arm];refine Zv (wpAny_standAt ?_);rw[hs];refine Zv (Zy ?_);rw[hU (by decide)];refine Zv (Tuple_ (eK (ha _ pins s σ H _ I h) λus s1 ⟨vs,H1,I1,r1,q1⟩=>?_));obtain⟨v,w,e1,q1⟩:=q1;subst e1;obtain⟨u1,u2,rfl,rv,BB⟩:∃u1 u2,us=[u1,u2]/\bA v u1/\bA w u2:=by
  cases r1 with
  |cons p q=>
   cases q with
   |cons p' q'=>
    cases q';exact⟨_,_,rfl,p,p'⟩
 refine aat ?_ (by show 2<=ZH;decide);have I2:aN X pins σ H1 {s1 with heap:=s1.heap.push {cls:=.type "tuple",data:=.seq [u1,u2].toArray}}:=I1.kept (t':=s1.toks) λb o e=>Zx _ e;rw[hw];refine Zv (Zy ?_);show Z1 (Z8 X.prog X.w) X.A (do rule "assign.swapped-stores";let items ←unpackItems (.ref s1.heap.objs.size) 2 none;assignInOrder [λv=>bindName X.env y v,λv=>bindName X.env x v] items.reverse;pure Flow.next) _ _ _;refine Zv (acJ (Zv (unpackItems_tuple (items:=(List.toArray [u1,u2])) (I.ok.hd hc) (IsTup.new s1.heap _) λh' QB=>?_)));have I3:=I2.kept (h':=h') (t':=s1.toks) λb o e=>QB b o (Z6 (ZU e)) e;show Z1 _ _ (assignInOrder [λv=>bindName X.env y v,λv=>bindName X.env x v] [u2,u1] >>= λ_=>pure Flow.next) _ _ _;refine Zv (aeh (wpAny_bindName (mq I3 hN hj (.inl hy) BB (λs2 I4=>?_) (.inr hy))));refine aeh (wpAny_bindName (mq I4 hN hi (.inl hx) rv (λs3 I5=>assignInOrder_nil (Zy ?_)) (.inr hx)));rw[List.set_comm _ _ (Ne.symm zp)] at I5;exact⟨_,H1,I5,q1⟩
def U0 (i:Nat)(te:TE)(ti:Ub):TS:=λD σ H=>∃x,σ[i]? = some (some x)/\te σ H λy H1=>ti x y H1 λz H2=>D.nx (σ.set i (some z)) H2
theorem OX {e:abd}{op:Operator}{ti:Ub}{nv:Pos}(hN:X.N.Nodup)(hi:X.N[i]? = some x)(hx:GN X.env.scope x)(he:PE X e te)(ho:UU X op ti)(hf:X.fn x=true\/X.env.scope.names.lookup x=some .local:=by first|exact .inl rfl|exact .inr rfl|assumption) :
  PS X (.AugAssign (.Name x nv) op e pos) (U0 i te ti):=by
 intro pins s σ H D I h;obtain⟨v,e1,h⟩:=h;obtain⟨m,hn,hl⟩:=I.loc;have XR:Ku X.env.scope x:=by rcases hx with k|k;exact .inl k;exact .inr (.inl k)
 obtain⟨u,r,l⟩:=hl i x v hi e1 XR;refine wpAny_AugAssign_Name ?_;have go:Z1 (Z8 X.prog X.w) X.A (acP e X.env) (λw s₂=>Z1 (Z8 X.prog X.w) X.A (inplaceOp op u w) (λr s₃=>Z1 (Z8 X.prog X.w) X.A (storeName X.env x r) (λ_=>SP X pins D .next) X.xe s₃) X.xe s₂) X.xe s:=by
  refine eK (he pins s σ H _ I h) λw s1 ⟨y,H1,I1,r1,q1⟩=>?_;refine eK (ho pins s1 σ H1 v y u w _ I1 r r1 q1) λz s2 ⟨zv,H2,I2,r2,q2⟩=>?_;exact mq I2 hN hi hx r2 (λs3 I3=>⟨_,H2,I3,q2⟩) hf
 rcases l with⟨hk,hm⟩|⟨hk,c,hc,sL⟩
 ·exact wpAny_loadName_local I.ok.kind hk hn hm go
 ·rcases hk with hk|hk
  ·exact wpAny_loadName_cell I.ok.kind hk hc sL go
  ·rcases hx with k|k
   ·have:X.env.scope.names.lookup x=some .free:=hk;lia
   ·have:X.env.scope.names.lookup x=some .free:=hk;lia
def Wx (f:Int->Int->Int):Ub:=λx y H Q=>∃i j,x=.int i/\y=.int j/\Q (.int (f i j)) H
theorem OY:UU X .Add (Wx λi j=>i+j):=by
 intro pins s σ H x y v u Q I r1 r2 h;obtain⟨i,j,e1,e2,q⟩:=h;subst e1;subst e2;obtain⟨t,rfl⟩:=r1;obtain⟨t',rfl⟩:=r2;exact iadd_int ⟨.int _,H,I.tok _,⟨_,rfl⟩,q⟩
def OZ (c:TT)(tb:TS):TS:=λD σ H=>∃W:Nat->St->Hp->Prop,(∃m,W m σ H)/\∀m σ H,W m σ H->
 c σ H λb H1=>if b=true then ∃N:St->Hp->Prop,(∀σ' H',N σ' H'->∃m',m'<m/\W m' σ' H')/\tb {D with nx:=N,ct:=N,bk:=D.nx} σ H1 else D.nx σ H1
theorem GW {tc:TT}{tb:TS}(hp:aeP (Z8 X.prog X.w) X.A X.env X.xe)(hc:PT X c tc)(hb:wc X body tb):PS X (.While c body [] pos) (OZ tc tb):=by
 intro pins s σ H D I h;obtain⟨W,⟨m0,w0⟩,turn⟩:=h;refine wpAny_While (codeAny_whileLoop (λn s'=>∃σ' H',aN X pins σ' H' s'/\W n σ' H') ?_ m0 ⟨σ,H,I,w0⟩);rintro n s1 ⟨σ1,H1,I1,w1⟩;refine abZ hp (eK (hc pins s1 σ1 H1 _ I1 (turn n σ1 H1 w1)) λb s2 ⟨H2,I2,q2⟩=>?_);cases b with
 |true=>
  obtain⟨N,hN,q2⟩:=q2;rw[hV rfl];refine abZ hp (eK (hb pins s2 σ1 H2 _ I2 q2) λf s3 q3=>?_);cases f with
  |next=>
   obtain⟨σ3,H3,I3,n3⟩:=q3;obtain⟨m',hm,w3⟩:=hN σ3 H3 n3;exact⟨m',hm,σ3,H3,I3,w3⟩
  |cont=>
   obtain⟨σ3,H3,I3,n3⟩:=q3;obtain⟨m',hm,w3⟩:=hN σ3 H3 n3;exact⟨m',hm,σ3,H3,I3,w3⟩
  |brk=>exact q3
  |ret v=>exact q3
 |false=>
  rw[hU ZE];exact ad2 ⟨σ1,H2,I2,q2⟩
structure It where
 go:Nat->Hp->Prop
 yld:Nat->Hp->V->Hp->Prop
 stop:Nat->Hp->Prop
def sM (X:Cx)(pins:List (ZY×Obj))(H:Hp)(b:ZY):Prop:=
 H b=none/\b≠X.env.locals/\b∉X.fs/\(b∈X.ex\/X.s₀.heap.objs.size<=b)/\(∀x c,X.env.cells.lookup x=some c->c≠b)/\∀p∈X.pn++pins,p.1≠b
theorem aN.fpOk (I:aN X pins σ H s)(hb:s.heap.objs.size<=b)(hn:H' b=none):sM X pins H' b:=by
 refine⟨hn,acz (aah I.lt hb),I.nofs hb,.inr (aaz I.sz hb),λx c e z=>?_,λp hp z=>?_⟩
 ·obtain⟨v,q⟩:=I.cell x c e;exact absurd (aah q.lt (by rw[z];exact hb)) (abe _)
 ·exact absurd (aah (ZU (I.pin p hp).1) (by rw[z];exact hb)) (abe _)
structure Fb (P:abM)(w:acd)(K:ZD)(tg:abd)(J:It)(fp:List ZY)(it:ZY)(tn:Nat->abT->Prop):Prop where
 mem:it∈fp
 obj:∀i h,tn i h->∀b∈fp,∃o,h.get? b=some o/\∀v,o.data≠.cell v
 keep:∀i h h',tn i h->(∀b∈fp,∀o,h.get? b=some o->h'.get? b=some o)->tn i h'
 item:∀(X:Cx),X.prog=P->X.w=w->X.K=K->X.calm=true->∀(i:Nat) (pins:List (ZY×Obj)) (s:ZT) (σ:St) (H:Hp) (E:ZF->ZT->Prop),aN X pins σ H s->(∀b∈fp,sM X pins H b)->tn i s.heap->J.go i H->
  Z1 (Z8 P w) X.A (adO (.ref it)) (λr s1=>∃u,r=some u/\
   Z1 (Z8 P w) X.A (ad4 tg (.ref it) u) (λ_ s2=>∃x H',aN X pins σ H' s2/\bA x u/\J.yld i H x H'/\tn (i+1) s2.heap/\∀b∈fp,H' b=none) E s1) E s
 done:∀(X:Cx),X.prog=P->X.w=w->X.K=K->X.calm=true->∀(i:Nat) (pins:List (ZY×Obj)) (s:ZT) (σ:St) (H:Hp) (E:ZF->ZT->Prop),aN X pins σ H s->(∀b∈fp,sM X pins H b)->tn i s.heap->J.stop i H->
  Z1 (Z8 P w) X.A (adO (.ref it)) (λr s1=>r=none/\aN X pins σ H s1) E s
 self:∀(A:aar) (i:Nat) (s:ZT) (Q:ZF->ZT->Prop) (E:ZF->ZT->Prop),tn i s.heap->Q (.ref it) s->Z1 (Z8 P w) A (pyIter (.ref it)) Q E s
abbrev TI:=St->Hp->(It->Hp->Prop)->Prop
def Wy (X:Cx)(pins:List (ZY×Obj))(σ:St)(tg:abd)(R:It->Hp->Prop)(UB:ZF)(s2:ZT):Prop:=
 ∃(it:ZY) (fp:List ZY) (tn:Nat->abT->Prop) (J:It) (H':Hp),UB=.ref it/\aN X pins σ H' s2/\Fb X.prog X.w X.K tg J fp it tn/\tn 0 s2.heap/\(∀b∈fp,sM X pins H' b)/\R J H'
def PI (X:Cx)(tg iter:abd)(wi:TI):Prop:=
 ∀(pins:List (ZY×Obj)) (s:ZT) (σ:St) (H:Hp) (R:It->Hp->Prop),aN X pins σ H s->wi σ H R->
  Z1 (Z8 X.prog X.w) X.A (acP iter X.env) (λv s1=>Z1 (Z8 X.prog X.w) X.A (pyIter v) (Wy X pins σ tg R) X.xe s1) X.xe s
theorem GX {A:aar}{u:ZF}{o:Obj}{n:String}{vs:Array ZF}{Q:Unit->ZT->Prop}(ho:s.heap.get? it=some o)(hc:o.cls=.type n)(hd:o.data=.fields vs)(hn:["enumerate","zip","dict_itemiterator","dict_reverseitemiterator","odict_iterator","itertools.zip_longest","itertools.pairwise"].contains n=false)(hQ:Q () s):Z1 M A (ad4 tg (.ref it) u) Q E s:=by
  unfold ad4;cases tg<;>first
    |exact Zy hQ
    | (cases u<;>first
        |exact Zy hQ
        | (refine Zv (wpAny_load ho ?_)
           rw[hc,hd];show Z1 M A (if (["enumerate","zip","dict_itemiterator","dict_reverseitemiterator","odict_iterator","itertools.zip_longest","itertools.pairwise"].contains n&&vs[0]? == some (aei _))=true then _ else _) Q E s;rw[hU (by intro h;rw[hn,Bool.false_and] at h;cases h)];exact Zy hQ))
noncomputable def Uc (K:ZD)(a:ZY):It:=
 ⟨λi H=>∃xs x,gD K H a xs/\xs[i]? = some x,λi H x H'=>H'=H/\∀xs,gD K H a xs->xs[i]? = some x,λi H=>∃xs,gD K H a xs/\xs.length<=i⟩
noncomputable def U1 (K:ZD)(a:ZY):It:=
 ⟨λi H=>∃xs x,jj K H a xs/\xs[i]? = some x,λi H x H'=>H'=H/\∀xs,jj K H a xs->xs[i]? = some x,λi H=>∃xs,jj K H a xs/\xs.length<=i⟩
noncomputable def Ud (lo:Int)(n:Nat):It:=⟨λi _=>i<n,λi H x H'=>H'=H/\x=.int (lo+i),λi _=>n<=i⟩
theorem Fc (a it:ZY):Fb P w K tg (Uc K a) [it] it (λi h=>h.IsListIter it a i) where
 mem:=by simp
 obj:=λi h st b hb=>by
  have e:b=it:=by simpa using hb
  subst e;obtain⟨o,e,c,d⟩:=st;exact⟨o,e,λv z=>by rw[d] at z;cases z⟩
 keep:=λi h h' st k=>st.at λo e=>k it (by simp) o e
 item:=by
  intro X hP hw hK hc i pins s σ H E I hf st hg;subst hP hw hK;obtain⟨xs,x,hq,hx⟩:=hg;obtain⟨its,rv,p,hz⟩:=I.list hq;obtain⟨u,hu,ru⟩:=rv.get hx;obtain⟨f0,f1,f2,f3,f4,f5⟩:=hf it (by simp);refine wpAny_pyNext_list_item st p.isList (x:=u) (by simpa using hu) λh' b_ sb=>?_;have I1:aN X pins σ H {s with heap:=h'}:=I.turned (t':=s.toks) (λb o hb e=>(sb.2 b hb).trans e) f0 f1 f3 f4 f5;obtain⟨o,e,c,d⟩:=id b_;exact⟨u,rfl,GX (s:={s with heap:=h'}) e c d (by decide) ⟨x,H,I1,ru,⟨rfl,λys hy=>by rw[I.list_inj hy hq];exact hx⟩,b_,λb hb=>(hf b hb).1⟩⟩
 done:=by
  intro X hP hw hK hc i pins s σ H E I hf st hg;subst hP hw hK;obtain⟨xs,hq,hx⟩:=hg;obtain⟨its,rv,p,hz⟩:=I.list hq;obtain⟨f0,f1,f2,f3,f4,f5⟩:=hf it (by simp);have hl:=rv.length;exact wpAny_pyNext_list_end (I.ok.hd hc) st p.isList (by simp;lia) λh' eb=>⟨rfl,I.turned (t':=s.toks) (λb o hb e=>eb b o hb e) f0 f1 f3 f4 f5⟩
 self:=λ_ _ _ _ _ st h=>wpAny_pyIter_listiter st h
theorem BK (a it:ZY):Fb P w K tg (U1 K a) [it] it (λi h=>h.IsTupleIter it a i) where
 mem:=by simp
 obj:=λi h st b hb=>by
  have e:b=it:=by simpa using hb
  subst e;obtain⟨o,e,c,d⟩:=st;exact⟨o,e,λv z=>by rw[d] at z;cases z⟩
 keep:=λi h h' st k=>st.at λo e=>k it (by simp) o e
 item:=by
  intro X hP hw hK hc i pins s σ H E I hf st hg;subst hP hw hK;obtain⟨xs,x,hq,hx⟩:=hg;obtain⟨its,rv,p,hz⟩:=I.tuple hq;obtain⟨u,hu,ru⟩:=rv.get hx;obtain⟨f0,f1,f2,f3,f4,f5⟩:=hf it (by simp);refine wpAny_pyNext_tuple_item st (show s.heap.IsTuple a its.toArray from p) (x:=u) (by simpa using hu) λh' b_ sb=>?_;have I1:aN X pins σ H {s with heap:=h'}:=I.turned (t':=s.toks) (λb o hb e=>(sb.2 b hb).trans e) f0 f1 f3 f4 f5;obtain⟨o,e,c,d⟩:=id b_;exact⟨u,rfl,GX (s:={s with heap:=h'}) e c d (by decide) ⟨x,H,I1,ru,⟨rfl,λys hy=>by rw[I.tuple_inj hy hq];exact hx⟩,b_,λb hb=>(hf b hb).1⟩⟩
 done:=by
  intro X hP hw hK hc i pins s σ H E I hf st hg;subst hP hw hK;obtain⟨xs,hq,hx⟩:=hg;obtain⟨its,rv,p,hz⟩:=I.tuple hq;obtain⟨f0,f1,f2,f3,f4,f5⟩:=hf it (by simp);have hl:=rv.length;exact wpAny_pyNext_tuple_end (I.ok.hd hc) st (show s.heap.IsTuple a its.toArray from p) (by simp;lia) λh' eb=>⟨rfl,I.turned (t':=s.toks) (λb o hb e=>eb b o hb e) f0 f1 f3 f4 f5⟩
 self:=λ_ _ _ _ _ st h=>wpAny_pyIter_tupleiter st h
theorem BL (it:ZY)(lo:Int)(n:Nat):Fb P w K tg (Ud lo n) [it] it (λi h=>IsRangeIter h it (lo+(i:Nat)*1) ((n:Int)-(i:Nat)) 1) where
 mem:=by simp
 obj:=λi h st b hb=>by
  grind
 keep:=λi h h' st k=>k it (by simp) _ st
 item:=by
  intro X hP hw hK hc i pins s σ H E I hf st hg;subst hP hw hK;obtain⟨f0,f1,f2,f3,f4,f5⟩:=hf it (by simp);have W:=Walks.range (prog:=X.prog) (w:=X.w) (I.ok.hd hc) it lo 1 n;refine W.item i s _ _ hg st λv h' tk hv b_ kk=>?_;obtain⟨t,rfl⟩:=hv;have I1:aN X pins σ H {s with heap:=h',toks:=tk}:=I.turned (λb o hb e=>kk b o (by grind) e) f0 f1 f3 f4 f5;refine⟨_,rfl,GX (s:={s with heap:=h',toks:=tk}) (n:="range_iterator") b_ rfl rfl (by decide) ⟨.int (lo+i),H,I1,⟨t,?_⟩,⟨rfl,rfl⟩,b_,λb hb=>(hf b hb).1⟩⟩;lia
 done:=by
  intro X hP hw hK hc i pins s σ H E I hf st hg;subst hP hw hK;obtain⟨f0,f1,f2,f3,f4,f5⟩:=hf it (by simp);exact wpAny_pyNext_range_end (I.ok.hd hc) st (by have:n<=i:=hg;lia) λh' eb=>⟨rfl,I.turned (t':=s.toks) (λb o hb e=>eb b o hb e) f0 f1 f3 f4 f5⟩
 self:=λ_ _ _ _ _ st h=>wpAny_pyIter_rangeiter st h
end L2
variable {wi:L2.TI}
namespace L2
def Rh (K:ZD)(tl:TE):TI:=λσ H R=>tl σ H λx H1=>∃a,x=.ref a/\(∃xs,gD K H1 a xs)/\R (Uc K a) H1
def U2 (K:ZD)(tl:TE):TI:=λσ H R=>tl σ H λx H1=>∃a,x=.ref a/\(∃xs,jj K H1 a xs)/\R (U1 K a) H1
theorem KU {l:abd}{tl:TE}(hl:PE X l tl):PI X tg l (Rh X.K tl):=by
 intro pins s σ H R I h;refine eK (hl pins s σ H _ I h) λv s1 ⟨x,H1,I1,r1,q1⟩=>?_;obtain⟨a,e,⟨xs,hq⟩,q⟩:=q1;subst e;cases r1;obtain⟨its,rv,p,hz⟩:=I1.list hq;refine adm p.isList ?_;refine⟨s1.heap.objs.size,[s1.heap.objs.size],_,_,H1,rfl,I1.kept (t':=s1.toks) λb o e=>Zx _ e,Fc a _,⟨_,ZQ _ rfl,rfl,rfl⟩,λb hb=>?_,q⟩;have e:b=s1.heap.objs.size:=by simpa using hb
 subst e;exact I1.fpOk (ZP _) (I1.hok.fresh (ZP _))
theorem O0 {l:abd}{tl:TE}(hl:PE X l tl):PI X tg l (U2 X.K tl):=by
 intro pins s σ H R I h;refine eK (hl pins s σ H _ I h) λv s1 ⟨x,H1,I1,r1,q1⟩=>?_;obtain⟨a,e,⟨xs,hq⟩,q⟩:=q1;subst e;cases r1;obtain⟨its,rv,p,hz⟩:=I1.tuple hq;refine aej (show s1.heap.IsTuple a its.toArray from p) ?_;refine⟨s1.heap.objs.size,[s1.heap.objs.size],_,_,H1,rfl,I1.kept (t':=s1.toks) λb o e=>Zx _ e,BK a _,⟨_,ZQ _ rfl,rfl,rfl⟩,λb hb=>?_,q⟩;have e:b=s1.heap.objs.size:=by simpa using hb
 subst e;exact I1.fpOk (ZP _) (I1.hok.fresh (ZP _))
theorem GY {R:It->Hp->Prop}{lo hi:Int}{t u v:Tok}{tk:Nat}(I:aN X pins σ H s)(h1 : -(2 ^ 62)<=lo)(h2:lo<2 ^ 62)(h3 : -(2 ^ 62)<=hi)(h4:hi<2 ^ 62)(q:R (Ud lo (hi-lo).toNat) H):Z1 (Z8 X.prog X.w) X.A (pyIter (.ref s.heap.objs.size)) (Wy X pins σ tg R) E {s with heap:=s.heap.push {cls:=.type "range",data:=.fields (List.toArray [.int lo t,.int hi u,.int 1 v])},toks:=tk}:=by
 refine wpAny_pyIter_range (IsRange.new ..) (small_one h1 h2 h3 h4) ?_;have I1:aN X pins σ H {s with heap:=s.heap.push {cls:=.type "range",data:=.fields (List.toArray [.int lo t,.int hi u,.int 1 v])},toks:=tk}:=I.kept λb o e=>Zx _ e;refine⟨(s.heap.push {cls:=.type "range",data:=.fields (List.toArray [.int lo t,.int hi u,.int 1 v])}).objs.size,[(s.heap.push {cls:=.type "range",data:=.fields (List.toArray [.int lo t,.int hi u,.int 1 v])}).objs.size],_,_,H,rfl,
  I1.kept (t':=tk) λb o e=>Zx _ e,BL _ lo (hi-lo).toNat,?_,λb hb=>?_,q⟩
 ·have e1:lo+((0:Nat):Int)*1=lo:=by simp
  have e2:(((hi-lo).toNat:Nat):Int)-((0:Nat):Int)=Builtin.Range.rangeSize lo hi 1:=by rw[rangeSize_one];split<;>lia
  show IsRangeIter _ _ (lo+((0:Nat):Int)*1) ((((hi-lo).toNat:Nat):Int)-((0:Nat):Int)) 1;rw[e1,e2];exact ZQ _ rfl
 ·have e:b=(s.heap.push {cls:=.type "range",data:=.fields (List.toArray [.int lo t,.int hi u,.int 1 v])}).objs.size:=by simpa using hb
  subst e;exact I1.fpOk (ZP _) (I1.hok.fresh (ZP _))
def Ri (ta:TA):TI:=λσ H R=>ta σ H λvs H1=>∃j:Int,vs=[.int j]/\ -(2 ^ 62)<=j/\j<2 ^ 62/\R (Ud 0 j.toNat) H1
theorem Fd {a:abd}{ta:TA}{p:Pos}(hg:Gl X "range")(hm:X.mg "range"=none)(ha:PA X [a] ta)(hs:ZX [a] X.env=[(false,acP a X.env)]:=by rfl):PI X tg (.Call (.Name "range" p) [a] [] pos) (Ri ta):=by
 intro pins s σ H R I h;refine Call_ (tX I hg hm boot_range (acA (eK (ha pos pins s σ H _ I h) λus s1 ⟨vs,H1,I1,r1,q1⟩=>?_) hs rfl));obtain⟨j,e,q1,q2,q⟩:=q1;subst e;cases r1 with
 |cons r rr=>
  cases rr;obtain⟨t,rfl⟩:=r;exact call_range_1 (GY I1 (by lia) (by lia) q1 q2 (by simpa using q))
def U3 (wi:TI)(g:TG)(tb:TS):TS:=λD σ H=>wi σ H λJ H1=>∃W:Nat->Nat->St->Hp->Prop,(∃m,W 0 m σ H1)/\∀i m σ H,W i m σ H->
 (J.stop i H/\D.nx σ H)\/(J.go i H/\∃N:St->Hp->Prop,(∀σ' H',N σ' H'->∃m',m'<m/\W (i+1) m' σ' H')/\∀x H',J.yld i H x H'->g x σ H' λσ2 H2=>tb {D with nx:=N,ct:=N,bk:=D.nx} σ2 H2)
noncomputable def tY (fp:List ZY)(h:abT):List (ZY×Obj):=fp.filterMap λb=>(h.get? b).map λo=>(b,o)
def ly {o:Obj}(hb:b∈fp)(e:h.get? b=some o):(b,o)∈tY fp h:=aek.mpr ⟨b,hb,by rw[e];rfl⟩
theorem Fe {p:ZY×Obj}(hp:p∈tY fp h):p.1∈fp/\h.get? p.1=some p.2:=by
 obtain⟨b,hb,e⟩:=aek.mp hp;cases q:h.get? b with
 |none=>rw[q] at e;cases e
 |some o=>
  rw[q] at e;have e':(b,o)=p:=Z0 e;subst e';exact⟨hb,q⟩
theorem aN.pinned (I:aN X pins σ H s)(hf:∀b∈fp,sM X pins H b)(ho:∀b∈fp,∃o,s.heap.get? b=some o/\∀v,o.data≠.cell v):aN X (pins++tY fp s.heap) σ H s:=
 I.pins_of λp hp=>(aab.mp hp).elim (λz=>I.pin p (ZO _ z)) λz=>by
  obtain⟨hb,e⟩:=Fe z;obtain⟨f0,f1,f2,_⟩:=hf p.1 hb;obtain⟨o,e',d⟩:=ho p.1 hb;rw[e] at e';cases e';exact⟨e,f0,f1,f2,d⟩
def aN.unpinned {pl:List (ZY×Obj)}(I:aN X (pins++pl) σ H s):aN X pins σ H s:=I.pins_of λp hp=>I.pin p (ZO _ (ZZ _ hp))
theorem O1 {g:TG}{tb:TS}(hp:aeP (Z8 X.prog X.w) X.A X.env X.xe)(hc:X.calm=true)(hi:PI X tg iter wi)(hg:PG X tg g)(hb:wc X body tb)(hs:∀x,aa8 iter X.env x=pure x:=by intro _;rfl):PS X (.For tg iter body [] pos) (U3 wi g tb):=by
 intro pins s σ H D I h;refine wpAny_For (eK (hi pins s σ H _ I h) λv s1 h1=>eK h1 λUB s2 h2=>?_) hs;obtain⟨it,fp,tn,J,H2,e,I2,T,oH,f2,W,⟨m0,w0⟩,turn⟩:=h2;subst e;have QC:∀{H':Hp},(∀b∈fp,H' b=none)->∀b∈fp,sM X pins H' b:=λhn b hb=>⟨hn b hb,(f2 b hb).2⟩;refine codeAny_forLoop_any (λn s'=>∃i σ' H',aN X pins σ' H' s'/\tn i s'.heap/\(∀b∈fp,H' b=none)/\W i n σ' H') ?_ m0 ⟨0,σ,H2,I2,oH,λb hb=>(f2 b hb).1,w0⟩;rintro n s3 ⟨i,σ3,H3,I3,QU,fr3,w3⟩;rcases turn i n σ3 H3 w3 with⟨stop,qn⟩|⟨go,N,hN,step⟩
 ·refine abZ hp (eK (T.done X rfl rfl rfl hc i pins s3 σ3 H3 X.xe I3 (QC fr3) QU stop) λr s4 ⟨hr,I4⟩=>?_);subst hr;exact ad2 ⟨σ3,H3,I4,qn⟩
 ·refine abZ hp (eK (T.item X rfl rfl rfl hc i pins s3 σ3 H3 X.xe I3 (QC fr3) QU go) λr s4 ⟨u,hr,h4⟩=>?_);subst hr;refine abZ hp (eK h4 λ_ s5 ⟨x,H5,I5,r5,y5,st5,fr5⟩=>?_);have VO:=I5.pinned (QC fr5) (T.obj _ _ st5);refine abZ hp (eK (hg _ s5 σ3 H5 x u _ VO r5 (step x H5 y5)) λ_ s6 ⟨σ6,H6,I6,q6⟩=>?_);refine abZ hp (eK (hb _ s6 σ6 H6 _ I6 q6) λf s7 q7=>?_);have again:∀{σ7:St} {H7:Hp},aN X (pins++tY fp s5.heap) σ7 H7 s7->N σ7 H7->∃m,m<n/\∃i σ' H',aN X pins σ' H' s7/\tn i s7.heap/\(∀b∈fp,H' b=none)/\W i m σ' H':=λ{σ7 H7} I7 n7=>by
   obtain⟨m',hm,w7⟩:=hN σ7 H7 n7;refine⟨m',hm,i+1,σ7,H7,I7.unpinned,T.keep _ _ _ st5 λb hb o e=>(I7.pin (b,o) (ZO _ (ZO _ (ly hb e)))).1,λb hb=>?_,w7⟩;obtain⟨o,e,d⟩:=T.obj _ _ st5 b hb;exact (I7.pin (b,o) (ZO _ (ZO _ (ly hb e)))).2.1
  cases f with
  |next=>obtain⟨σ7,H7,I7,n7⟩:=q7;exact again I7 n7
  |cont=>obtain⟨σ7,H7,I7,n7⟩:=q7;exact again I7 n7
  |brk=>obtain⟨σ7,H7,I7,q7⟩:=q7;exact⟨σ7,H7,I7.unpinned,q7⟩
  |ret v=>obtain⟨x7,σ7,H7,I7,r7,q7⟩:=q7;exact⟨x7,σ7,H7,I7.unpinned,r7,q7⟩
end L2
namespace L2
abbrev R2:=V->V->Hp->VK->Prop
def l6 (X:Cx)(f:ZF->ZF->Sem ZF)(r:R2):Prop:=
 ∀(pins:List (ZY×Obj)) (s:ZT) (σ:St) (H:Hp) (x y:V) (v u:ZF) (Q:VK),aN X pins σ H s->bA x v->bA y u->r x y H Q->
  Z1 (Z8 X.prog X.w) X.A (f v u) (EP X pins σ Q) X.xe s
def Ue (X:Cx)(f:ZF->Sem ZF)(r:V->Hp->VK->Prop):Prop:=
 ∀(pins:List (ZY×Obj)) (s:ZT) (σ:St) (H:Hp) (x:V) (v:ZF) (Q:VK),aN X pins σ H s->bA x v->r x H Q->
  Z1 (Z8 X.prog X.w) X.A (f v) (EP X pins σ Q) X.xe s
def ez (X:Cx)(f:ZF)(r:List V->Hp->VK->Prop):Prop:=
 ∀(pins:List (ZY×Obj)) (s:ZT) (σ:St) (H:Hp) (xs:List V) (us:List ZF) (Q:VK),aN X pins σ H s->bw xs us->r xs H Q->
  Z1 (Z8 X.prog X.w) X.A (call f us) (EP X pins σ Q) X.xe s
def Rj (r:R2)(ta tb:TE):TE:=λσ H Q=>ta σ H λx H1=>tb σ H1 λy H2=>r x y H2 Q
def Wz (r:V->Hp->VK->Prop)(ta:TE):TE:=λσ H Q=>ta σ H λx H1=>r x H1 Q
def rI (C:Int->Int->Prop)(g:Int->Int->V):R2:=λx y H Q=>∃i j,x=.int i/\y=.int j/\C i j/\Q (g i j) H
def BM (g:Int->Int->V):R2:=λx y H Q=>∃i j,x=.int i/\y=.int j/\Q (g i j) H
def rU (g:Int->V):V->Hp->VK->Prop:=λx H Q=>∃i,x=.int i/\Q (g i) H
section
variable {a b:abd}{ta tb tc:TE}
def O2 (ha:PE X a ta)(hb:PE X b tb){R:V->V->Hp->Prop}(I:aN X pins σ H s)(h:ta σ H λx H1=>tb σ H1 λy H2=>R x y H2){f:ZF->ZF->Sem ZF}(hf:∀v u s2 x y H2,aN X pins σ H2 s2->bA x v->bA y u->R x y H2->Z1 (Z8 X.prog X.w) X.A (f v u) Q X.xe s2) :
  Z1 (Z8 X.prog X.w) X.A (acP a X.env) (λv s₁=>Z1 (Z8 X.prog X.w) X.A (acP b X.env) (λu s₂=>Z1 (Z8 X.prog X.w) X.A (f v u) Q X.xe s₂) X.xe s₁) X.xe s:=by
 refine eK (ha pins s σ H _ I h) λv s1 ⟨x,H1,I1,r1,q1⟩=>?_;refine eK (hb pins s1 σ H1 _ I1 q1) λu s2 ⟨y,H2,I2,r2,q2⟩=>?_;exact hf v u s2 x y H2 I2 r1 r2 q2
def Rk {op:Operator}{r:R2}(ho:l6 X (acX op) r)(ha:PE X a ta)(hb:PE X b tb):PE X (.BinOp a op b pos) (Rj r ta tb):=by
 intro pins s σ H Q I h;exact wpAny_BinOp (O2 ha hb I h λv u s2 x y H2 I2 rx ry q=>ho pins s2 σ H2 x y v u Q I2 rx ry q)
def Rl {op:UnaryOp}{r:V->Hp->VK->Prop}(ho:Ue X (unaryOp op) r)(ha:PE X a ta):PE X (.UnaryOp op a pos) (Wz r ta):=by
 intro pins s σ H Q I h;exact UnaryOp_ (eK (ha pins s σ H _ I h) λv s1 ⟨x,H1,I1,r1,q1⟩=>ho pins s1 σ H1 x v Q I1 r1 q1)
theorem Ug {f:ZF->ZF->Sem ZF}{C:Int->Int->Prop}{g:Int->Int->Int}
  (rule:∀(i j:Int) (t u:Tok) (s:ZT) (Q:ZF->ZT->Prop) (E:ZF->ZT->Prop),C i j->Q (.int (g i j) s.toks) {s with toks:=s.toks+1}->Z1 (Z8 X.prog X.w) X.A (f (.int i t) (.int j u)) Q E s) :
  l6 X f (rI C λi j=>.int (g i j)):=by
 intro pins s σ H x y v u Q I rx ry h;obtain⟨i,j,rfl,rfl,hc,q⟩:=h;obtain⟨t,rfl⟩:=rx;obtain⟨t',rfl⟩:=ry;exact rule i j t t' s _ _ hc ⟨.int (g i j),H,I.tok _,⟨_,rfl⟩,q⟩
theorem Rm {f:ZF->ZF->Sem ZF}{g:Int->Int->Int}
  (rule:∀(i j:Int) (t u:Tok) (s:ZT) (Q:ZF->ZT->Prop) (E:ZF->ZT->Prop),Q (.int (g i j) s.toks) {s with toks:=s.toks+1}->Z1 (Z8 X.prog X.w) X.A (f (.int i t) (.int j u)) Q E s) :
  l6 X f (BM λi j=>.int (g i j)):=by
 intro pins s σ H x y v u Q I rx ry h;obtain⟨i,j,rfl,rfl,q⟩:=h;obtain⟨t,rfl⟩:=rx;obtain⟨t',rfl⟩:=ry;exact rule i j t t' s _ _ ⟨.int (g i j),H,I.tok _,⟨_,rfl⟩,q⟩
theorem KW {f:ZF->ZF->Sem ZF}{g:Int->Int->Bool}
  (rule:∀(i j:Int) (t u:Tok) (s:ZT) (Q:ZF->ZT->Prop) (E:ZF->ZT->Prop),Q (.bool (g i j)) s->Z1 (Z8 X.prog X.w) X.A (f (.int i t) (.int j u)) Q E s) :
  l6 X f (BM λi j=>.bl (g i j)):=by
 intro pins s σ H x y v u Q I rx ry h;obtain⟨i,j,rfl,rfl,q⟩:=h;obtain⟨t,rfl⟩:=rx;obtain⟨t',rfl⟩:=ry;exact rule i j t t' s _ _ ⟨.bl (g i j),H,I,rfl,q⟩
def Rn (i j:Int):Prop:=0<=j/\j<=1000000/\i.natAbs<2 ^ 64
def KY (i j:Int):Prop:=(-(2 ^ 64)<i/\i<2 ^ 64)\/(-(2 ^ 64)<j/\j<2 ^ 64)
theorem KY.ok {i j:Int}(h:KY i j):IntMulOk i j:=by
 rcases h with⟨h1,h2⟩|⟨h1,h2⟩
 ·exact .of_left (intBits_le_64 h1 h2)
 ·exact .of_right (intBits_le_64 h1 h2)
def O3:l6 X (acX .Add) (BM λi j=>.int (i+j)):=Rm λ_ _ _ _ _ _ _ q=>add_int q
def oK:l6 X (acX .Sub) (BM λi j=>.int (i-j)):=Rm λ_ _ _ _ _ _ _ q=>sub_int q
def eQ:l6 X (acX .Mult) (rI KY λi j=>.int (i*j)):=Ug λ_ _ _ _ _ _ _ hc q=>mul_int q hc.ok
theorem oM:l6 X (acX .Mod) (rI (λ_ j=>0<j) λi j=>.int (i % j)):=Ug λi j _ _ _ _ _ hc q=>by
 have h1:(0:Int)<j:=hc;exact mod_int' (by lia) (by rw[Int.fmod_eq_emod_of_nonneg i (by lia)];exact q)
def GZ:l6 X (acX .Pow) (rI Rn λi j=>.int (i ^ j.toNat)):=Ug λ_ _ _ _ _ _ _ hc q=>pow_int_small hc.1 hc.2.1 hc.2.2 q
theorem Xt {f:ZF->Sem ZF}{g:Int->Int}
  (rule:∀(i:Int) (t:Tok) (s:ZT) (Q:ZF->ZT->Prop) (E:ZF->ZT->Prop),Q (.int (g i) s.toks) {s with toks:=s.toks+1}->Z1 (Z8 X.prog X.w) X.A (f (.int i t)) Q E s) :
  Ue X f (rU λi=>.int (g i)):=by
 intro pins s σ H x v Q I rx h;obtain⟨i,rfl,q⟩:=h;obtain⟨t,rfl⟩:=rx;exact rule i t s _ _ ⟨.int (g i),H,I.tok _,⟨_,rfl⟩,q⟩
def BN:Ue X (unaryOp .USub) (rU λi=>.int (-i)):=Xt λ_ _ _ _ _ q=>neg_int q
end
noncomputable def Ro:V->V->Bool
 | .non,.non=>true|.non,.int _=>true|.int _,.non=>true|.non,.bl _=>true|.bl _,.non=>true|.non,.str _=>true|.str _,.non=>true
 | .int _,.int _=>true|.bl _,.bl _=>true|.str _,.str _=>true|.byt _,.byt _=>true
 | .int _,.str _=>true|.str _,.int _=>true|.bl _,.str _=>true|.str _,.bl _=>true
 |_,_=>false
def WA:R2:=λx y H Q=>Ro x y=true/\Q (.bl (decide (x=y))) H
def WB:R2:=λx y H Q=>Ro x y=true/\Q (.bl (!decide (x=y))) H
def tJ {i j:Int}:decide (V.int i=V.int j)=(i==j):=by
 rw[aaR];simp
def xZ {i j:Bool}:decide (V.bl i=V.bl j)=(i==j):=by
 rw[aaR];simp
def tK {i j:Str}:decide (V.str i=V.str j)=(i==j):=by
 rw[aaR];simp
def Dr {i j:Array UInt8}:decide (V.byt i=V.byt j)=(i.toList==j.toList):=by
 rw[aaR];simp
section
variable {a b:abd}{ta tb tc:TE}
theorem bK {Q:VK}{k k':Bool}(I:aN X pins σ H s)(q:Q (.bl k) H)(e:k=k'):EP X pins σ Q (.bool k') s:=by
 subst e;exact⟨.bl k,H,I,rfl,q⟩
theorem kR:l6 X (aa9 .Eq) WA:=by
 intro pins s σ H x y v u Q I rx ry h;obtain⟨hs,q⟩:=h;cases x with
 |non=>
  cases rx;cases y with
  |non=>cases ry;exact PySem.EqNone.eq_none_none (bK I q (by simp))
  |bl j=>cases ry;exact PySem.EqNone.eq_none_bool (bK I q (by simp))
  |int j=>obtain⟨t',rfl⟩:=ry;exact PySem.EqNone.eq_none_int (bK I q (by simp))
  |str j=>obtain⟨t',rfl⟩:=ry;exact PySem.EqNone.eq_none_str (bK I q (by simp))
  |_=>exact absurd (show false=true from hs) ZE
 |bl i=>
  cases rx;cases y with
  |non=>cases ry;exact PySem.EqNone.eq_bool_none (bK I q (by simp))
  |bl j=>cases ry;exact eq_bool (bK I q xZ)
  |str j=>obtain⟨t',rfl⟩:=ry;exact PySem.EqMixed.eq_bool_str (bK I q (by simp))
  |_=>exact absurd (show false=true from hs) ZE
 |int i=>
  obtain⟨t,rfl⟩:=rx;cases y with
  |non=>cases ry;exact PySem.EqNone.eq_int_none (bK I q (by simp))
  |int j=>obtain⟨t',rfl⟩:=ry;exact eq_int (bK I q tJ)
  |str j=>obtain⟨t',rfl⟩:=ry;exact PySem.EqMixed.eq_int_str (bK I q (by simp))
  |_=>exact absurd (show false=true from hs) ZE
 |str i=>
  obtain⟨t,rfl⟩:=rx;cases y with
  |non=>cases ry;exact PySem.EqNone.eq_str_none (bK I q (by simp))
  |bl j=>cases ry;exact PySem.EqMixed.eq_str_bool (bK I q (by simp))
  |int j=>obtain⟨t',rfl⟩:=ry;exact PySem.EqMixed.eq_str_int (bK I q (by simp))
  |str j=>obtain⟨t',rfl⟩:=ry;exact eq_str (bK I q tK)
  |_=>exact absurd (show false=true from hs) ZE
 |byt i=>
  obtain⟨t,rfl⟩:=rx;cases y with
  |byt j=>obtain⟨t',rfl⟩:=ry;exact PySem.W.eq_bytes (bK I q Dr)
  |_=>exact absurd (show false=true from hs) ZE
 |_=>cases y<;>exact absurd (show false=true from hs) ZE
theorem MQ:l6 X (aa9 .NotEq) WB:=by
 intro pins s σ H x y v u Q I rx ry h;obtain⟨hs,q⟩:=h;cases x with
 |non=>
  cases rx;cases y with
  |non=>cases ry;exact PySem.EqNone.ne_none_none (bK I q (by simp))
  |bl j=>cases ry;exact PySem.EqNone.ne_none_bool (bK I q (by simp))
  |int j=>obtain⟨t',rfl⟩:=ry;exact PySem.EqNone.ne_none_int (bK I q (by simp))
  |str j=>obtain⟨t',rfl⟩:=ry;exact PySem.EqNone.ne_none_str (bK I q (by simp))
  |_=>exact absurd (show false=true from hs) ZE
 |bl i=>
  cases rx;cases y with
  |non=>cases ry;exact PySem.EqNone.ne_bool_none (bK I q (by simp))
  |bl j=>cases ry;exact ne_bool (bK I q (congrArg not xZ))
  |str j=>obtain⟨t',rfl⟩:=ry;exact PySem.EqMixed.ne_bool_str (bK I q (by simp))
  |_=>exact absurd (show false=true from hs) ZE
 |int i=>
  obtain⟨t,rfl⟩:=rx;cases y with
  |non=>cases ry;exact PySem.EqNone.ne_int_none (bK I q (by simp))
  |int j=>obtain⟨t',rfl⟩:=ry;exact ne_int (bK I q (congrArg not tJ))
  |str j=>obtain⟨t',rfl⟩:=ry;exact PySem.EqMixed.ne_int_str (bK I q (by simp))
  |_=>exact absurd (show false=true from hs) ZE
 |str i=>
  obtain⟨t,rfl⟩:=rx;cases y with
  |non=>cases ry;exact PySem.EqNone.ne_str_none (bK I q (by simp))
  |bl j=>cases ry;exact PySem.EqMixed.ne_str_bool (bK I q (by simp))
  |int j=>obtain⟨t',rfl⟩:=ry;exact PySem.EqMixed.ne_str_int (bK I q (by simp))
  |str j=>obtain⟨t',rfl⟩:=ry;exact ne_str (bK I q (congrArg not tK))
  |_=>exact absurd (show false=true from hs) ZE
 |byt i=>
  obtain⟨t,rfl⟩:=rx;cases y with
  |byt j=>obtain⟨t',rfl⟩:=ry;exact PySem.W.ne_bytes (bK I q (congrArg not Dr))
  |_=>exact absurd (show false=true from hs) ZE
 |_=>cases y<;>exact absurd (show false=true from hs) ZE
def G0:l6 X (aa9 .Lt) (BM λi j=>.bl (decide (i<j))):=KW λ_ _ _ _ _ _ _ q=>lt_int q
def Ds:l6 X (aa9 .LtE) (BM λi j=>.bl (decide (i<=j))):=KW λ_ _ _ _ _ _ _ q=>le_int q
def rL:l6 X (aa9 .Gt) (BM λi j=>.bl (decide (j<i))):=KW λ_ _ _ _ _ _ _ q=>gt_int q
def Rq:l6 X (aa9 .GtE) (BM λi j=>.bl (decide (j<=i))):=KW λ_ _ _ _ _ _ _ q=>ge_int q
theorem BO:l6 X (aa9 .Is) (λx y H Q=>y=.non/\Q (.bl (decide (x=.non))) H):=by
 intro pins s σ H x y v u Q I rx ry h;obtain⟨rfl,q⟩:=h;cases ry;refine is_none_gen (bK I q ?_);cases x<;>first
  | (cases rx;rfl)
  | (obtain⟨t,rfl⟩:=rx;rfl)
theorem Dt:l6 X (aa9 .IsNot) (λx y H Q=>y=.non/\Q (.bl (!decide (x=.non))) H):=by
 intro pins s σ H x y v u Q I rx ry h;obtain⟨rfl,q⟩:=h;cases ry;refine isnot_none_gen (bK I q ?_);cases x<;>first
  | (cases rx;rfl)
  | (obtain⟨t,rfl⟩:=rx;rfl)
theorem l6.or {f:ZF->ZF->Sem ZF}{r r':R2}(h:l6 X f r)(h':l6 X f r'):l6 X f (λx y H Q=>r x y H Q\/r' x y H Q):=by
 intro pins s σ H x y v u Q I rx ry q;rcases q with q|q
 ·exact h pins s σ H x y v u Q I rx ry q
 ·exact h' pins s σ H x y v u Q I rx ry q
theorem aE (b:abd)(h:op≠.In:=by decide)(h2:op≠.NotIn:=by decide):ac5 op b=false:=by
 have e1:(op==CmpOp.In)=false:=by cases op<;>first|rfl|exact absurd rfl h
 have e2:(op==CmpOp.NotIn)=false:=by cases op<;>first|rfl|exact absurd rfl h2
 cases b<;>simp[ac5,e1,e2]
def KZ {r:R2}(ho:l6 X (aa9 op) r)(ha:PE X a ta)(hb:PE X b tb)(hm:ac5 op b=false):PE X (.Compare a [op] [b] pos) (Rj r ta tb):=by
 intro pins s σ H Q I h;exact wpAny_Compare1 (O2 ha hb I h λv u s2 x y H2 I2 rx ry q=>ho pins s2 σ H2 x y v u Q I2 rx ry q) hm
def MR (t:TE):TT:=λσ H Q=>t σ H λx H'=>∃k,x=.bl k/\Q k H'
theorem K0 {r:R2}(ho:l6 X (aa9 op) r)(ha:PE X a ta)(hb:PE X b tb)(hm:ac5 op b=false):PT X (.Compare a [op] [b] pos) (MR (Rj r ta tb)):=by
 intro pins s σ H Q I h;refine wpAny_isTrue_Compare1 (eK (ha pins s σ H _ I h) λv s1 ⟨x,H1,I1,r1,q1⟩=>eK (hb pins s1 σ H1 _ I1 q1) λu s2 ⟨y,H2,I2,r2,q2⟩=>
  eK (ho pins s2 σ H2 x y v u _ I2 r1 r2 q2) λc s3 ⟨z,H3,I3,r3,k,e,q3⟩=>?_) hm
 subst e;cases r3;exact abE ⟨H3,I3,q3⟩
def G1 (r r':R2)(ta tb tc:TE):TE:=λσ H Q=>ta σ H λx H1=>tb σ H1 λy H2=>r x y H2 λz H3=>∃k,z=.bl k/\
 (if k=true then tc σ H3 λw' H4=>r' y w' H4 Q else Q (.bl false) H3)
theorem G2 {QD:CmpOp}{r r':R2}(ho:l6 X (aa9 op) r)(Ki:l6 X (aa9 QD) r')(ha:PE X a ta)(hb:PE X b tb)(hc:PE X c tc)(hm:lastMarks [op,QD] [b,c]=false:=by with_unfolding_all rfl):PT X (.Compare a [op,QD] [b,c] pos) (MR (G1 r r' ta tb tc)):=by
 intro pins s σ H Q I h;refine isTrue_chain (eK (ha pins s σ H _ I h) λv s1 ⟨x,H1,I1,r1,q1⟩=>test_link (eK (hb pins s1 σ H1 _ I1 q1) λu s2 ⟨y,H2,I2,r2,q2⟩=>
  eK (ho pins s2 σ H2 x y v u _ I2 r1 r2 q2) λd s3 ⟨z,H3,I3,r3,k,e,q3⟩=>?_)) hm
 subst e;cases r3;refine abE ?_;cases k with
 |false=>
  obtain⟨k',e',q'⟩:=q3;cases e';exact ite_ff ⟨H3,I3,q'⟩
 |true=>
  refine ite_tt (test_last (eK (hc pins s3 σ H3 _ I3 q3) λw' s4 ⟨z',H4,I4,r4,q4⟩=>eK (Ki pins s4 σ H4 y z' u w' _ I4 r2 r4 q4) λd' s5 ⟨z2,H5,I5,r5,k2,e2,q5⟩=>?_));subst e2;cases r5;exact abE ⟨H5,I5,q5⟩
def tZ:(ZH:Nat)<2 ^ 63:=by rw[abw];decide
theorem i0 {x:V}{us:List ZF}(r:bw [x] us):∃u,us=[u]/\bA x u:=by
 cases r with
 |cons r1 r2=>cases r2;exact⟨_,rfl,r1⟩
theorem zH {x:V}{us:List ZF}(r:bw [x,y] us):∃u w',us=[u,w']/\bA x u/\bA y w':=by
 cases r with
 |cons r1 r2=>
  cases r2 with
  |cons r3 r4=>cases r4;exact⟨_,_,rfl,r1,r3⟩
theorem zI:ez X (.builtin "abs") (λxs H Q=>∃i,xs=[.int i]/\Q (.int (if i<0 then -i else i)) H):=by
 intro pins s σ H xs us Q I r h;obtain⟨i,rfl,q⟩:=h;obtain⟨u,rfl,t,rfl⟩:=i0 r;exact call_abs_int λu tk=>⟨.int (if i<0 then -i else i),H,I.tok _,⟨_,rfl⟩,q⟩
theorem Ff (hc:X.calm=true):ez X (.builtin "max") (λxs H Q=>∃i j,xs=[.int i,.int j]/\Q (.int (if j>i then j else i)) H):=by
 intro pins s σ H xs us Q I r h;obtain⟨i,j,rfl,q⟩:=h;obtain⟨u,w',rfl,⟨t,rfl⟩,⟨t',rfl⟩⟩:=zH r;refine max_two_ints (I.ok.hd hc) λh' tk k=>⟨_,H,I.kept k,?_,q⟩;by_cases hj:j>i
 ·rw[hV hj,hV hj];exact⟨_,rfl⟩
 ·rw[hU hj,hU hj];exact⟨_,rfl⟩
theorem Fg (hc:X.calm=true):ez X (.builtin "min") (λxs H Q=>∃i j,xs=[.int i,.int j]/\Q (.int (if j<i then j else i)) H):=by
 intro pins s σ H xs us Q I r h;obtain⟨i,j,rfl,q⟩:=h;obtain⟨u,w',rfl,⟨t,rfl⟩,⟨t',rfl⟩⟩:=zH r;refine min_two_ints (I.ok.hd hc) λh' tk k=>⟨_,H,I.kept k,?_,q⟩;by_cases hj:j<i
 ·rw[hV hj,hV hj];exact⟨_,rfl⟩
 ·rw[hU hj,hU hj];exact⟨_,rfl⟩
theorem Fh:ez X (.type "int") (λxs H Q=>(∃i,xs=[.int i]/\Q (.int i) H)\/∃k,xs=[.bl k]/\Q (.int (if k then 1 else 0)) H):=by
 intro pins s σ H xs us Q I r h;rcases h with⟨i,rfl,q⟩|⟨k,rfl,q⟩
 ·obtain⟨u,rfl,t,rfl⟩:=i0 r;exact call_int_int ⟨.int i,H,I,⟨_,rfl⟩,q⟩
 ·obtain⟨u,rfl,r1⟩:=i0 r;cases r1;exact call_int_bool ⟨.int (if k then 1 else 0),H,I.tok _,⟨_,rfl⟩,q⟩
def Rr (K:ZD)(x:V)(H:Hp)(n:Nat):Prop:=
 match x with
 | .str y=>y.length<=ZH/\n=y.length
 | .byt y=>y.size<=ZH/\n=y.size
 | .ref p=>(∃xs,gD K H p xs/\n=xs.length)\/∃xs,jj K H p xs/\n=xs.length
 |_=>False
theorem aX:ez X (.builtin "len") (λxs H Q=>∃x n,xs=[x]/\Rr X.K x H n/\Q (.int n) H):=by
 intro pins s σ H xs us Q I r h;obtain⟨x,n,rfl,e,q⟩:=h;obtain⟨u,rfl,rx⟩:=i0 r;have hl:=tZ;have hs:ZH=16777216:=abw;cases x with
 |str y=>
  obtain⟨t,rfl⟩:=rx;obtain⟨hy,e'⟩:y.length<=ZH/\n=y.length:=e;subst e';exact len_str (by lia) ⟨.int _,H,I.tok _,⟨_,rfl⟩,q⟩
 |byt y=>
  obtain⟨t,rfl⟩:=rx;obtain⟨hy,e'⟩:y.size<=ZH/\n=y.size:=e;subst e';exact PySem.W.len_bytes (by lia) ⟨.int _,H,I.tok _,⟨_,rfl⟩,q⟩
 |ref p=>
  cases rx;have e':(∃xs,gD X.K H p xs/\n=xs.length)\/∃xs,jj X.K H p xs/\n=xs.length:=e;rcases e' with⟨xs,hx,e'⟩|⟨xs,hx,e'⟩
  ·subst e';obtain⟨its,r',pl,hz⟩:=I.list hx;have jD:=r'.length;exact Calls.call_len_list pl.isList (by simp only[ZI];lia) ⟨.int xs.length,H,I.tok _,⟨_,by simp only[ZI];rw[jD]⟩,q⟩
  ·subst e';obtain⟨its,r',pl,hz⟩:=I.tuple hx;have jD:=r'.length;exact len_tuple pl (by simp only[ZI];lia) ⟨.int xs.length,H,I.tok _,⟨_,by simp only[ZI];rw[jD]⟩,q⟩
 |_=>exact (show False from e).elim
end
end L2
variable {r r':L2.R2}
namespace L2
structure O4 (h:abT)(x dx C:ZY)(mA:Str->Option ZF):Prop where
 obj:h.get? x=some (PySem.W.instObj C dx)
 ns:h.Ns1 dx mA
 ne:dx≠x
theorem Fi {dx:ZY}{mA:Str->Option ZF}(n:h.Ns1 dx mA):∃od,h.get? dx=some od/\∀name,PySem.W.lookIn name od=some (mA name):=by
 obtain⟨o,es,ep,ho,hd,hk,_,hm⟩:=n;refine⟨o,ho,λname=>?_⟩;have e:=hm name;unfold nsFind findBy at e;rw[←Array.find?_toList] at e;unfold PySem.W.lookIn;rw[hd];dsimp only;split
 ·grind
 ·rename_i q;rw[q] at e;have a:es.toList.any (·.refKey)=false:=by
   rw[List.any_eq_false];intro y hy;obtain⟨z,t,MN⟩:=hk y (Array.mem_toList_iff.mp hy);simp[DictEntry.refKey,MN]
  grind
def O4.look {x dx C:ZY}{mA:Str->Option ZF}(I:O4 h x dx C mA):∃od,PySem.W.InstAt h x (PySem.W.instObj C dx) C (some od)/\∀name,PySem.W.lookIn name od=some (mA name):=
 let ⟨od,ho,hl⟩:=Fi I.ns
 ⟨od,⟨I.obj,rfl,rfl,ho⟩,hl⟩
theorem qC.some_of {o:Option ZF}(r:qC (some v) o):∃u,o=some u/\bA v u:=by
 cases o with
 |none=>exact (show False from r).elim
 |some u=>exact⟨u,rfl,r⟩
section
variable {C dx:ZY}{fs fs':List (Str×V)}
theorem K1 (hok:mn P w H h)(e:H a=some (.ins C dx fs)):∃mA,O4 h a dx C mA/\(∀f,qC (fs.lookup f) (mA f))/\PySem.Within mA (fs.map (·.1))/\fs.length<=1000/\H dx=some (.own a):=by
 obtain⟨d,z,ne,ob,mA,n,r,q⟩:=(show bT P w H h a (.ins C dx fs) from hok a _ e);exact⟨mA,⟨ob,n,ne⟩,r,q,z,d⟩
end
structure U4 (K:ZD)(C:ZY):Prop where
 pg:PySem.W.plainGet K C Str.empty=true
 hd:PySem.W.hasDictIn K C=true
 po:PySem.W.plainOver K C=true
 sa:adz K (.ref C) "__setattr__"=some (some (.builtin "object.__setattr__"))
def U4.get {C:ZY}(c:U4 K C)(f:Str):PySem.W.plainGet K C f=true:=c.pg
structure Zb (K:ZD)(C:ZY)(f:Str)(v:V)(u:ZF):Prop where
 at_:adz K (.ref C) f=some (some u)
 rel:bA v u
 get:PySem.W.specialIn K u "__get__"=some none
 cp:PySem.W.copiedNames.contains f=false
structure Xu (K:ZD)(C:ZY)(m:Str)(f:ZY):Prop where
 at_:adz K (.ref C) m=some (some (.ref f))
 fn:PySem.W.isFn K (.ref f)=true
 kp:acs K (.ref f)=true
section
variable {A:aar}{c:ZF}{b:Bool}
inductive qD (K:ZD)(H:Hp):V->ZF->Prop where
 |non:qD K H .non (.type "NoneType")
 |bl (x:Bool):qD K H (.bl x) (.type "bool")
 |int (i:Int):qD K H (.int i) (.type "int")
 |str (x:Str):qD K H (.str x) (.type "str")
 |flt (x:UInt64):qD K H (.flt x) (.type "float")
 |lst {a:ZY} {xs:List V} (e:H a=some (.lst xs)):qD K H (.ref a) (.type "list")
 |frz {a:ZY} {o:Obj} {xs:List V} (e:H a=some (.frz o (.lst xs))):qD K H (.ref a) (.type "list")
 |tup {a:ZY} {xs:List V} (e:H a=some (.tup xs)):qD K H (.ref a) (.type "tuple")
 |dK {a:ZY} {bE:List (Key×V)} (e:H a=some (.dK bE)):qD K H (.ref a) (.type "dict")
 |dT {a:ZY} {bE:List (List Key×V)} (e:H a=some (.dT bE)):qD K H (.ref a) (.type "dict")
 |ins {a C dx:ZY} {fs:List (Str×V)} (e:H a=some (.ins C dx fs)) (cl:U4 K C) (ha:adz K (.ref C) "__class__"=some (some (.builtin "object.__class__")))
   (hn:PySem.W.specialIn K (.builtin "object.__class__") "__get__"=some (some (.builtin "getset_descriptor.__get__"))) (htk:PySem.W.takesIn K (.builtin "object.__class__")=some true)
   (hm:PySem.W.mroIn K C (.type "object")=some true):qD K H (.ref a) (.ref C)
theorem Fj {x:V}{u t:ZF}(I:aN X pins σ H s)(rx:bA x u)(ty:qD X.K H x t)(e:PySem.W.kitOne X.K t c=some b)(h:∀tk,Q (.bool b) {s with toks:=tk}) :
  Z1 (Z8 X.prog X.w) A (call (.builtin "isinstance") [u,c]) Q E s:=by
 cases ty with
 |non=>cases (show u=Value.none from rx);exact aa0 PySem.W.kitx_none I.kIn True.intro e (λz=>nomatch z) h
 |bl y=>cases (show u=Value.bool y from rx);exact aa0 PySem.W.kitx_bool I.kIn True.intro e (λz=>nomatch z) h
 |int i=>obtain⟨t,q⟩:=(show ∃t,u=Value.int i t from rx);cases q;exact aa0 PySem.W.kitx_int I.kIn True.intro e (λz=>nomatch z) h
 |str y=>obtain⟨t,q⟩:=(show ∃t,u=Value.str y t from rx);cases q;exact aa0 PySem.W.kitx_str I.kIn True.intro e (λz=>nomatch z) h
 |flt y=>obtain⟨t,q⟩:=(show ∃t,u=Value.float y t from rx);cases q;exact aa0 PySem.W.kitx_float I.kIn True.intro e (λz=>nomatch z) h
 | @lst a xs ea=>
  cases (show u=Value.ref a from rx);obtain⟨_,_,n,_,h1⟩:=(show bT X.prog X.w H s.heap a (.lst xs) from I.hok a _ ea);exact aa0 adn I.kIn ⟨_,h1,rfl⟩ e (λz=>nomatch z) h
 | @frz a ob xs ea=>
  cases (show u=Value.ref a from rx);obtain⟨_,_,_,n,_,h1⟩:=(show bT X.prog X.w H s.heap a (.frz ob (.lst xs)) from I.hok a _ ea);exact aa0 adn I.kIn ⟨_,h1,rfl⟩ e (λz=>nomatch z) h
 | @tup a xs ea=>
  cases (show u=Value.ref a from rx);obtain⟨_,_,_,p,_⟩:=(show bT X.prog X.w H s.heap a (.tup xs) from I.hok a _ ea);obtain⟨o,h1,h2,_⟩:=p;exact aa0 PySem.W.kitx_tuple I.kIn ⟨o,h1,h2⟩ e (λz=>nomatch z) h
 | @dK a bE ea=>
  cases (show u=Value.ref a from rx);obtain⟨_,_,vs,_,p⟩:=(show bT X.prog X.w H s.heap a (.dK bE) from I.hok a _ ea);obtain⟨o,es,ep,h1,h2,_⟩:=p;exact aa0 ado I.kIn ⟨o,h1,h2.1⟩ e (λz=>nomatch z) h
 | @dT a bE ea=>
  cases (show u=Value.ref a from rx);obtain⟨_,_,xs,_,o,es,ep,h1,h2,_⟩:=(show bT X.prog X.w H s.heap a (.dT bE) from I.hok a _ ea);exact aa0 ado I.kIn ⟨o,h1,h2.1⟩ e (λz=>nomatch z) h
 | @ins a C dx fs ea cl ha hn htk hm=>
  cases (show u=Value.ref a from rx);obtain⟨mA,O,_⟩:=K1 I.hok ea;obtain⟨od,J,_⟩:=O.look;exact aa0 (PySem.W.kitx_own (cl.get _) cl.hd ha hn htk hm) I.kIn J e (λz=>nomatch z) h
end
end L2
namespace L2
structure gE (k:Nat)(A:aar):Prop where
 hd:A.handled=none
 dp:A.depth+3*k+5<recursionLimit
 un:A.units+16*k+200<abn
theorem gE.mono {A:aar}(r:gE k A)(h:j<=k):gE j A:=⟨r.hd,by have:=r.dp;lia,by have:=r.un;lia⟩
theorem gE.deeper {A:aar}(r:gE (k+1) A)(env:Env):gE k (A.deeper env):=
 ⟨r.hd,by have:=r.dp;show A.depth+1+3*k+5<_;lia,by have:=r.un;show A.units+3+16*k+200<_;lia⟩
theorem gE.depth {A:aar}(r:gE k A):A.depth<recursionLimit:=by have:=r.dp;lia
theorem gE.units {A:aar}(r:gE k A):A.units+64<abn:=by have:=r.un;lia
def U5:TA:=λ_ H Q=>Q [] H
def Rt (ta:TE)(tr:TA):TA:=λσ H Q=>ta σ H λx H1=>tr σ H1 λxs H2=>Q (x::xs) H2
section
variable {e:abd}{es:List abd}{t:TA}
def kD:PA X [] U5:=λ_ _ _ _ H Q I h=>Calls.spliced_nil ⟨[],H,I,.nil,h⟩
def eN (ha:PE X e te)(hr:PA X es t)(hs:ZX (e::es) X.env=(false,acP e X.env)::ZX es X.env:=by rfl):PA X (e::es) (Rt te t):=by
 intro pos pins s σ H Q I h;rw[hs];show Z1 _ _ (spliced ((false,acP e X.env)::abL pos (ZX es X.env))) _ _ s;refine ael (eK (ha pins s σ H _ I h) λu s1 ⟨x,H1,I1,r1,q1⟩=>?_);exact eK (hr pos pins s1 σ H1 _ I1 q1) λus s2 ⟨xs,H2,I2,r2,q2⟩=>⟨x::xs,H2,I2,.cons r1 r2,q2⟩
def U6 (t:TA):TE:=λσ H Q=>t σ H λxs H1=>xs.length<=ZH/\∀p,H1 p=none->Q (.ref p) (cE H1 p (.tup xs))
def U7 (t:TA):TE:=λσ H Q=>t σ H λxs H1=>xs.length<=ZH/\∀p,H1 p=none->Q (.ref p) (cE H1 p (.lst xs))
def G3 {x1}(h:PA X es t):PE X (.Tuple es x1 pos) (U6 t):=by
 intro pins s σ H Q I hq;refine wpAny_Tuple_spliced (eK (h pos pins s σ H _ I hq) λus s1 ⟨xs,H1,I1,r,z,q⟩=>⟨by rw[←r.length];exact z,?_⟩);have hf:H1 s1.heap.objs.size=none:=I1.hok.fresh (ZP _);refine⟨.ref s1.heap.objs.size,cE H1 s1.heap.objs.size (.tup xs),I1.laid (t':=s1.toks) (λb u e=>Zx _ e) (ZP _) ?_,rfl,q _ hf⟩;exact⟨z,us,r,⟨_,ZQ _ rfl,rfl,_,rfl⟩,_,ZQ _ rfl⟩
def x8 (h:PA X es t):PE X (.List es pos) (U7 t):=by
 intro pins s σ H Q I hq;refine wpAny_List_spliced (eK (h pos pins s σ H _ I hq) λus s1 ⟨xs,H1,I1,r,z,q⟩=>⟨by rw[←r.length];exact z,?_⟩);have hf:H1 s1.heap.objs.size=none:=I1.hok.fresh (ZP _);refine⟨.ref s1.heap.objs.size,cE H1 s1.heap.objs.size (.lst xs),I1.laid (t':=s1.toks) (λb u e=>Zx _ e) (ZP _) ?_,rfl,q _ hf⟩;exact⟨z,us,0,r,ZQ _ rfl⟩
end
abbrev Sp:=List V->Hp->VK->XK->Prop
abbrev CXT:=List Env->Hp->ZT->XK->ZF->ZT->Prop
structure K2 (P:abM)(w:acd)(K:ZD)(mg:Str->Option ZF)(base:abT)(A:aar)(outer:List Env)(s:ZT)(H:Hp):Prop where
 frames:A.frames=some outer
 mod:Mod K mg base
 bs:∀b o,base.get? b=some o->s.heap.get? b=some o/\H b=none
 bsz:base.objs.size<=s.heap.objs.size
 funs:s.heap.FunFrames base outer
 frf:∀b∈Dk outer,H b=none
 hok:mn P w H s.heap
 bare:AllBare s.gens
def CE (outer:List Env)(P:abM)(w:acd)(H:Hp)(s:ZT)(Q:VK)(u:ZF)(s':ZT):Prop:=
 ∃v H',s'.os=s.os/\AllBare s'.gens/\Un (Dk outer) [] H H' s.heap s'.heap/\mn P w H' s'.heap/\bA v u/\Q v H'
def CR (CX:CXT)(outer:List Env)(P:abM)(w:acd)(H:Hp)(s:ZT)(Q:VK)(E:XK)(r:Result)(s':ZT):Prop:=
 match r with
 | .ok (.ret u)=>CE outer P w H s Q u s'
 | .ok _=>False
 | .error e=>CX outer H s E e s'
structure nZ (P:abM)(w:acd)(K:ZD)(mg:Str->Option ZF)(base:abT)(CX:CXT)(k:Nat)(f:ZY)(fd:adR)(ps:List Str)(sp:Sp):Prop where
 len:∀vs H Q E,sp vs H Q E->vs.length=ps.length
 run:∀(A:aar) (outer:List Env) (s:ZT) (H:Hp) (args:Args) (us:List ZF) (vs:List V) (Q:VK) (E:XK),gE k A->K2 P w K mg base A outer s H->BindsTo s fd args (ps.zip us)->bw vs us->sp vs H Q E->
  codeAny (Z8 P w) A (.call (.ref f) args) (CR CX outer P w H s Q E) s
theorem nZ.imp {base:abT}{CX:CXT}{f:ZY}{sp W6:Sp}(F:nZ P w K mg base CX k f fd ps sp)(h:∀vs H Q E,W6 vs H Q E->sp vs H Q E):nZ P w K mg base CX k f fd ps W6:=
 ⟨λvs H Q E q=>F.len vs H Q E (h _ _ _ _ q),λA outer s H args us vs Q E hr he hb hv hs=>F.run A outer s H args us vs Q E hr he hb hv (h _ _ _ _ hs)⟩
section
variable {s':ZT}
def aN.env0 (I:aN X pins σ H s):K2 X.prog X.w X.K X.mg X.base X.A X.stack s H:=
 ⟨I.ok.frames,I.ok.mod,I.bs,aaz I.ok.bsz I.sz,I.stack,I.stkFree,I.hok,I.bare⟩
theorem aN.after {Q:VK}{u:ZF}(I:aN X pins σ H s)(h:CE X.stack X.prog X.w H s Q u s'):EP X pins σ Q u s':=by
 obtain⟨v,H',os,bare,un,hok,r,q⟩:=h;obtain⟨hh,g,d,t,os'⟩:=s';obtain rfl:os'=s.os:=os;exact⟨v,H',I.call (h':=hh) (g':=g) (d':=d) (t':=t) (ch:=[]) un hok bare (λb z=>absurd z (by simp)),r,q⟩
end
def MS (sp:Sp)(Oo:List V)(E:XK)(t:TA):TE:=λσ H Q=>t σ H λvs H1=>sp (vs++Oo) H1 Q E
def w9 (K:ZD)(fd:adR)(ps:List Str)(ds:List ZF):Prop:=
 ∀(s:ZT) (us:List ZF),K.In s.heap->(us++ds).length=ps.length->BindsTo s fd ⟨us,[]⟩ (ps.zip (us++ds))
def w9.all (h:∀us:List ZF,us.length=ps.length->bindArgs fd ⟨us,[]⟩=pure (ps.zip us)):w9 K fd ps []:=λs us _ hl=>by
 rw[aad] at hl ⊢;exact .of_eq (h us hl)
def BP (CX:CXT)(X:Cx)(E:XK):Prop:=∀(pins:List (ZY×Obj)) (σ:St) (H:Hp) (s:ZT) (e:ZF) (s':ZT),aN X pins σ H s->CX X.stack H s E e s'->X.xe e s'
section
variable {CX:CXT}{f C:ZY}{sp:Sp}{Oo:List V}{ds:List ZF}{E:XK}{m:Str}{p jc:Pos}{e o:abd}{es:List abd}{ta:TE}{t:TA}
theorem O5 {Q:VK}{us:List ZF}(F:nZ X.prog X.w X.K X.mg X.base CX k f fd ps sp)(hr:gE k X.A)(hb:w9 X.K fd ps ds)(hd:bw Oo ds)(hx:BP CX X E)(I:aN X pins σ H s)(r:bw vs us)(h:sp (vs++Oo) H Q E):Z1 (Z8 X.prog X.w) X.A (call (.ref f) us) (EP X pins σ Q) X.xe s:=by
 have r2:bw (vs++Oo) (us++ds):=r.append hd;have hl:(us++ds).length=ps.length:=by rw[←r2.length];exact F.len _ _ _ _ h
 refine wpAny_call (aem (F.run X.A X.stack s H ⟨us,[]⟩ (us++ds) (vs++Oo) Q E hr I.env0 (hb s us I.kIn hl) r2 h) λr s' hq=>?_);cases r with
 |error e=>exact hx pins σ H s e s' I hq
 |ok fl=>
  cases fl with
  |ret u=>exact I.after hq
  |next=>exact acI hq
  |brk=>exact acI hq
  |cont=>exact acI hq
def K3 (F:nZ X.prog X.w X.K X.mg X.base CX k f fd ps sp)(hr:gE k X.A)(hg:Gl X x)(hm:X.mg x=some (.ref f))(hk:acs X.K (.ref f)=true)(hb:w9 X.K fd ps ds)(hd:bw Oo ds)(hx:BP CX X E)
  (ha:PA X (e::es) t) (De:(x==("__debug__":Str))=false:=by decide) (he:ZX (e::es) X.env=(false,acP e X.env)::ZX es X.env:=by rfl) (sJ:(abL pos (ZX es X.env)).any (·.1)=false:=by rfl) :
  PE X (.Call (.Name x p) (e::es) [] pos) (MS sp Oo E t):=by
 intro pins s σ H Q I h;refine aen (Dl I hg hm ?_ De);refine PySem.W.callWith_K (h₀:=X.base) I.ok.mod.kin hk (eK (ha pos pins s σ H _ I h) λus s1 ⟨vs,H1,I1,r,q⟩=>⟨I1.kIn,?_⟩) he sJ;exact O5 F hr hb hd hx I1 r q
structure Mk (K:ZD)(C f:ZY):Prop where
 makes:PySem.W.makesIn K C=true
 init:adz K (.ref C) "__init__"=some (some (.ref f))
 fn:PySem.W.isFn K (.ref f)=true
 kp:acs K (.ref C)=true
end
section
variable {CX:CXT}{f C:ZY}{ks:List Str}{sp:Sp}{E:XK}{m:Str}{p jc kpos:Pos}{e o:abd}{es:List abd}{kws:List adH}{ta:TE}{t tk:TA}{nm:Option Str}
structure U8 (K:ZD)(fd:adR)(ps ks:List Str)(g:List ZF->List ZF->List ZF)(gV:List V->List V->List V):Prop where
 to:∀(s:ZT) (us ws:List ZF),K.In s.heap->(g us ws).length=ps.length->BindsTo s fd ⟨us,ks.zip ws⟩ (ps.zip (g us ws))
 rel:∀{vs:List V} {us:List ZF} {zs:List V} {ws:List ZF},bw vs us->bw zs ws->bw (gV vs zs) (g us ws)
variable {g:List ZF->List ZF->List ZF}{gV:List V->List V->List V}
end
structure aK (N P:List Str)(sc:aeD):Prop where
 kind:sc.kind=.function
 co:sc.isCoroutine=false
 gen:sc.isGenerator=false
 nd:N.Nodup
 pre:N.take P.length=P
 par:∀x∈P,sc.names.lookup x=some .local\/sc.names.lookup x=some .cell
 nofree:∀y∈sc.names,y.2≠.free
theorem w_ {acx:Str->Option aeN}{x:Str}:∀{binds:List (Str×ZF)} {m:Str->Option ZF},(∀v,(x,v)∉binds)->bindL acx binds m x=m x
 | [],_,_=>rfl
 | (n,v)::r,m,h=>by
  unfold bindL;rw[w_ λw hw=>h w (ZC _ hw)];split
  ·have:x≠n:=by rintro rfl;exact h v ZA
   simp[this]
  ·rfl
theorem xb {acx:Str->Option aeN}{x:Str}:∀{binds:List (Str×ZF)} {m:Str->Option ZF},(∀v,(x,v)∉binds)->bindC acx binds m x=m x
 | [],_,_=>rfl
 | (n,v)::r,m,h=>by
  unfold bindC;rw[xb λw hw=>h w (ZC _ hw)];split
  ·rfl
  grind
theorem xc {acx:Str->Option aeN}{x:Str}{v:ZF}:∀{P:List Str} {vs:List ZF} {i:Nat} {m:Str->Option ZF},P.Nodup->P[i]? = some x->vs[i]? = some v->acx x=some .local->
  bindL acx (P.zip vs) m x=some v
 | [],_,_,_,_,h,_,_=>by simp at h
 |_::_,[],_,_,_,_,h,_=>by simp at h
 |p::P,w::vs,0,m,nd,h1,h2,hk=>by
  simp at h1 h2;subst h1;subst h2;show bindL acx ((p,w)::P.zip vs) m p=_;unfold bindL;rw[w_ λv hv=>(aaS.mp nd).1 (ac6 hv).1,hV hk];simp
 |p::P,w::vs,i+1,m,nd,h1,h2,hk=>by
  show bindL acx ((p,w)::P.zip vs) m x=_;unfold bindL;exact xc (i:=i) (aaS.mp nd).2 (by simpa using h1) (by simpa using h2) hk
theorem xf {acx:Str->Option aeN}{x:Str}{v:ZF}:∀{P:List Str} {vs:List ZF} {i:Nat} {m:Str->Option ZF},P.Nodup->P[i]? = some x->vs[i]? = some v->acx x≠some .local->
  bindC acx (P.zip vs) m x=some v
 | [],_,_,_,_,h,_,_=>by simp at h
 |_::_,[],_,_,_,_,h,_=>by simp at h
 |p::P,w::vs,0,m,nd,h1,h2,hk=>by
  simp at h1 h2;subst h1;subst h2;show bindC acx ((p,w)::P.zip vs) m p=_;unfold bindC;rw[xb λv hv=>(aaS.mp nd).1 (ac6 hv).1,hU hk];simp
 |p::P,w::vs,i+1,m,nd,h1,h2,hk=>by
  show bindC acx ((p,w)::P.zip vs) m x=_;unfold bindC;exact xf (i:=i) (aaS.mp nd).2 (by simpa using h1) (by simpa using h2) hk
noncomputable def ac4 (N:List Str)(vs:List V):St:=vs.map some++acu (N.length-vs.length) none
noncomputable def sN (CX:CXT)(P:abM)(w:acd)(K:ZD)(mg:Str->Option ZF)(base:abT)(N:List Str)(qual:Str)(scope:aeD)(f:ZY)(cd:ZF)(A:aar)(outer:List Env)(s:ZT)(H:Hp)(E:XK):Cx where
 prog:=P
 w:=w
 K:=K
 mg:=mg
 base:=base
 A:=A.deeper (aeo qual scope s.heap.objs.size f cd)
 N:=N
 s₀:=s
 H₀:=H
 env:=aeo qual scope s.heap.objs.size f cd
 outer:=outer
 stack:=aeo qual scope s.heap.objs.size f cd::outer
 ex:=[]
 calm:=true
 fn:=λ_=>true
 pn:=[]
 xe:=λe s'=>Z1 (Z8 P w) (A.deeper (aeo qual scope s.heap.objs.size f cd)) (leaving (aeo qual scope s.heap.objs.size f cd) e) (λ_ QE=>CX outer H s E e QE) (λe' QE=>CX outer H s E e' QE) s'
def zJ {sc:aeD}(h:sc.names.lookup x=some .cell):∃c,(cellsFrom n sc.names []).lookup x=some c:=by
 have q:=PySem.W.cellsFrom_some sc.names n [] (.inl h);exact ab0.mp q
theorem Fl {CX:CXT}{base:abT}{f:ZY}{cd:ZF}{A:aar}{outer:List Env}{s1:ZT}{E:XK}{us:List ZF}(S:aK N ps scope)(hd:A.handled=none)(e0:K2 P w K mg base A outer s H)(hl:vs.length=ps.length)(r:bw vs us)(x:InCallC s s.heap.objs.size (bindL (aeo qual scope s.heap.objs.size f cd).kindOf (ps.zip us) λ_=>none) (cellsFrom (s.heap.objs.size+1) scope.names []) (bindC (aeo qual scope s.heap.objs.size f cd).kindOf (ps.zip us) λ_=>none) s1) :
  aN (sN CX P w K mg base N qual scope f cd A outer s H E) [] (ac4 N vs) H s1:=by
 have sJ:ps.length<=N.length:=by have:=congrArg List.length S.pre;grind
 obtain⟨h1,tk,rfl,hk⟩:=x.done;have Tq:∀b:ZY,b∉(sN CX P w K mg base N qual scope f cd A outer s H E).ex:=λb z=>absurd (show b∈([]:List ZY) from z) (by simp);refine⟨⟨e0.mod,S.kind,rfl,rfl,ZP _,λy z c h1 h2=>?_,λy hy=>?_,λy c _ h=>?_,λ_=>hd,Around.frames_deeper e0.frames,.inr ⟨rfl,rfl⟩,λb z=>absurd z (Tq b),e0.bs,e0.bsz,λb _ _=>Tq b,λb z=>absurd z (Tq b),e0.funs,e0.frf⟩,
  rfl,e0.bare,Un.kept hk,⟨_,x.toInCall.ns,λi y v h1 h2 h3=>?_⟩,λy c h=>⟨_,x.cell y c h⟩,e0.hok.fresh (ZP _),λy c h=>?_,λp hp=>absurd (show p∈([]:List (ZY×Obj)) from hp) (by simp),e0.hok.kept hk,?_⟩
 ·exact name_of_addr x.apart (aaH h1) (aaH h2)
 ·have hy:scope.names.lookup y=some .cell\/scope.names.lookup y=some .free:=hy;rcases hy with hy|hy
  ·exact zJ hy
  ·exact absurd rfl (S.nofree _ (aaH hy))
 ·exact Nat.le_of_lt (x.above y c (aaH h))
 ·have hi:i<vs.length:=by
   unfold ac4 at h2;by_cases hi:i<vs.length
   ·exact hi
   ·rw[aaG (by simpa using hi)] at h2;rw[List.getElem?_replicate] at h2;split at h2<;>cases h2
  have ha:vs[i]? = some v:=by
   unfold ac4 at h2;rw[aa1 (by simpa using hi),Z2] at h2;cases e:vs[i]? with
   |none=>rw[e] at h2;cases h2
   |some a=>rw[e] at h2;cases h2;rfl
  obtain⟨u,hu,rv⟩:=r.get ha;have hp:ps[i]? = some y:=by
   rw[←S.pre,aeF (by lia)];exact h1
  have W7:ps.Nodup:=by rw[←S.pre];exact S.nd.sublist (List.take_sublist _ _)
  refine⟨u,rv,?_⟩;rcases S.par y (aan hp) with k|k
  ·exact .inl ⟨k,xc W7 hp hu k⟩
  ·obtain⟨c,e⟩:=zJ (n:=s.heap.objs.size+1) k;refine .inr ⟨.inl k,c,e,?_⟩;have q:=x.cell y c e;rw[xf W7 hp hu (by show scope.names.lookup y≠_;lia)] at q;exact q
 ·exact e0.hok.fresh (Nat.le_of_lt (x.above y c (aaH h)))
 ·unfold ac4;show _=N.length;grind
theorem Ru {CX:CXT}{base:abT}{f:ZY}{name:Str}{params:Arguments}{dV kV qB pm cc ct oc:ZF}{an od:Option ZY}{Oq:Array (Option ZF)}{sp:Sp}(lk:K.lookup f=some ⟨oc,od,.func (abi name qual params body scope dV kV qB pm an cc ct),Oq⟩)(vX:aex K cc qual=true)(S:aK N ps scope)(len:∀vs H Q E,sp vs H Q E->vs.length=ps.length)(j6:∀(A:aar) (outer:List Env) (s:ZT) (H:Hp) (vs:List V) (Q:VK) (E:XK),gE k (A.deeper (aeo qual scope s.heap.objs.size f cc))->sp vs H Q E->
   ∃t,wc (sN CX P w K mg base N qual scope f cc A outer s H E) body t/\t {nx:=λ_ H'=>Q .non H',rt:=Q} (ac4 N vs) H) :
  nZ P w K mg base CX (k+1) f (abi name qual params body scope dV kV qB pm an cc ct) ps sp:=by
 refine⟨len,λA outer s H args us vs Q E hr e0 hb r Ot=>?_⟩;have hl:=len _ _ _ _ Ot;have KX:K.In s.heap:=e0.mod.kin.keeps λb o e=>(e0.bs b o e).1;have XS:s.heap.NoLimit:=e0.mod.nolimit.keeps λb o e=>(e0.bs b o e).1;have Tt:∀y∈ps.zip us,scope.names.lookup y.1=some .local\/(scope.names.lookup y.1=some .cell/\((cellsFrom (s.heap.objs.size+1) scope.names []).lookup y.1).isSome=true):=fun⟨n,v⟩ hy=>by
  rcases S.par n (ac6 hy).1 with q|q
  ·exact .inl q
  ·exact .inr ⟨q,PySem.W.cellsFrom_some _ _ _ (.inl q)⟩
 refine codeAny_call_function hr.depth (KX _ _ lk) rfl S.co S.gen rfl (PySem.W.codeRec_of KX vX) (hb _ _ _ _ ?_);refine wpAny_newFunctionEnv_cells S.kind Tt λenv he s1 x=>?_;subst he;refine⟨XS.keeps x.toInCall.keep,codeAny_func ?_⟩;obtain⟨t,ht,hq⟩:=j6 A outer s H vs Q E (hr.deeper _) Ot;have I:aN (sN CX P w K mg base N qual scope f cc A outer s H E) [] (ac4 N vs) H s1:=Fl S hr.hd e0 hl r x;refine aaN (ht [] s1 (ac4 N vs) H _ I hq) (λfl s' hs=>?_) λe s' hs=>hs;have fin:∀{σ':St} {H':Hp} {v:V} {u:ZF},aN (sN CX P w K mg base N qual scope f cc A outer s H E) [] σ' H' s'->bA v u->Q v H'->CE outer P w H s Q u s' :=
  λ{σ' H' v u} J rv q=>⟨v,H',J.os,J.bare,J.base,J.hok,rv,q⟩
 cases fl with
 |ret u=>
  obtain⟨v,σ',H',J,rv,q⟩:=hs;exact fin J rv q
 |next=>
  obtain⟨σ',H',J,q⟩:=hs;exact fin (v:=V.non) (u:=Value.none) J rfl q
 |brk=>
  obtain⟨_,_,_,q⟩:=hs;exact acI q
 |cont=>
  obtain⟨_,_,_,q⟩:=hs;exact acI q
end L2
variable {CX:L2.CXT}{sp:L2.Sp}
namespace L2
section
variable {p:Pos}{e:abd}{es:List abd}{t:TA}{id:String}{r:List V->Hp->VK->Prop}
def U9 (r:List V->Hp->VK->Prop)(t:TA):TE:=λσ H Q=>t σ H λvs H1=>r vs H1 Q
def mw (hc:ez X (.builtin id) r)(hg:Gl X x)(hm:X.mg x=none)(hv:aai x=some (.builtin id))(ha:PA X (e::es) t)(hn:x≠"__name__":=by decide)(De:(x==("__debug__":Str))=false:=by decide)
  (he:ZX (e::es) X.env=(false,acP e X.env)::ZX es X.env:=by rfl) (sJ:(abL pos (ZX es X.env)).any (·.1)=false:=by rfl):PE X (.Call (.Name x p) (e::es) [] pos) (U9 r t):=by
 intro pins s σ H Q I h;refine aen (tX I hg hm hv ?_ hn De);exact PyProof.Rows.callWith_builtin1 (eK (ha pos pins s σ H _ I h) λus s1 ⟨vs,H1,I1,r1,q1⟩=>hc pins s1 σ H1 vs us Q I1 r1 q1) he sJ
def kS (hc:ez X (.type T) r)(hg:Gl X x)(hm:X.mg x=none)(hv:aai x=some (.type T))(ha:PA X (e::es) t)(hn:x≠"__name__":=by decide)(De:(x==("__debug__":Str))=false:=by decide)
  (he:ZX (e::es) X.env=(false,acP e X.env)::ZX es X.env:=by rfl) (sJ:(abL pos (ZX es X.env)).any (·.1)=false:=by rfl):PE X (.Call (.Name x p) (e::es) [] pos) (U9 r t):=by
 intro pins s σ H Q I h;refine aen (tX I hg hm hv ?_ hn De);exact acA (eK (ha pos pins s σ H _ I h) λus s1 ⟨vs,H1,I1,r1,q1⟩=>hc pins s1 σ H1 vs us Q I1 r1 q1) he sJ
end
end L2
namespace HT
noncomputable def lexLt:List Int->List Int->Bool
 | [],[]=>false
 | [],_::_=>true
 |_::_,[]=>false
 |x::xs,y::ys=>if x=y then lexLt xs ys else decide (x<y)
def lexLt_cons (x y:Int)(xs ys:List Int):lexLt (x::xs) (y::ys)=if x=y then lexLt xs ys else decide (x<y):=rfl
def wd:lexLt [] []=false:=rfl
def t6 (y:Int)(ys:List Int):lexLt [] (y::ys)=true:=rfl
def t7 (x:Int)(xs:List Int):lexLt (x::xs) []=false:=rfl
def G4 (A:aar)(s:ZT)(a:Int)(t:Tok)(c:Int)(u:Tok):∃e,ab1 A s (.int a t) (.int c u) e/\(e=true↔a=c):=
 ⟨(a==c),aep a t c u,by simp⟩
def G5 (A:aar)(s:ZT)(a:Int)(t:Tok)(c:Int)(u:Tok)(prog:abM)(w:acd)(E:ZF->ZT->Prop)(Q:ZF->ZT->Prop)(h:Q (.bool (decide (a<c))) s) :
  Z1 (Z8 prog w) A (richCompare .Lt (.int a t) (.int c u)) Q E s:=
 (PyProof.Rows.lt_int h:Z1 (Z8 prog w) A (aa9 .Lt (.int a t) (.int c u)) Q E s)
section
open PySem.SeqAt
open PySem.AutoSeq1 (wpAny_loadPart')
open PySem.MeetsSeq PySem.MeetsSeq2 PySem.MeetsSeq3
theorem we (l b:ZY)(items kM:Array ZF)(n n2:Nat)(dd Ou:Option ZY)(sl Ov:Array (Option ZF))(ns ms:List Int)(hi:abA items.toList ns)(hj:abA kM.toList ms) :
  Meets (Builtin.«tuple.__lt__» ⟨[.ref l,.ref b],[]⟩)
   (λ_ R s=>s.heap.get? l=some {cls:=.type "tuple",dict:=dd,data:=.seq items n,slots:=sl}/\s.heap.get? b=some {cls:=.type "tuple",dict:=Ou,data:=.seq kM n2,slots:=Ov} /\
    R (.ok (.ret (.bool (lexLt ns ms)))) s):=
 .of_wp λprog w A R s h=>by
  obtain⟨hp,g,d,tk,os⟩:=s;obtain⟨hl,hb,h⟩:=h;have f2:=AutoSeq1.sub_tuple_tuple;have z1:items.size=ns.length:=by rw[←hi.length];simp
  have z2:kM.size=ms.length:=by rw[←hj.length];simp
  wp_walk using wpAny_loadPart' hl,wpAny_loadPart' hb,adI _ (λrest b s'=>b.1=none/\s'=⟨hp,g,d,tk,os⟩/\∃(vs ws:List ZF) (rF ms':List Int),rest=vs.zip ws/\
   abA vs rF/\abA ws ms'/\rF.length+kM.size=ms'.length+items.size/\R (.ok (.ret (.bool (lexLt rF ms')))) ⟨hp,g,d,tk,os⟩) _
  case turn=>
   rintro⟨y,x⟩ rest b s' ⟨zx,rfl,vs,ws,rF,ms',hz,hvi,hwi,jD,hR⟩;cases hvi with
   |nil=>simp_all
   |cons a t hvi'=>
    cases hwi with
    |nil=>simp_all
    |cons c u hwi'=>
     rw[ac7] at hz;injection hz with hyx hrest
     injection hyx with hy hx
     subst hy hx;rw[lexLt_cons] at hR;simp only[ZM] at jD;obtain⟨e,he,hiff⟩:=G4 A.in1 ⟨hp,g,d,tk,os⟩ a t c u;refine Zv (he prog w _ _ ?_);cases e with
     |true=>
      rw[hV (hiff.mp rfl)] at hR;wp_walk;exact⟨rfl,rfl,_,_,_,_,hrest,hvi',hwi',(by lia),hR⟩
     |false=>
      rw[hU (λq=>absurd (hiff.mpr q) ZE)] at hR;have XT:=G5 A.in1 ⟨hp,g,d,tk,os⟩ a t c u prog w;wp_walk using XT;exact⟨_,rfl,by simpa using hR⟩
  case fin=>
   rintro⟨b1,b2⟩ s' ⟨zx,rfl,vs,ws,rF,ms',hz,hvi,hwi,jD,hR⟩;simp only at zx;subst zx;have hv:lexLt rF ms'=decide (items.size<kM.size):=by
    cases hvi with
    |nil=>
     cases hwi with
     |nil=>
      simp_all[aaL,wd,hJ]
     |cons c u hw=>
      simp_all[aaL,ZM,t6,hG]
    |cons a t hv=>
     cases hwi with
     |nil=>
      simp only[aaL,ZM] at jD;rw[t7];lia
     |cons c u hw=>
      simp_all
   rw[hv] at hR;wp_walk;exact⟨_,rfl,by simpa [Builtin.Tuple.tupleCompareSizes] using hR⟩
  case h=>
   exact⟨rfl,rfl,items.toList,kM.toList,ns,ms,rfl,hi,hj,(by lia),h⟩
end
section
variable {A:aar}
theorem lt_tupInts {l:ZY}{kM:Array ZF}{ms:List Int}(hl:IsTup s.heap l items)(hb:IsTup s.heap b kM)(hi:abA items.toList ns)(hj:abA kM.toList ms)(hu:A.units<abn)(h:Q (.bool (lexLt ns ms)) s):Z1 (Z8 prog w) A (aa9 .Lt (.ref l) (.ref b)) Q E s:=by
 obtain⟨⟨cls,dd,data,sl⟩,ho,hc,n,hd⟩:=id hl;obtain⟨⟨cls2,Ou,data2,Ov⟩,ho2,hc2,n2,BE⟩:=id hb;simp only at hc hd hc2 BE;subst hc hd hc2 BE;exact richCompare_meets_room (op:=.Lt) ⟨_,ho,rfl⟩ ⟨_,ho2,rfl⟩ PySem.F.slot_tuple_lt PySem.F.entry_tuple_lt (PySem.F.args_tuple_lt_2 _ _) (we l b items kM n n2 dd Ou sl Ov ns ms hi hj)
  ⟨ho,ho2,show Value.bool (lexLt ns ms)≠Value.notImplemented/\Q (.bool (lexLt ns ms)) s from ⟨(λx=>nomatch x),h⟩⟩ hu
theorem cat_tup {t:ZY}{vs ws:List ZF}(ht:IsTup s.heap t vs.toArray)(hb:IsTup s.heap b ws.toArray)(hv:vs≠[])(h1:ws=[]->Q (.ref t) s)(h2:ws≠[]->Q (.ref s.heap.objs.size) {s with heap:=s.heap.push {cls:=.type "tuple",data:=.seq (vs++ws).toArray}})(hsz:vs.length+ws.length<=ZH):Z1 (Z8 prog w) A (acX .Add (.ref t) (.ref b)) Q E s:=by
 obtain⟨⟨cls,dd,data,sl⟩,ho,hc,n,hd⟩:=id ht;obtain⟨⟨cls2,Ou,data2,Ov⟩,ho2,hc2,n2,BE⟩:=id hb;simp only at hc hd hc2 BE;subst hc hd hc2 BE;have e:vs.toArray++ws.toArray=(vs++ws).toArray:=by simp
 by_cases hw:ws=[]
 ·exact concat_meets ⟨_,ho,rfl⟩ ⟨_,ho2,rfl⟩ noFill_tuple_add seq_tuple_add adj ac8 (ac2 _ _)
   (tuple_addW1 t b vs.toArray ws.toArray n n2 dd Ou sl Ov (by simpa using hv) (by simp[hw])) ⟨ho,ho2,h1 hw⟩
 ·refine concat_meets ⟨_,ho,rfl⟩ ⟨_,ho2,rfl⟩ noFill_tuple_add seq_tuple_add adj ac8 (ac2 _ _)
   (tuple_addW2 t b vs.toArray ws.toArray n n2 dd Ou sl Ov (by simpa using hv) (by simpa using hw) (by rw[ZI,ZI];exact hsz)) ⟨ho,ho2,?_⟩
  rw[e];exact h2 hw
noncomputable def sIx (n d:Nat):Option Int->Nat
 |none=>d
 |some v=>if v<0 then (v+(n:Int)).toNat else min v.toNat n
def sIx_none (n d:Nat):sIx n d none=d:=rfl
theorem sIx_nat (n d k:Nat):sIx n d (some (k:Int))=min k n:=by
 show (if (k:Int)<0 then ((k:Int)+(n:Int)).toNat else min (k:Int).toNat n)=min k n;rw[hU (by lia),aau]
theorem O6 (n d:Nat)(hd:d<=n)(o:Option Int):sIx n d o<=n:=by
 cases o with
 |none=>exact hd
 |some v=>
  show (if v<0 then (v+(n:Int)).toNat else min v.toNat n)<=n;by_cases hv:v<0
  ·rw[hV hv];lia
  ·rw[hU hv];exact Nat.min_le_right _ _
theorem Du (v:Int)(n d:Nat):(if v<0 then max (v+(n:Int)) 0 else min v (n:Int))=((sIx n d (some v):Nat):Int):=by
 show (if v<0 then max (v+(n:Int)) 0 else min v (n:Int))=(((if v<0 then (v+(n:Int)).toNat else min v.toNat n):Nat):Int);by_cases hv:v<0
 ·simp only[hV hv];lia
 ·simp only[hU hv];lia
theorem BQ (lo hi:Option Int)(n:Nat):acT lo hi 1 (n:Int)=(((sIx n 0 lo:Nat):Int),((sIx n n hi:Nat):Int)):=by
 have h1:¬((1:Int)<0):=(by lia)
 unfold acT;simp only[h1,if_false];refine Prod.ext ?_ ?_
 ·cases lo with
  |none=>rfl
  |some v=>exact Du v n 0
 ·cases hi with
  |none=>rfl
  |some v=>exact Du v n n
theorem BR (i j:Nat):abU (i:Int) (j:Int) 1=j-i:=by
 unfold abU;have h1:(1:Int)>0:=(by lia)
 simp only[h1,if_true,Int.ediv_one];split<;>lia
theorem t9 {v:ZF}{o:Option Int}{Q:Option Int->ZT->Prop}(p:IsPart v o)(h:Q o s):Z1 (Z8 prog w) A (Builtin.Slice.slicePartIndex v) Q E s:=by
 cases p with
 |none=>exact slicePart_none h
 |int i t=>exact slicePart_int h
theorem kT {sl:ZY}{vl vu:ZF}{lo:Option Int}{Q:Int×Int×Nat->ZT->Prop}(hs:s.heap.IsSliceOf sl vl vu .none)(pl:IsPart vl lo)(pu:IsPart vu hi)(h:Q (((sIx n 0 lo:Nat):Int),1,sIx n n hi-sIx n 0 lo) s):Z1 (Z8 prog w) A (aed (.ref sl) (pure (n:Int))) Q E s:=by
 obtain⟨os,hos,hcs,hds⟩:=id hs;unfold aed Builtin.Slice.sliceFields;refine Zv (Zv (abf hos hds (x:=vl) rfl (Zv (abf hos hds (x:=vu) rfl (Zv (abf hos hds (x:=.none) rfl (Zy ?_)))))));refine Zv (slicePart_none ?_);show Z1 _ _ (if ((1:Int)==0)=true then _ else _) _ _ s;rw[hU (by decide)];refine Zv (t9 pl (Zv (t9 pu (Zv (Zy ?_)))));show Z1 _ _ (match acT lo hi 1 (n:Int) with|(lo,hi)=>pure (lo,(1:Int),abU lo hi 1)) _ _ s;rw[BQ lo hi n];show Z1 _ _ (pure (((sIx n 0 lo:Nat):Int),(1:Int),abU ((sIx n 0 lo:Nat):Int) ((sIx n n hi:Nat):Int) 1)) _ _ s;rw[BR];exact Zy h
theorem G6 (xs:Array ZF)(i k:Nat):((aas k).filterMap λ(m:Nat)=>xs[((i:Int)+(m:Int)*1).toNat]?).toArray=((xs.toList.drop i).take k).toArray:=by
 have e:(λ(m:Nat)=>xs[((i:Int)+(m:Int)*1).toNat]?)=λm=>xs[i+m]? := by
  grind
 rw[e];have:=pick_run xs i k;rw[List.filterMap_map] at this;have e2:((λx=>xs[x]?)∘λx=>i+x)=λm=>xs[i+m]? := rfl;lia
theorem getItem_tuple_cut {t sl:ZY}{vl vu:ZF}{lo:Option Int}(ht:IsTup s.heap t items)(hs:s.heap.IsSliceOf sl vl vu .none)(pl:IsPart vl lo)(pu:IsPart vu hi)(hw:¬(sIx items.size 0 lo=0/\sIx items.size items.size hi=items.size))(h:Q (.ref s.heap.objs.size) {s with heap:=s.heap.push {cls:=.type "tuple",data:=.seq ((items.toList.drop (sIx items.size 0 lo)).take (sIx items.size items.size hi-sIx items.size 0 lo)).toArray}})(hsz:items.size<=ZH):Z1 (Z8 prog w) A (ad5 (.ref t) (.ref sl)) Q E s:=by
 have E2:sizeOk (.seq ((items.toList.drop (sIx items.size 0 lo)).take (sIx items.size items.size hi-sIx items.size 0 lo)).toArray):=by
  show ((items.toList.drop (sIx items.size 0 lo)).take (sIx items.size items.size hi-sIx items.size 0 lo)).toArray.size<=ZH;rw[ZI,abx,acm,Z5];lia
 have hj:sIx items.size items.size hi<=items.size:=O6 _ _ (ZP _) hi;obtain⟨os,hos,hcs,hds⟩:=id hs;have VP:s.TypeIs (.ref sl) "slice":=⟨os,hos,hcs⟩;unfold ad5
 try with_reducible refine aaW ?_
 first|refine Zv (Zy ?_)|skip
 refine Zv (wpAny_sequenceKey ht.typeIs (by decide) ?_);refine Zv (aaw (name:=ZL "__getitem__") ht.typeIs abl
  (aav abl ht.typeIs entry_tuple_getitem ?_ (args_tuple_getitem _ _)))
 show Z1 _ _ (acQ (.ref t) >>= _) _ _ s;refine Zv (tupleItemsOf_ ht ?_);refine Zv (aeq VP ?_);rw[hV (by decide)];refine Zv (kT hs pl pu ?_);have VQ:¬((((sIx items.size 0 lo:Nat):Int)==0&&(1:Int)==1&&(sIx items.size items.size hi-sIx items.size 0 lo)==items.size)=true):=by
  intro q;rw[Z3,Z3] at q;have q1:((sIx items.size 0 lo:Nat):Int)=0:=eq_of_beq q.1.1;have q2:sIx items.size items.size hi-sIx items.size 0 lo=items.size:=eq_of_beq q.2;exact hw ⟨(by lia),(by lia)⟩
 show Z1 _ _ (if (((sIx items.size 0 lo:Nat):Int)==0&&(1:Int)==1&&(sIx items.size items.size hi-sIx items.size 0 lo)==items.size)=true then _ else _) _ _ s;rw[hU VQ,G6]
 first
  |exact Zv (m:=ab2 _) (aat (Zy ⟨_,rfl,Zy h⟩) E2)
  |exact Zv (m:=ab2 _) (aat (Zv (Zy (Zy ⟨_,rfl,Zy h⟩))) E2)
  |exact Zv (Zv (m:=ab2 _) (aat (Zy (Zy ⟨_,rfl,Zy h⟩)) E2))
  |exact Zv (Zv (m:=ab2 _) (aat (Zy ⟨_,rfl,Zy h⟩) E2))
end
end HT
namespace L2
abbrev TO:=St->Hp->(Option Int->Hp->Prop)->Prop
def PO (X:Cx)(e:Option abd)(t:TO):Prop:=
 ∀(pins:List (ZY×Obj)) (s:ZT) (σ:St) (H:Hp) (Q:Option Int->Hp->Prop),aN X pins σ H s->t σ H Q->
  Z1 (Z8 X.prog X.w) X.A (evalPart e X.env) (λu s'=>∃o H',aN X pins σ H' s'/\IsPart u o/\Q o H') X.xe s
def K4:TO:=λ_ H Q=>Q none H
def Rv (t:TE):TO:=λσ H Q=>t σ H λx H1=>∃i,x=.int i/\Q (some i) H1
theorem eR:∀{us:List ZF},bw (ns.map V.int) us->abA us ns:=by
 induction ns with
 |nil=>intro us r;rw[abj] at r;cases r;exact .nil
 |cons n ns ih=>
  intro us r;rw[ZR] at r;cases r with
  |cons r1 r2=>
   obtain⟨t,e⟩:=r1;subst e;exact .cons n t (ih r2)
section
variable {e:abd}{lo hi:Option abd}{tl th:TO}{p2:Pos}
def K5:PO X none K4:=by
 intro pins s σ H Q I h;rw[evalPart_none];exact Zy ⟨none,H,I,.none,h⟩
theorem K6 (h:PE X e te):PO X (some e) (Rv te):=by
 intro pins s σ H Q I hw;rw[evalPart_some];refine eK (h pins s σ H _ I hw) λu s1 ⟨x,H1,I1,r1,q1⟩=>?_;obtain⟨i,rfl,q⟩:=q1;obtain⟨t,rfl⟩:=r1;exact⟨some i,H1,I1,.int i t,q⟩
def G7 (X:Cx)(r:V->Option Int->Option Int->Hp->VK->Prop):Prop:=
 ∀(pins:List (ZY×Obj)) (s:ZT) (σ:St) (H:Hp) (x:V) (v vl vu:ZF) (lo hi:Option Int) (sl:ZY) (Q:VK),aN X pins σ H s->bA x v->s.heap.IsSliceOf sl vl vu .none->IsPart vl lo->IsPart vu hi->r x lo hi H Q->
  ∃T id,typeLookup (.type T) "__getitem__"=pure (some (.builtin id))/\s.TypeIs v T/\Z1 (Z8 X.prog X.w) X.A (ad5 v (.ref sl)) (EP X pins σ Q) X.xe s
theorem G7.or {r r':V->Option Int->Option Int->Hp->VK->Prop}(h:G7 X r)(h':G7 X r'):G7 X (λx lo hi H Q=>r x lo hi H Q\/r' x lo hi H Q):=by
 intro pins s σ H x v vl vu lo hi sl Q I rx hs pl pu q;rcases q with q|q
 ·exact h pins s σ H x v vl vu lo hi sl Q I rx hs pl pu q
 ·exact h' pins s σ H x v vl vu lo hi sl Q I rx hs pl pu q
def Xv (r:V->Option Int->Option Int->Hp->VK->Prop)(te:TE)(tl th:TO):TE:=λσ H Q=>te σ H λx H1=>tl σ H1 λl H2=>th σ H2 λu H3=>r x l u H3 Q
theorem G8 {r:V->Option Int->Option Int->Hp->VK->Prop}(hr:G7 X r)(he:PE X e te)(hl:PO X lo tl)(hu:PO X hi th):PE X (.Subscript e (.Slice lo hi none p2) pos) (Xv r te tl th):=by
 intro pins s σ H Q I h;refine Subscript_ (eK (he pins s σ H _ I h) λv s1 ⟨x,H1,I1,r1,q1⟩=>?_);refine wpAny_Slice (eK (hl pins s1 σ H1 _ I1 q1) λvl s2 ⟨l,H2,I2,pl,q2⟩=>eK (hu pins s2 σ H2 _ I2 q2) λvu s3 ⟨u,H3,I3,pu,q3⟩=>?_);rw[evalPart_none];refine Zy ?_;have I4:aN X pins σ H3 {s3 with heap:=s3.heap.push {cls:=.type "slice",data:=.fields (List.toArray [vl,vu,.none])}}:=I3.kept (t':=s3.toks) λb ob q=>Zx _ q;obtain⟨T,id,hT,ht,hg⟩:=hr pins {s3 with heap:=s3.heap.push {cls:=.type "slice",data:=.fields (List.toArray [vl,vu,.none])}} σ H3 x v vl vu l u s3.heap.objs.size Q I4 r1 (Heap.IsSliceOf.new ..) pl pu q3;show Z1 (Z8 X.prog X.w) X.A (subscriptTail e (.Slice lo hi none p2) v (.ref s3.heap.objs.size)) (EP X pins σ Q) X.xe {s3 with heap:=s3.heap.push {cls:=.type "slice",data:=.fields (List.toArray [vl,vu,.none])}};exact tail_any (ops:=[.ref s3.heap.objs.size,v]) ht hT hg (by with_unfolding_all rfl)
noncomputable def t_ (xs:List V)(lo hi:Option Int):List V:=(xs.drop (HT.sIx xs.length 0 lo)).take (HT.sIx xs.length xs.length hi-HT.sIx xs.length 0 lo)
theorem rM (xs:List V)(lo hi:Option Int):(t_ xs lo hi).length<=xs.length:=by
 unfold t_;rw[abx,acm];lia
def Rx (K:ZD):V->Option Int->Option Int->Hp->VK->Prop:=λx lo hi H Q=>∃a xs,x=.ref a/\jj K H a xs/\
 ¬(HT.sIx xs.length 0 lo=0/\HT.sIx xs.length xs.length hi=xs.length)/\∀p,H p=none->Q (.ref p) (cE H p (.tup (t_ xs lo hi)))
theorem O7:G7 X (Rx X.K):=by
 intro pins s σ H x v vl vu lo hi sl Q I rx hs pl pu h;obtain⟨a,xs,rfl,hx,hw,q⟩:=h;cases rx;obtain⟨its,r,ht,hz⟩:=I.tuple hx;have jD:its.toArray.size=xs.length:=by rw[ZI];exact r.length.symm
 refine⟨"tuple",_,PyProof.Rows.slot_tuple_getitem.lookup,ht.typeIs,?_⟩;refine HT.getItem_tuple_cut ht hs pl pu (by rw[jD];exact hw) ?_ (by rw[jD];exact hz);rw[jD];refine⟨.ref s.heap.objs.size,_,I.laid (t':=s.toks) (o:=.tup (t_ xs lo hi)) (λb ob q=>Zx _ q) (ZP _) ?_,rfl,q _ (I.hok.fresh (ZP _))⟩;exact⟨aaz (rM xs lo hi) hz,_,(r.drop (HT.sIx xs.length 0 lo)).take (HT.sIx xs.length xs.length hi-HT.sIx xs.length 0 lo),IsTup.new _ _,_,ZQ _ rfl⟩
def Ry (K:ZD):R2:=λx y H Q=>∃a b xs ys,x=.ref a/\y=.ref b/\jj K H a xs/\jj K H b ys/\xs≠[]/\xs.length+ys.length<=ZH/\
 (ys=[]->Q (.ref a) H)/\(ys≠[]->∀p,H p=none->Q (.ref p) (cE H p (.tup (xs++ys))))
theorem bw.nil_iff {us:List ZF}(r:bw xs us):us=[]↔xs=[]:=by
 cases r with
 |nil=>simp
 |cons _ _=>simp
theorem K7:l6 X (acX .Add) (Ry X.K):=by
 intro pins s σ H x y v u Q I rx ry h;obtain⟨a,b,xs,ys,rfl,rfl,ha,hb,hx,hz,q1,q2⟩:=h;cases rx;cases ry;obtain⟨its,r1,p1,_⟩:=I.tuple ha;obtain⟨its2,r2,p2,_⟩:=I.tuple hb;refine HT.cat_tup p1 p2 (λz=>hx (r1.nil_iff.mp z)) (λz=>⟨.ref a,H,I,rfl,q1 (r2.nil_iff.mp z)⟩) (λz=>?_) (by rw[←r1.length,←r2.length];exact hz);refine⟨.ref s.heap.objs.size,_,I.laid (t':=s.toks) (o:=.tup (xs++ys)) (λb ob q=>Zx _ q) (ZP _) ?_,rfl,q2 (λw=>z (r2.nil_iff.mpr w)) _ (I.hok.fresh (ZP _))⟩;exact⟨by rw[ZJ];exact hz,_,r1.append r2,IsTup.new _ _,_,ZQ _ rfl⟩
end
end L2
namespace L2
noncomputable def zK (n:Nat)(i:Int):Option Nat:=if 0<=i then (if i<n then some i.toNat else none) else if -(n:Int)<=i then some (i+n).toNat else none
noncomputable def mx {α:Type}(xs:List α)(i:Int):Option α:=(zK xs.length i).bind λj=>xs[j]?
theorem Dv {i:Int}(h:zK n i=some j):aeG i n=some j/\j<n/\ -(n:Int)<=i/\i<n:=by
 unfold zK at h;by_cases h0:0<=i
 ·rw[hV h0] at h;by_cases h1:i<n
  ·rw[hV h1] at h;have e:i.toNat=j:=Z0 h;exact⟨by rw[seqIndex_of h0 h1,e],(by lia),(by lia),h1⟩
  ·rw[hU h1] at h;cases h
 ·rw[hU h0] at h;by_cases h1 : -(n:Int)<=i
  ·rw[hV h1] at h;grind[Z0,seqIndex_neg]
  ·rw[hU h1] at h;cases h
theorem x9 {α:Type}{xs:List α}{i:Int}{v:α}(h:mx xs i=some v):∃j,aeG i xs.length=some j/\xs[j]? = some v/\j<xs.length/\ -(xs.length:Int)<=i/\i<xs.length:=by
 unfold mx at h;cases e:zK xs.length i with
 |none=>rw[e] at h;cases h
 |some j=>
  rw[e] at h;obtain⟨h1,h2,h3,h4⟩:=Dv e;exact⟨j,h1,h,h2,h3,h4⟩
def Dx (b:abd):Prop:=∀o i,subscripted b false o i=operate [o,i] (ad5 o i)
def Kv (X:Cx)(r:R2):Prop:=
 ∀(value slice:abd) (pins:List (ZY×Obj)) (s:ZT) (σ:St) (H:Hp) (x y:V) (v u:ZF) (Q:VK),aN X pins σ H s->bA x v->bA y u->r x y H Q->
  subscripted slice false v u=operate [v,u] (ad5 v u)->Z1 (Z8 X.prog X.w) X.A (subscriptTail value slice v u) (EP X pins σ Q) X.xe s
def MT (X:Cx)(id:String)(r:V->List V->Hp->VK->Prop):Prop:=
 ∀(pins:List (ZY×Obj)) (s:ZT) (σ:St) (H:Hp) (x:V) (xs:List V) (v:ZF) (us:List ZF) (Q:VK),aN X pins σ H s->bA x v->bw xs us->r x xs H Q->
  Z1 (Z8 X.prog X.w) X.A (call (.builtin id) (v::us)) (EP X pins σ Q) X.xe s
section
variable {a b:abd}{ta tb:TE}
theorem Kv.or (h:Kv X r)(h':Kv X r'):Kv X (λx y H Q=>r x y H Q\/r' x y H Q):=by
 intro value slice pins s σ H x y v u Q I rx ry q hs;rcases q with q|q
 ·exact h value slice pins s σ H x y v u Q I rx ry q hs
 ·exact h' value slice pins s σ H x y v u Q I rx ry q hs
theorem MT.or {id:String}{r r':V->List V->Hp->VK->Prop}(h:MT X id r)(h':MT X id r'):MT X id (λx xs H Q=>r x xs H Q\/r' x xs H Q):=by
 intro pins s σ H x xs v us Q I rx rs q;rcases q with q|q
 ·exact h pins s σ H x xs v us Q I rx rs q
 ·exact h' pins s σ H x xs v us Q I rx rs q
def Rz (hr:Kv X r)(ha:PE X a ta)(hb:PE X b tb)(hs:Dx b):PE X (.Subscript a b pos) (Rj r ta tb):=by
 intro pins s σ H Q I h;exact Subscript_ (O2 ha hb I h λv u s2 x y H2 I2 rx ry q=>hr a b pins s2 σ H2 x y v u Q I2 rx ry q (hs _ _))
def RA (K:ZD):R2:=λx y H Q=>∃p xs i v,x=.ref p/\y=.int i/\gD K H p xs/\mx xs i=some v/\Q v H
def RB (K:ZD):R2:=λx y H Q=>∃p xs i v,x=.ref p/\y=.int i/\jj K H p xs/\mx xs i=some v/\Q v H
def RC:R2:=λx y H Q=>∃z i c,x=.str z/\y=.int i/\z.length<=ZH/\mx z.cps.toList i=some c/\Q (.str ⟨(List.toArray [c])⟩) H
theorem K8:Kv X (RA X.K):=by
 intro value slice pins s σ H x y v u Q I rx ry h hs;obtain⟨p,xs,i,z,rfl,rfl,hq,he,q⟩:=h;cases rx;obtain⟨t,rfl⟩:=ry;obtain⟨its,r,pl,hz⟩:=I.list hq;obtain⟨j,h1,h2,h3,h4,h5⟩:=x9 he;obtain⟨w,ew,BB⟩:=r.get h2;have hl:=r.length;have hn:=tZ;have fin:EP X pins σ Q w s:=⟨z,H,I,BB,q⟩;by_cases h0:0<=i
 ·have hj:i.toNat=j:=by
   rw[seqIndex_of h0 h5] at h1;exact Z0 h1
  exact item_listR pl.isList h0 (by lia) (by rw[hj];simpa using ew) fin hs
 ·have hj:(i+(its.toArray.size:Int)).toNat=j:=by
   rw[seqIndex_neg (by lia) h4] at h1;rw[ZI,←hl];exact Z0 h1
  exact subscriptTail_builtinR (x:=w) pl.isList.typeIs slot_list_getitem.lookup
   (wpAny_getItem_list_neg (Q:=λr s'=>r=w/\EP X pins σ Q r s') pl.isList (by lia) (by rw[ZI]<;>lia) (by lia) (by rw[hj];simpa using ew) ⟨rfl,fin⟩) hs
theorem O8:Kv X (RB X.K):=by
 intro value slice pins s σ H x y v u Q I rx ry h hs;obtain⟨p,xs,i,z,rfl,rfl,hq,he,q⟩:=h;cases rx;obtain⟨t,rfl⟩:=ry;obtain⟨its,r,pl,hz⟩:=I.tuple hq;obtain⟨j,h1,h2,h3,h4,h5⟩:=x9 he;obtain⟨w,ew,BB⟩:=r.get h2;have hl:=r.length;have hn:=tZ;have fin:EP X pins σ Q w s:=⟨z,H,I,BB,q⟩;exact subscriptTail_builtinR (x:=w) pl.typeIs slot_tuple_getitem.lookup
  (getItem_tuple (j:=j) (Q:=λr s'=>r=w/\EP X pins σ Q r s') pl (by lia) (by lia) (by rw[ZI,←hl];exact h1) (by simpa using ew) ⟨rfl,fin⟩) hs
theorem O9:Kv X RC:=by
 intro value slice pins s σ H x y v u Q I rx ry h hs;obtain⟨z,i,c,rfl,rfl,hz,he,q⟩:=h;obtain⟨t,rfl⟩:=rx;obtain⟨t',rfl⟩:=ry;obtain⟨j,h1,h2,h3,h4,h5⟩:=x9 he;have hl:z.cps.toList.length=z.length:=by rfl
 rw[hl] at h1 h4 h5;have hn:=tZ;exact tail_any (typeIs_str s z t) slot_str_getitem.lookup (getItem_str (c:=c) (by
  lia) (by rw[h1];simpa using h2) ⟨.str ⟨(List.toArray [c])⟩,H,I.tok _,⟨_,rfl⟩,q⟩) hs
def WC (K:ZD):R2:=λx y H Q=>RA K x y H Q\/RB K x y H Q\/RC x y H Q
def au:Kv X (WC X.K):=K8.or (O8.or O9)
def BS (its:List ZF)(n j:Nat)(u:ZF):acK (·.setIfInBounds j u) {cls:=.type "list",data:=.seq its.toArray n}={cls:=.type "list",data:=.seq (its.set j u).toArray n}:=by
 simp[acK]
theorem aN.lst {p:ZY}(I:aN X pins σ H s)(h:H p=some (.lst xs)) :
  ∃(its:List ZF) (n:Nat),bw xs its/\s.heap.get? p=some {cls:=.type "list",data:=.seq its.toArray n}/\xs.length<=ZH:=by
 obtain⟨z,its,n,r,e⟩:=I.hok p _ h;exact⟨its,n,r,e,z⟩
def aN.lstUpd {p:ZY}{ys:List V}{its':List ZF}{n':Nat}{f:Obj->Obj}(I:aN X pins σ H s)(h:H p=some (.lst xs))(ho:s.heap.get? p=some {cls:=.type "list",data:=.seq its.toArray n})(hf:f {cls:=.type "list",data:=.seq its.toArray n}={cls:=.type "list",data:=.seq its'.toArray n'})(r:bw ys its')(hz:ys.length<=ZH)(t:Nat) :
  aN X pins σ (cE H p (.lst ys)) {s with heap:=s.heap.update p f,toks:=t}:=by
 have e:(s.heap.update p f).get? p=some {cls:=.type "list",data:=.seq its'.toArray n'}:=by
  rw[aa_ f ho (by rw[hf]<;>rfl),hf]
 refine I.write (x:=p) (e:=p) (by rw[h];trivial) (.inl rfl) (λb u hb q=>(Heap.get?_update_other _ _ (Ne.symm hb)).trans q) ⟨_,e⟩ ?_;exact⟨hz,its',n',r,e⟩
def RD:V->V->V->Hp->(Hp->Prop)->Prop:=λo i v H Q=>∃p xs k j,o=.ref p/\i=.int k/\H p=some (.lst xs)/\zK xs.length k=some j/\Q (cE H p (.lst (xs.set j v)))
theorem G9:Rf X RD:=by
 intro pins s σ H o i v ov iv u Q I ro ri rv h;obtain⟨p,xs,k,j,rfl,rfl,hp,hj,q⟩:=h;cases ro;obtain⟨t,rfl⟩:=ri;obtain⟨its,n,r,ho,hz⟩:=I.lst hp;obtain⟨h1,h2,h3,h4⟩:=Dv hj;have hl:=r.length;have hn:=tZ;have I':aN X pins σ (cE H p (.lst (xs.set j v))) {s with heap:=s.heap.update p (acK (·.setIfInBounds j u))}:=
  I.lstUpd hp ho (BS its n j u) (r.set rv j) (by rw[aaF];exact hz) s.toks
 by_cases h0:0<=k
 ·have hk:k.toNat=j:=by
   rw[seqIndex_of h0 h4] at h1;exact Z0 h1
  exact PySem.W.ki_setAt ho h0 (by lia) (by rw[ZI,←hl];exact h4) (by rw[hk];exact⟨_,I',q⟩)
 ·have hk:(k+(its.toArray.size:Int)).toNat=j:=by
   rw[seqIndex_neg (by lia) h3] at h1;rw[ZI,←hl];exact Z0 h1
  exact PySem.W.ki_setBack ho (by lia) (by rw[ZI,←hl];exact h3) (by lia) (by rw[hk];exact⟨_,I',q⟩)
theorem x_ (lo hi:Option Int)(n:Nat):(adp lo hi none n).1=((HT.sIx n 0 lo:Nat):Int)/\(adp lo hi none n).2.1=((HT.sIx n n hi:Nat):Int)/\(adp lo hi none n).2.2=1:=by
 refine⟨?_,?_,rfl⟩
 ·cases lo with
  |none=>simp[adp,HT.sIx]
  |some i=>
   simp only[adp,HT.sIx,acY,show (1:Int)>0 by decide,if_true];by_cases h:i<0
   ·simp only[h,if_true]<;>lia
   ·simp only[h,if_false]<;>lia
 ·cases hi with
  |none=>simp[adp,HT.sIx]
  |some i=>
   simp only[adp,HT.sIx,acY,show (1:Int)>0 by decide,if_true];by_cases h:i<0
   ·simp only[h,if_true]<;>lia
   ·simp only[h,if_false]<;>lia
theorem wg (its:List ZF)(lo hi:Option Int):slicePick its.toArray lo hi none=((its.drop (HT.sIx its.length 0 lo)).take (HT.sIx its.length its.length hi-HT.sIx its.length 0 lo)).toArray:=by
 obtain⟨h1,h2,h3⟩:=x_ lo hi its.toArray.size;unfold slicePick;rw[h1,h2,h3];simp only[sliceRange_one,pick_run,ZI]<;>rfl
def K9 (K:ZD):V->Option Int->Option Int->Hp->VK->Prop:=λx lo hi H Q=>∃a xs,x=.ref a/\gD K H a xs/\∀p,H p=none->Q (.ref p) (cE H p (.lst (t_ xs lo hi)))
theorem K_:G7 X (K9 X.K):=by
 intro pins s σ H x v vl vu lo hi sl Q I rx hs pl pu h;obtain⟨a,xs,rfl,hx,q⟩:=h;cases rx;obtain⟨its,r,ht,hz⟩:=I.list hx;have jD:=r.length;refine⟨"list",_,slot_list_getitem.lookup,ht.isList.typeIs,?_⟩;refine wpAny_getItem_list_slice ht.isList hs pl pu .none (by simp) ?_ (by rw[ZI]<;>lia);rw[wg,←jD];refine⟨.ref s.heap.objs.size,_,I.laid (t':=s.toks) (o:=.lst (t_ xs lo hi)) (λb ob q=>Zx _ q) (ZP _) ?_,rfl,q _ (I.hok.fresh (ZP _))⟩;exact⟨aaz (rM xs lo hi) hz,_,0,(r.drop (HT.sIx xs.length 0 lo)).take (HT.sIx xs.length xs.length hi-HT.sIx xs.length 0 lo),ZQ _ rfl⟩
theorem di:ez X (.type "tuple") (λxs H Q=>∃p ys,xs=[.ref p]/\((gD X.K H p ys/\∀l,H l=none->Q (.ref l) (cE H l (.tup ys)))\/(jj X.K H p ys/\Q (.ref p) H))):=by
 intro pins s σ H xs us Q I r h;obtain⟨p,ys,rfl,h⟩:=h;obtain⟨u,rfl,rx⟩:=i0 r;cases rx;rcases h with⟨hq,q⟩|⟨hq,q⟩
 ·obtain⟨its,r',pl,hz⟩:=I.list hq;have jD:=r'.length;refine call_tuple_list pl.isList (λh' kp=>?_) (by simp only[ZI]<;>lia);have I1:aN X pins σ H {s with heap:=h'}:=I.kept (t':=s.toks) kp;have I2:aN X pins σ (cE H h'.objs.size (.tup ys)) {s with heap:=h'.push {cls:=.type "tuple",data:=.seq its.toArray}}:=
   I1.laid (t':=s.toks) (λb o e=>Zx _ e) (ZP _) (show bT X.prog X.w _ _ _ (.tup ys) from ⟨hz,its,r',IsTup.new _ _,_,ZQ _ rfl⟩)
  exact⟨.ref h'.objs.size,_,I2,rfl,q _ (I1.hok.fresh (ZP _))⟩
 ·obtain⟨its,r',pl,hz⟩:=I.tuple hq;exact call_tuple_same pl ⟨.ref p,H,I,rfl,q⟩
def U_ (K:ZD)(T:String)(x:V)(H:Hp):Prop:=match x with
 | .str _=>T="str"
 | .int _=>T="int"
 | .ref p=>(T="list"/\∃xs,gD K H p xs)\/(T="tuple"/\((∃o,K.lookup p=some o/\o.cls=.type "tuple"/\o.dict=none)\/∃xs,H p=some (.tup xs))) \/
   (T="dict"/\((∃bE,H p=some (.dK bE))\/∃bE,H p=some (.dT bE)))\/(T="set"/\∃S n,H p=some (.set S n))
 |_=>False
theorem O_ {x:V}{v:ZF}(I:aN X pins σ H s)(r:bA x v)(ty:U_ X.K T x H) :
  s.TypeIs v T/\∀a,v=.ref a->∃ob,s.heap.get? a=some ob/\ob.dict=none:=by
 cases x with
 |str z=>
  obtain⟨t,rfl⟩:=r;cases (show T="str" from ty);exact⟨typeIs_str s z t,λ_ e=>nomatch e⟩
 |int i=>
  obtain⟨t,rfl⟩:=r;cases (show T="int" from ty);exact⟨typeIs_int s i t,λ_ e=>nomatch e⟩
 |ref p=>
  cases r;rcases ty with⟨rfl,xs,hq⟩|⟨rfl,⟨o,hk,hc,hd⟩|⟨xs,hq⟩⟩|⟨rfl,hk⟩|⟨rfl,S,n,hk⟩
  ·obtain⟨its,_,pl,_⟩:=I.list hq;refine⟨pl.isList.typeIs,λa e=>?_⟩;cases e;obtain⟨o,n,e,c,hd,_⟩:=pl;exact⟨o,e,hd⟩
  ·refine⟨⟨o,I.kIn p o hk,hc⟩,λa e=>?_⟩;cases e;exact⟨o,I.kIn _ o hk,hd⟩
  ·obtain⟨_,its,_,⟨o,e,c,_⟩,n2,e2⟩:=I.hok p _ hq;refine⟨⟨o,e,c⟩,λa e'=>?_⟩;cases e';exact⟨_,e2,rfl⟩
  ·have z:∃o,s.heap.get? p=some o/\o.ExactDict:=by
    rcases hk with⟨bE,hk⟩|⟨bE,hk⟩
    ·obtain⟨_,_,_,_,o,_,_,e,ex,_⟩:=I.hok p _ hk;exact⟨o,e,ex⟩
    ·obtain⟨_,_,_,_,o,_,_,e,ex,_⟩:=I.hok p _ hk;exact⟨o,e,ex⟩
   obtain⟨o,e,ex⟩:=z;refine⟨⟨o,e,ex.1⟩,λa e2=>?_⟩;cases e2;exact⟨o,e,ex.2.1⟩
  ·obtain⟨o,_,_,_,e,ex,_⟩:=I.hok p _ hk;refine⟨⟨o,e,ex.1⟩,λa e2=>?_⟩;cases e2;exact⟨o,e,ex.2.1⟩
 |_=>exact acI ty
def WD (K:ZD)(T:String)(r:V->List V->Hp->VK->Prop)(to:TE)(t:TA):TE:=λσ H Q=>to σ H λx H1=>U_ K T x H1/\t σ H1 λxs H2=>r x xs H2 Q
variable {o e:abd}{es:List abd}{to:TE}{t:TA}{name:Str}{jc cpos:Pos}{id:String}{r:V->List V->Hp->VK->Prop}
theorem MU (pa:PlainAttrs T)(slot:Slot T name id)(VR:typeOf (.builtin id)=pure (.type "method_descriptor"))(hm:MT X id r)(ho:PE X o to)(ha:PA X (e::es) t)
  (Bz:ac9 o name X.env (acP o X.env)=acP o X.env:=by rfl)
  (Kj:((abL cpos (ZX (e::es) X.env)).all (λx=> !x.1)&&(backToKw cpos (ad6 [] X.env)).all (λx=>x.1.isSome)
   && decide ((e::es).length+([]:List adH).length+(if ([]:List adH).isEmpty then 0 else 1)<30))=true:=by rfl)
  (BA:(jc.endLine==cpos.line)=true:=by rfl) (hs:ZX (e::es) X.env=(false,acP e X.env)::ZX es X.env:=by rfl) (vY:(abL cpos (ZX es X.env)).any (·.1)=false:=by rfl) :
  PE X (.Call (.Attribute o name jc) (e::es) [] cpos) (WD X.K T r to t):=by
 intro pins s σ H Q I h;refine wpAny_Call_method_late Bz Kj BA rfl (eK (ho pins s σ H _ I h) λv s1 ⟨x,H1,I1,r1,ty,q1⟩=>?_);obtain⟨h1,h2⟩:=O_ I1 r1 ty;refine⟨T,id,pa,slot,VR,h1,h2,?_⟩;have hA:=ha cpos pins s1 σ H1 _ I1 q1;rw[hs] at hA ⊢;refine Calls.callWith_builtin (by show (false||(abL cpos (ZX es X.env)).any (·.1))=false;rw[vY]<;>rfl) (Calls.evalArgs_plain ?_);exact eK hA λus s2 ⟨vs,H2,I2,r2,q2⟩=>hm pins s2 σ H2 x vs v us Q I2 r1 r2 q2
end
end L2
namespace L2
def Va (X:Cx)(id:String)(r:V->List V->Hp->VK->Prop):Prop:=
 ∀(pins:List (ZY×Obj)) (s:ZT) (σ:St) (H:Hp) (x:V) (xs:List V) (v:ZF) (us:List ZF) (Q:VK),aN X pins σ H s->bA x v->bw xs us->r x xs H Q->
  Z1 (Z8 X.prog X.w) X.A (call (.builtin id) (v::us)) (EP X pins σ Q) X.xe s
def bw.one:∀{x:V} {us:List ZF},bw [x] us->∃u,us=[u]/\bA x u
 |_,_,.cons r .nil=>⟨_,rfl,r⟩
theorem bw.eraseIdx:∀{xs:List V} {us:List ZF} (i:Nat),bw xs us->bw (xs.eraseIdx i) (us.eraseIdx i)
 |_,_,_,.nil=>.nil
 |_,_,0,.cons _ t=>t
 |_,_,i+1,.cons r t=>.cons r (bw.eraseIdx i t)
theorem xg {α:Type}:∀(l:List α) (i:Nat),(l.eraseIdx i).length<=l.length
 | [],_=>ZP _
 |_::_,0=>Nat.le_succ _
 |_::r,i+1=>Nat.succ_le_succ (xg r i)
section
variable {l:ZY}{ys zs:List V}
def aN.lset {t':Nat}{its':List ZF}{f:Array ZF->Array ZF}(I:aN X pins σ H s)(hH:H l=some (.lst xs))(e:s.heap.get? l=some {cls:=.type "list",data:=.seq its.toArray n})(hf:f its.toArray=its'.toArray)(hv:bw ys its')(hz:ys.length<=ZH) :
  aN X pins σ (cE H l (.lst ys)) {s with heap:=s.heap.update l (acK f),toks:=t'}:=by
 have q:=PySem.IsL.update e f;rw[hf] at q;refine I.write (x:=l) (e:=l) (by rw[hH];exact trivial) (.inl rfl) (λb' u hb hu=>(Heap.get?_update_other s.heap (acK f) (Ne.symm hb)).trans hu) ⟨_,q⟩ ?_;exact⟨hz,its',_,hv,q⟩
def aN.lnew {t':Nat}(I:aN X pins σ H s)(hv:bw ys its)(hz:ys.length<=ZH) :
  aN X pins σ (cE H s.heap.objs.size (.lst ys)) {s with heap:=s.heap.push {cls:=.type "list",data:=.seq its.toArray},toks:=t'}:=
 I.laid (λ_ _ q=>Zx _ q) (ZP _) ⟨hz,its,0,hv,ZQ _ rfl⟩
def aN.fresh (I:aN X pins σ H s):H s.heap.objs.size=none:=I.hok.fresh (ZP _)
theorem aN.lstM (I:aN X pins σ H s)(hH:H l=some (.lst xs)):xs.length<=ZH/\∃(its:List ZF) (n:Nat),bw xs its/\xs.length=its.length/\s.heap.get? l=some {cls:=.type "list",data:=.seq its.toArray n}:=by
 obtain⟨z,its,n,r,e⟩:=I.hok l _ hH;exact⟨z,its,n,r,r.length,e⟩
theorem zL (h:n<=ZH):ab3 n=false:=by
 unfold ab3;exact hJ (by lia)
end
def Dy:V->List V->Hp->VK->Prop:=λx vs H Q=>∃l xs y,x=.ref l/\vs=[y]/\H l=some (.lst xs)/\xs.length<ZH/\Q .non (cE H l (.lst (xs++[y])))
theorem nD:Va X "list.append" Dy:=by
 intro pins s σ H x vs v us Q I rx rv h;obtain⟨l,xs,y,rfl,rfl,hH,hz,q⟩:=h;cases rx;obtain⟨u,rfl,ru⟩:=rv.one;obtain⟨z,its,n,r,hl,e⟩:=I.lstM hH;refine call_meets F.slot_list_append ⟨_,e,rfl⟩ F.entry_list_append (F.args_list_append_2 _ _) (PySem.list_append l its.toArray n u (by rw[ZI];lia)) ⟨e,?_⟩;refine⟨.non,_,I.lset (its':=its++[u]) hH e (by simp) (r.append (.cons ru .nil)) ?_,rfl,q⟩;rw[ZJ,adD];lia
def G_:V->List V->Hp->VK->Prop:=λx vs H Q=>∃l xs i k y,x=.ref l/\vs=[.int i]/\H l=some (.lst xs)/\ -(2 ^ 63)<=i/\i<2 ^ 63/\aeG i xs.length=some k/\xs[k]? = some y/\Q y (cE H l (.lst (xs.eraseIdx k)))
theorem Ha:Va X "list.pop" G_:=by
 intro pins s σ H x vs v us Q I rx rv h;obtain⟨l,xs,i,k,y,rfl,rfl,hH,h1,h2,hk,hy,q⟩:=h;cases rx;obtain⟨u,rfl,ru⟩:=rv.one;obtain⟨t,rfl⟩:=ru;obtain⟨z,its,n,r,hl,e⟩:=I.lstM hH;obtain⟨w,hw,BB⟩:=r.get hy;refine call_meets F.slot_list_pop ⟨_,e,rfl⟩ F.entry_list_pop (F.args_list_pop_2 _ _)
  (MeetsSeq.list_pop_at l its.toArray n i t k w (fitsIndex_both h1 h2) (by grind) (by grind) (by rw[ZI];lia)) ⟨e,?_⟩
 refine⟨y,_,I.lset (its':=its.eraseIdx k) hH e ?_ (r.eraseIdx k) ?_,BB,q⟩
 ·simp
 ·have:=xg xs k;lia
section
variable {A:aar}
set_option maxRecDepth 100000 in
end
end L2
namespace Att
open PySem.W PySem.Calls
theorem sO {P:Params}:∀(ns:List Int) (vs:List ZF),WellAll P h vs (ns.map WData.int)->abA vs ns:=by
 intro ns
 induction ns with
 |nil=>
  intro vs w;rw[abj] at w;cases w;exact .nil
 |cons n ns ih=>
  intro vs w;rw[ZR] at w;cases w with
  |cons a b=>
   cases a;exact .cons _ _ (ih _ b)
theorem Fo {l:OpenLaw}(hn:l.most=some n){P:Params}{args:List WData}{QF:List ZF}(MC:l.row.toRowW.claim.pre args=true)(VS:WellAll P h QF args) :
  ∃a vs ns,QF=[Value.ref a]/\args=[WData.list (ns.map WData.int)]/\h.get? a=some {cls:=.type "list",data:=.seq vs.toArray}/\abA vs ns/\ns.length<=n:=by
 have XU:WShape.hasAll [] args [.list .int]=true:=(pre_splitW MC).1;have hc:l.pre.holds [] {args:=args}=true:=(pre_splitW MC).2;obtain⟨d,r,rfl,h1,h2⟩:=hasAllW_cons XU;obtain rfl:=hasAllW_nil h2;obtain⟨xs,rfl,h3⟩:=hasW_list h1;obtain⟨ns,rfl⟩:=items_int h3;have jD:ns.length<=n:=by
  unfold OpenLaw.pre at hc;have h4:(WTm.not (.lt (.lit (.int (n:Int))) (.len (.arg 0)))).holds [] {args:=[.list (ns.map .int)]}=true:=by
   have h4:=(holds_andW hc).1;rw[hn] at h4;exact h4
  have h5:=condW_of h4 (w_not (w_lt w_lit (w_len_list (w_arg rfl))));rw[Zz] at h5;refine Nat.le_of_not_lt λq=>?_;have q':(n:Int)<((ns.length:Nat):Int):=(by lia)
  first
   | (rw[hG q'] at h5;exact absurd h5 (by decide))
   | (simp at h5;lia)
 cases VS with
 |cons w1 w2=>
  cases w2;cases w1 with
  |list ho Kl=>exact⟨_,_,ns,rfl,rfl,ho,sO ns _ Kl,jD⟩
def Fp (l:OpenLaw)(args:List WData):l.row.toRowW.claim.post args (.bool true) args=true:=
 postW_of (r:=l.row.toRowW) (X:=(true==true))
  (show WShape.has [] (.bool true) .bool=true by rfl)
  (show (WTm.eq .res (.lit (.bool true))).value [] {args:=args,res:=some (.bool true),after:=args}=some (.bool (true==true)) from w_eq_bool (w_res rfl) w_lit) rfl
theorem attach_call {l:OpenLaw}{q:abM}{d:DefRec}(hn:l.most=some n)(Tu:d.params.defaults=[])(call:∀(w:acd) (s₀ s₁:ZT) (mg mb:Str->Option ZF) (fa:ZY) (o:Obj) (pm cd qB:ZF) (a:ZY) (vs:List ZF) (ns:List Int),
   Ground q loose [] XP w s₀ mg mb s₁.heap->YP w s₁.heap->
   s₁.heap.get? fa=some o->o.data=.func (docDef d.name d.params d.body d.scope pm cd qB)->s₁.heap.CodeRec cd d.name->mg d.name=some (.ref fa)->
   s₁.heap.get? a=some {cls:=.type "list",data:=.seq vs.toArray}->abA vs ns->ns.length<=n->s₁.gens=(List.toArray [])->
   codeAny (Z8 l.prog w) callerA (.call (.ref fa) ⟨[.ref a],[]⟩) (λr s'=>r=.ok (.ret (.bool true))/\OldK s₁.heap s'.heap/\s'.os=s₁.os/\AllBare s'.gens) s₁) :
  WalkO q loose XP YP l.row.toRowW d [] (λf vs=>PySem.call f vs):=by
 intro w s₀ s₁ mg mb G Y fa o pm cd qB dV kV ho hd vX hD Tv hg args QF as MC XW Zc VS Zd;obtain rfl:dV=.none:=Dflts.none hD Tu;obtain rfl:kV=.none:=Dflts.noKw hD;obtain⟨a,vs,ns,rfl,rfl,QG,Kk,jD⟩:=Fo hn MC VS;refine enter_call (aem (call w s₀ s₁ mg mb fa o pm cd qB a vs ns G Y ho (fd_plain hd) vX Tv QG Kk jD hg) λr s' hq=>?_);obtain⟨rfl,h2,h3,h4⟩:=hq;exact⟨.inl ⟨.bool true,.bool true,[],rfl,λ_=>rfl,.bool true,Fp l _,λ_=>⟨List.Pairwise.nil,λ_ hm=>(nomatch hm)⟩⟩,h2,h3,h4⟩
end Att
namespace L2
theorem qE:∀{vs:List ZF} {ns:List Int},abA vs ns->bw (ns.map V.int) vs
 |_,_,.nil=>.nil
 |_,_,.cons n t h=>.cons ⟨t,rfl⟩ (qE h)
def La (H:Hp):Prop:=∀b,H b=none\/∃o xs,H b=some (.frz o (.lst xs))
theorem Hb {mb:Str->Option ZF}{fa:ZY}{s₁:ZT}{vs:List ZF}(KX:K.In s₁.heap)(W8:s₁.heap.Ns aag mg)(hb:s₁.heap.Ns builtinsNs mb)(VT:∀x:Str,x≠"__name__"->mb x=aai x)(VU:s₁.heap.NoLimit)(hg:s₁.gens=(List.toArray []))(ha:s₁.heap.get? a=some {cls:=.type "list",data:=.seq vs.toArray})(hi:abA vs ns)(hl:ns.length<=ZH)(hr:gE k callerA)(F:∀base:abT,K.In base->base.Ns aag mg->nZ P w K mg base CX k fa fd [x] sp)(Tw:∀(s:ZT) (u:ZF),BindsTo s fd ⟨[u],[]⟩ [(x,u)])(Ot:∀H:Hp,La H->gD K H a (ns.map V.int)->sp [.ref a] H (λv _=>v=.bl true) λ_ _ _=>False)(VX:∀H e s',CX [] H s₁ (λ_ _ _=>False) e s'->False) :
  codeAny (Z8 P w) callerA (.call (.ref fa) ⟨[.ref a],[]⟩) (λr s'=>r=.ok (.ret (.bool true))/\OldK s₁.heap s'.heap/\s'.os=s₁.os/\AllBare s'.gens) s₁:=by
 have rv:=qE hi;have VY:=hi.length;have Tx:∀H:Hp,La H->gD K H a (ns.map V.int)->mn P w H s₁.heap->(∀b,H b≠none->b=a)->(H a≠none->K.lookup a=none)->
   codeAny (Z8 P w) callerA (.call (.ref fa) ⟨[.ref a],[]⟩) (λr s'=>r=.ok (.ret (.bool true))/\OldK s₁.heap s'.heap/\s'.os=s₁.os/\AllBare s'.gens) s₁:=by
  intro H hO hS hok hA hK;have E3:∀{b:ZY} {o:Obj},s₁.heap.get? b=some o->H b=none->(xV s₁.heap H).get? b=some o:=λe n=>GL e n;have Tq:∀{b:ZY} {o:Obj} {es:Array aeO} {ep:Nat},s₁.heap.get? b=some o->o.data=.dict es ep->H b=none:=λ{b o es ep} e d=>by
   grind
  have UC:∀{b:ZY} {m:Str->Option ZF},s₁.heap.Ns b m->(xV s₁.heap H).Ns b m:=λ{b m} ⟨o,es,ep,e,d,r⟩=>⟨o,es,ep,E3 e (Tq e d),d,r⟩;have W9:K.In (xV s₁.heap H):=λb o e=>E3 (KX b o e) (by
   grind)
  have hM:Mod K mg (xV s₁.heap H):=⟨W9,UC W8,⟨mb,UC hb,VT⟩,let ⟨mc,h1,h2⟩:=VU;⟨mc,UC h1,h2⟩⟩;have e0:K2 P w K mg (xV s₁.heap H) callerA [] s₁ H:=⟨rfl,hM,λb o e=>KN e,Nat.le_of_eq (E_ _ _),trivial,λb hb=>absurd (show b∈([]:List ZY) from hb) (by simp),hok,.of_eq hg⟩;refine aem ((F _ W9 (UC W8)).run callerA [] s₁ H ⟨[.ref a],[]⟩ [.ref a] [.ref a] _ _ hr e0 (Tw s₁ (.ref a)) (.cons rfl .nil) (Ot H hO hS)) λr s' h=>?_;cases r with
  |error e=>exact (VX H e s' h).elim
  |ok fl=>
   cases fl with
   |next=>exact acI h
   |brk=>exact acI h
   |cont=>exact acI h
   |ret u=>
    obtain⟨v,H',os,bare,un,hok',r',q⟩:=h;have q':v=.bl true:=q;subst q';obtain rfl:u=Value.bool true:=r';refine⟨rfl,OldK.of_keep λb o e=>?_,os,bare⟩;cases q:H b with
    |none=>exact un.keep b o e q (by intro z;exact absurd (show b∈([]:List ZY) from z) (by simp)) (by simp)
    |some u=>
     rcases hO b with z|⟨ob,xs,z⟩
     ·lia
     ·have z2:=un.frzs b ob _ z;obtain⟨e1,_⟩:=hok b _ z;obtain⟨e2,_⟩:=hok' b _ z2;lia
 cases hk:K.lookup a with
 |some o=>
  have e:=KX a o hk;rw[ha] at e;cases e;refine Tx (λ_=>none) (λ_=>.inl rfl) (.inr ⟨_,vs.toArray,_,hk,rfl,rfl,rfl,by rw[ZI,VY];exact hl,by simpa using rv⟩) (λb u z=>by lia) (λb z=>absurd rfl z) λz=>absurd rfl z
 |none=>
  refine Tx (λb=>if b=a then some (.frz {cls:=.type "list",data:=.seq vs.toArray} (.lst (ns.map V.int))) else none) (λb=>?_) (.inl (.inr ⟨{cls:=.type "list",data:=.seq vs.toArray},hV rfl⟩)) (λb u z=>?_) (λb z=>?_) λ_=>hk
  ·grind
  ·by_cases hb:b=a
   ·have z':=(hV hb).symm.trans z;cases z';subst hb;exact⟨ha,by rw[Zz];exact hl,vs,_,rv,ha⟩
   lia
  lia
end L2
namespace L2
theorem walk_of {l:PySem.W.OpenLaw}{q:abM}{d:DefRec}{K:Params->ZD}{CX:acd->CXT}{sp:acd->Sp}(hn:l.most=some n)(Tz:n<=ZH)(Tu:d.params.defaults=[])(hr:gE k callerA)(hY:∀(w:acd) (h:abT),YP w h->(K w.params).In h)(F:∀(w:acd) (mg:Str->Option ZF) (fa:ZY) (h:abT),(K w.params).In h->h.Ns aag mg->mg d.name=some (.ref fa)->
   ∃fd:adR,(∀(s:ZT) (u:ZF),BindsTo s fd ⟨[u],[]⟩ [(x,u)])/\
    ∀base:abT,(K w.params).In base->base.Ns aag mg->nZ l.prog w (K w.params) mg base (CX w) k fa fd [x] (sp w))(Ot:∀(w:acd) (H:Hp) (a:ZY) (ns:List Int),ns.length<=n->La H->gD (K w.params) H a (ns.map V.int)->sp w [.ref a] H (λv _=>v=.bl true) λ_ _ _=>False)(VX:∀(w:acd) (H:Hp) (s:ZT) (e:ZF) (s':ZT),CX w [] H s (λ_ _ _=>False) e s'->False) :
  PySem.W.WalkO q loose XP YP l.row.toRowW d [] (λf vs=>PySem.call f vs):=by
 refine Att.attach_call hn Tu λw s₀ s₁ mg mb fa o pm cd qB a vs ns G Y ho hd vX Tv QG Kk jD hg=>?_;have KX:=hY w _ Y;obtain⟨fd,hb,hF⟩:=F w mg fa _ KX G.T.g Tv;exact Hb KX G.T.g G.T.b G.T.builtins G.T.nolimit hg QG Kk (aaz jD Tz) hr hF hb (λH hO hS=>Ot w H a ns jD hO hS) λH e s'=>VX w H s₁ e s'
end L2
namespace L2
abbrev zM:CXT:=λ_ _ _ _ _ _=>False
abbrev E0:XK:=λ_ _ _=>False
def RE:BP zM X E0:=λ_ _ _ _ _ _ _ h=>h.elim
structure Kw (K:ZD)(x qual:Str)(st:aca)(f:ZY)(fd:adR):Prop where
 ex:∃(oc:ZF) (od:Option ZY) (kV qB pm:ZF) (an:Option ZY) (cc ct:ZF) (Oq:Array (Option ZF)),
  fd=abi x qual (gF st) (cJ st) (aq st) .none kV qB pm an cc ct/\K.lookup f=some ⟨oc,od,.func fd,Oq⟩/\aex K cc qual=true
 kp:acs K (.ref f)=true
section
variable {base:abT}
theorem Kw.ok {st:aca}{f:ZY}(F:Kw K x qual st f fd)(S:aK N ps (aq st))(len:∀vs H Q E,sp vs H Q E->vs.length=ps.length)(j6:∀(cc:ZF) (A:aar) (outer:List Env) (s:ZT) (H:Hp) (vs:List V) (Q:VK) (E:XK),gE k (A.deeper (aeo qual (aq st) s.heap.objs.size f cc))->sp vs H Q E->
   ∃t,wc (sN zM P w K mg base N qual (aq st) f cc A outer s H E).nox (cJ st) t/\t {nx:=λ_ H'=>Q .non H',rt:=Q} (ac4 N vs) H):nZ P w K mg base zM (k+1) f fd ps sp:=by
 obtain⟨oc,od,kV,qB,pm,an,cc,ct,Oq,rfl,lk,vX⟩:=F.ex;refine Ru lk vX S len λA outer s H vs Q E hr Ot=>?_;obtain⟨t,h,q⟩:=j6 cc A outer s H vs Q E hr Ot;exact⟨t,h.nox,q⟩
theorem Kw.binds {st:aca}{f:ZY}(F:Kw K x qual st f fd)(h:∀(kV qB pm:ZF) (an:Option ZY) (cc ct:ZF) (us:List ZF),us.length=ps.length->bindArgs (abi x qual (gF st) (cJ st) (aq st) .none kV qB pm an cc ct) ⟨us,[]⟩=pure (ps.zip us)):w9 K fd ps []:=by
 obtain⟨oc,od,kV,qB,pm,an,cc,ct,Oq,rfl,lk,vX⟩:=F.ex;exact .all (h kV qB pm an cc ct)
def Hd {st:aca}{f:ZY}{oc:ZF}{od an:Option ZY}{Oq:Array (Option ZF)}{kV qB pm cc ct:ZF}(l:K.lookup f=some ⟨oc,od,.func (abi x qual (gF st) (cJ st) (aq st) .none kV qB pm an cc ct),Oq⟩)(c:aex K cc qual=true)(k:acs K (.ref f)=true):Kw K x qual st f (abi x qual (gF st) (cJ st) (aq st) .none kV qB pm an cc ct):=⟨⟨oc,od,kV,qB,pm,an,cc,ct,Oq,rfl,l,c⟩,k⟩
end
def br {A:aar}(hr:gE k A):A.units+1<abn:=ac_ (Nat.add_le_add_left (by decide:1<=64) _) hr.units
def aR (H H':Hp):Prop:=∀b o,H b=some o->H' b=some o
def aR.refl (H:Hp):aR H H:=λ_ _ h=>h
def aR.trans (a:aR H H1)(b:aR H1 H2):aR H H2:=λc o h=>b c o (a c o h)
theorem aR.seq (e:aR H H')(h:gD K H a xs):gD K H' a xs:=by
 rcases h with (h|⟨o,h⟩)|h
 ·exact .inl (.inl (e _ _ h))
 ·exact .inl (.inr ⟨o,e _ _ h⟩)
 ·exact .inr h
end L2
namespace L2
section
variable {κ:Type}[DecidableEq κ]
noncomputable def pD (bE:List (κ×V))(k:κ):Option V:=(bE.find? λkv=>decide (kv.1=k)).map (·.2)
noncomputable def ya (bE:List (κ×V))(k:κ)(v:V):List (κ×V):=
 if (bE.any λkv=>decide (kv.1=k))=true then bE.map (λkv=>if kv.1=k then (kv.1,v) else kv) else bE++[(k,v)]
def uc {p:κ×V}{r:List (κ×V)}{k:κ}(e:p.1=k):pD (p::r) k=some p.2:=by simp[pD,aa2,e]
theorem ud {p:κ×V}{r:List (κ×V)}{k:κ}(e:¬p.1=k):pD (p::r) k=pD r k:=by simp[pD,aa2,e]
theorem zN (bE:List (κ×V))(k:κ)(v:V):(ya bE k v).length<=bE.length+1:=by
 unfold ya;split
 ·rw[Zz];lia
 ·rw[ZJ,ZM,aaL];lia
theorem qC.isSome_eq {o:Option V}{u:Option ZF}(r:qC o u):o.isSome=u.isSome:=by
 cases o with
 |none=>cases u with
  |none=>rfl
  |some _=>exact (show False from r).elim
 |some _=>cases u with
  |none=>exact (show False from r).elim
  |some _=>rfl
theorem KV.val {bE:List (κ×V)}{vs:List (κ×ZF)}(r:KV bE vs)(k:κ):qC (pD bE k) (valueAt vs k):=by
 unfold KV at r
 induction r with
 |nil=>exact True.intro
 | @cons p q ps qs h t ih=>
  obtain⟨h1,h2⟩:=h;by_cases e:p.1=k
  ·have e':q.1=k:=h1.symm.trans e;have b:valueAt (q::qs) k=some q.2:=by simp[valueAt,aa2,e']
   rw[uc e,b];exact h2
  ·have e':¬q.1=k:=λz=>e (h1.trans z);have b:valueAt (q::qs) k=valueAt qs k:=by simp[valueAt,aa2,e']
   rw[ud e,b];exact ih
theorem KV.any {bE:List (κ×V)}{vs:List (κ×ZF)}(r:KV bE vs)(k:κ):(bE.any λkv=>decide (kv.1=k))=vs.any λkv=>decide (kv.1=k):=by
 unfold KV at r
 induction r with
 |nil=>rfl
 |cons h t ih=>rw[List.any_cons,List.any_cons,ih,h.1]
theorem KV.repl {bE:List (κ×V)}{vs:List (κ×ZF)}(r:KV bE vs)(k:κ){u:ZF}(ry:bA y u) :
  KV (bE.map λkv=>if kv.1=k then (kv.1,y) else kv) (vs.map λkv=>if kv.1=k then (kv.1,u) else kv):=by
 unfold KV at r ⊢
 induction r with
 |nil=>exact .nil
 | @cons p q ps qs h t ih=>
  rw[ZR,ZR];refine .cons ?_ ih;lia
def KV.put {bE:List (κ×V)}{vs:List (κ×ZF)}(r:KV bE vs)(k:κ){u:ZF}(ry:bA y u):KV (ya bE k y) (stored vs k u):=by
 unfold ya stored;rw[r.any k];by_cases e:(vs.any λkv=>decide (kv.1=k))=true
 ·rw[hV e,hV e];exact r.repl k ry
 ·rw[hU e,hU e];exact Paired.snoc r ⟨rfl,ry⟩
end
theorem He {k:Key}{u:ZF}(r:bA (kV k) u):(eM P w).is k u=true:=by
 cases k with
 |inl i=>obtain⟨t,e⟩:=(show ∃t,u=Value.int i t from r);subst e;exact zD P w i t
 |inr x=>obtain⟨t,e⟩:=(show ∃t,u=Value.str x t from r);subst e;exact zE P w x t
theorem xh {P:abM}{w:acd}:∀{ks:List Key} {us:List ZF},bw (ks.map kV) us->ItemsAre (eM P w) ks us
 | [],_,r=>by rw[abj] at r;cases r;exact .nil
 |k::ks,_,r=>by
  rw[ZR] at r;cases r with
  |cons h t=>exact .cons (He h) (xh t)
abbrev KT (H:Hp):List (List Key×V)->List (List Key×ZY×ZF)->Prop:=ad0 λp q=>p.1=q.1/\H q.2.1=some (.tup (p.1.map kV))/\bA p.2 q.2.2
theorem KT.val {bE:List (List Key×V)}{xs:List (List Key×ZY×ZF)}(r:KT H bE xs)(k:List Key):qC (pD bE k) ((aeH xs k).map (·.2)):=by
 induction r with
 |nil=>exact True.intro
 | @cons p q ps qs h t ih=>
  obtain⟨h1,_,h2⟩:=h;by_cases e:p.1=k
  ·have e':q.1=k:=h1.symm.trans e;have b:aeH (q::qs) k=some q.2:=by simp[aeH,aa2,e']
   rw[uc e,b];exact h2
  grind[aeH,aa2,ud]
def MV {u:HO}(ok:mn P w H h)(e:Rd H a u):bT P w H h a u:=e.ok ok
def Dz (ok:mn P w H h)(e:Rd H a (.dK bE)):bE.length<=ZH/\(a==abu)=false/\∃vs,KV bE vs/\h.DictOf (eM P w) a vs:=
 show bT P w H h a (.dK bE) from MV ok e
def RF (ok:mn P w H h)(e:H a=some (.dK bE)):bE.length<=ZH/\(a==abu)=false/\∃vs,KV bE vs/\h.DictOf (eM P w) a vs:=Dz ok (.inl e)
theorem Hg {ks:List Key}(ok:mn P w H h)(e:H a=some (.tup (ks.map kV))):(tupleKind (eM P w)).is h ks a:=by
 obtain⟨_,its,r,⟨o,h1,h2,n,h3⟩,_⟩:=(show bT P w H h a (.tup (ks.map kV)) from ok a _ e);exact⟨o,its.toArray,n,h1,h2,h3,by simpa using xh r⟩
theorem Hh {bE:List (List Key×V)}(ok:mn P w H h)(e:Rd H a (.dT bE)):bE.length<=ZH/\(a==abu)=false/\
  ∃xs,KT H bE xs/\h.DictOfH (tupleKind (eM P w)) a xs:=by
 obtain⟨z,y,xs,r,o,es,ep,h1,h2,h3,h4,h5⟩:=(show bT P w H h a (.dT bE) from MV ok e);refine⟨z,y,xs,r,o,es,ep,h1,h2,h3,h4,λx hx=>?_,h5⟩;have all:∀{l:List (List Key×V)} {m:List (List Key×ZY×ZF)},KT H l m->∀x∈m,(tupleKind (eM P w)).is h x.1 x.2.1:=by
  intro l m q
  induction q with
  |nil=>intro x hx;exact nomatch hx
  | @cons p q ps qs hq t ih=>
   intro x hx;rcases ZK.mp hx with e|hx
   ·subst e;exact Hg ok (by rw[←hq.1];exact hq.2.1)
   ·exact ih x hx
 exact all r x hx
def Lb (H:Hp)(a:ZY)(y:V)(r:Option V):Prop:=
 (∃bE k,Rd H a (.dK bE)/\y=kV k/\r=pD bE k)\/∃bE k b,Rd H a (.dT bE)/\y=.ref b/\H b=some (.tup (k.map kV))/\r=pD bE k
section
variable {u r:ZF}{o:Option V}{A:aar}
def aN.big (I:aN X pins σ H s):abu<s.heap.objs.size:=by
 have h:aag<s.heap.objs.size:=(I.mod.glob.keeps I.bk).lt;exact Nat.lt_trans (by decide) h
theorem xi (hu:A.units+1<abn)(I:aN X pins σ H s)(g:Lb H a y (some v))(ry:bA y u)(h:∀w' s',aN X pins σ H s'->bA v w'->Q w' s') :
  Z1 (Z8 X.prog X.w) A (ad5 (.ref a) u) Q E s:=by
 rcases g with⟨bE,k,e,ey,l⟩|⟨bE,k,b,e,ey,eb,l⟩
 ·subst ey;obtain⟨z,hd,vs,rel,dd⟩:=Dz I.hok e;obtain⟨w',hw,BB⟩:=qC.some_of (v:=v) (o:=valueAt vs k) (by rw[l];exact rel.val k);exact wpAny_getItem_of (He ry) dd.mapOf hw (h w' _ (I.tok _) BB)
 ·subst ey;cases (show u=Value.ref b from ry);obtain⟨z,hd,xs,rel,dd⟩:=Hh I.hok e;obtain⟨w',hw,BB⟩:=qC.some_of (v:=v) (o:=(aeH xs k).map (·.2)) (by rw[l];exact rel.val k);obtain⟨p,hp,E7⟩:=aaQ.mp hw;refine wpAny_getItem_heap (tupleKind_room_in1 hu) (Hg I.hok eb) dd hp ?_;rw[E7];exact h w' _ (I.tok _) BB
def DB {t':Nat}{ob:HO}(I:aN X pins σ H s)(mu:QV (H a))(hs:abp a s.heap h')(he:∃q,h'.get? a=some q)(new:bT X.prog X.w (cE H a ob) h' a ob) :
  aN X pins σ (cE H a ob) {s with heap:=h',toks:=t'}:=
 I.write (x:=a) (e:=a) mu (.inl rfl) (λb q hb z=>(hs.2 b hb).trans z) he new
def Pa {vs:List (Key×ZF)}(z:bE.length<=ZH)(hd:(a==abu)=false)(rel:KV bE vs)(dd:h'.DictOf (eM P w) a vs) :
  bT P w H' h' a (.dK bE):=⟨z,hd,vs,rel,dd⟩
end
def Hi (i:abd):Prop:=∀ov iv,subscripted i false ov iv=operate [ov,iv] (ad5 ov iv)
theorem DC {A:aar}{value slice:abd}{id:String}(hl:typeLookup (.type T) "__getitem__"=pure (some (.builtin id)))(hs:Hi slice)(h:Z1 (Z8 prog w) A (acP value env) (λo s₁=>Z1 (Z8 prog w) A (acP slice env) (λi s₂=>s₂.TypeIs o T/\Z1 (Z8 prog w) A (ad5 o i) Q E s₂) E s₁) E s) :
  Z1 (Z8 prog w) A (acP (.Subscript value slice pos) env) Q E s:=by
 refine Subscript_ (aaN h (λo s₁ h₁=>aaN h₁ (λi s₂ h₂=>?_) λ_ _ x=>x) λ_ _ x=>x);obtain⟨hT,h₂⟩:=h₂;unfold subscriptTail;refine Zv ?_;rw[getitemInPython_of_ne hT.not_modules];refine Zv (acC hT hl ?_);have fin:Z1 (Z8 prog w) A (subscripted slice false o i) (λr s₃=>Z1 (Z8 prog w) A (letTemporaryGo value o r >>= λ_=>pure r) Q E s₃) E s₂:=by
  rw[hs o i];exact wpAny_operating (aaN h₂ (λr s₃ h₃=>Zv (wpAny_letTemporaryGo (Zy h₃))) λ_ _ x=>x)
 first
  |exact Zy (Zv fin)
  |exact Zv (Zy (Zv fin))
  |exact Zv fin
theorem rN {o:Option V}(I:aN X pins σ H s)(g:Lb H a y o):s.TypeIs (.ref a) "dict":=by
 rcases g with⟨bE,k,e,_,_⟩|⟨bE,k,b,e,_,_,_⟩
 ·obtain⟨_,_,vs,_,dd⟩:=Dz I.hok e;exact dd.typeIs
 ·obtain⟨_,_,xs,_,dd⟩:=Hh I.hok e;exact dd.typeIs
def RG (td ty:TE):TE:=λσ H Q=>td σ H λx H1=>ty σ H1 λy H2=>∃a v,x=.ref a/\Lb H2 a y (some v)/\Q v H2
section
variable {o i e value:abd}{nv tpos:Pos}{td ty tv:TE}
theorem Lc (hu:X.A.units+1<abn)(ho:PE X o td)(hi:PE X i ty)(hs:Hi i):PE X (.Subscript o i pos) (RG td ty):=by
 intro pins s σ H Q I h;refine DC PySem.F.slot_dict_getitem.lookup hs (eK (ho pins s σ H _ I h) λu s1 ⟨x,H1,I1,rx,q1⟩=>eK (hi pins s1 σ H1 _ I1 q1) λiv s2 ⟨y,H2,I2,ry,a,v,ex,g,q2⟩=>?_);subst ex;obtain rfl:u=Value.ref a:=rx;exact⟨rN I2 g,xi hu I2 g ry λw' s3 I3 BB=>⟨v,H2,I3,BB,q2⟩⟩
end
def zO (h:abT)(hb:abu<h.objs.size):bT P w H (h.push {cls:=.type "dict",data:=.dict (List.toArray [])}) h.objs.size (.dK []):=
 ⟨aaI _,beq_eq_false_iff_ne.mpr (Ne.symm (Z6 hb)),[],.nil,Heap.DictOf.new h⟩
def Pb:TE:=λ_ H Q=>∀p,H p=none->Q (.ref p) (cE H p (.dK []))
def zP:PE X (.Dict [] [] pos) Pb:=λpins s σ H Q I h=>
 wpAny_Dict_empty ⟨.ref s.heap.objs.size,_,I.laid (a:=s.heap.objs.size) (o:=.dK []) (t':=s.toks) (λ_ _ q=>Zx _ q) (ZP _) (zO s.heap I.big),rfl,h _ (I.hok.fresh (ZP _))⟩
def BU:List (TE×TE)->St->Hp->(List (V×V)->Hp->Prop)->Prop
 | [],_,H,Q=>Q [] H
 | (tk,tv)::r,σ,H,Q=>tk σ H λx H1=>tv σ H1 λy H2=>BU r σ H2 λps H3=>Q ((x,y)::ps) H3
abbrev VV:List (V×V)->List (ZF×ZF)->Prop:=ad0 λp q=>bA p.1 q.1/\bA p.2 q.2
def Uh (X:Cx)(pos:Pos)(keys:List (Option abd))(vZ:List abd)(Dd:List (TE×TE)):Prop:=
 ∀(pins:List (ZY×Obj)) (s:ZT) (σ:St) (H:Hp) (Q:List (V×V)->Hp->Prop),aN X pins σ H s->BU Dd σ H Q->
  Z1 (Z8 X.prog X.w) X.A (evalPairs (pairTrees keys vZ X.env pos)) (λvs s'=>∃ps H',aN X pins σ H' s'/\VV ps vs/\Q ps H') X.xe s
def Ld:Uh X pos [] [] []:=λpins s σ H Q I h=>pairTrees_nil_walk ⟨[],H,I,.nil,h⟩
def ue {k v:abd}{ks:List (Option abd)}{vs:List abd}{tk tv:TE}{Dd:List (TE×TE)}(hk:PE X k tk)(hv:PE X v tv)(hr:Uh X pos ks vs Dd) :
  Uh X pos (some k::ks) (v::vs) ((tk,tv)::Dd):=λpins s σ H Q I h=>
 pairTrees_cons_walk (eK (hk pins s σ H _ I h) λu s1 ⟨x,H1,I1,rx,q1⟩=>eK (hv pins s1 σ H1 _ I1 q1) λw2 s2 ⟨y,H2,I2,ry,q2⟩=>
  eK (hr pins s2 σ H2 _ I2 q2) λws s3 ⟨ps,H3,I3,rel,q3⟩=>⟨(x,y)::ps,H3,I3,.cons ⟨rx,ry⟩ rel,q3⟩)
noncomputable def oN (bE more:List (Key×V)):List (Key×V):=more.foldl (λcy kv=>ya cy kv.1 kv.2) bE
theorem KV.merge:∀{more:List (Key×V)} {rs:List (Key×ZF)} {bE:List (Key×V)} {vs:List (Key×ZF)},KV more rs->KV bE vs->KV (oN bE more) (merged vs rs):=by
 intro more rs bE vs r;unfold KV at r
 induction r generalizing bE vs with
 |nil=>intro q;exact q
 | @cons p q ps qs h t ih=>
  intro r0;have e:KV (ya bE p.1 p.2) (stored vs q.1 q.2):=by
   have:=r0.put p.1 h.2;rw[←h.1];exact this
  exact ih e
theorem om:∀(more bE:List (Key×V)),(oN bE more).length<=bE.length+more.length
 | [],bE=>by show bE.length<=bE.length+0;lia
 |p::r,bE=>by
  have h1:=om r (ya bE p.1 p.2);have h2:=zN bE p.1 p.2;show (oN (ya bE p.1 p.2) r).length<=_;rw[ZM];lia
theorem uf {P:abM}{w:acd}:∀{bE:List (Key×V)} {ws:List (ZF×ZF)},VV (bE.map λkv=>(kV kv.1,kv.2)) ws->∃rs,Carries (eM P w) ws rs/\KV bE rs
 | [],_,r=>by rw[abj] at r;cases r;exact⟨[],True.intro,.nil⟩
 |p::bE,_,r=>by
  rw[ZR] at r;cases r with
  | @cons a b as bs h t=>
   obtain⟨rs,c,q⟩:=uf (P:=P) (w:=w) t;obtain⟨b1,b2⟩:=b;exact⟨(p.1,b2)::rs,⟨He h.1,rfl,c⟩,.cons ⟨rfl,h.2⟩ q⟩
def RH (Dd:List (TE×TE)):TE:=λσ H Q=>∀p,H p=none->BU Dd σ (cE H p (.dK [])) λps H2=>H2 p=some (.dK [])/\∃bE:List (Key×V),ps=bE.map (λkv=>(kV kv.1,kv.2))/\bE.length<=15/\Q (.ref p) (cE H2 p (.dK (oN [] bE)))
theorem Le {keys:List (Option abd)}{vZ:List abd}{Dd:List (TE×TE)}(h:Uh X pos keys vZ Dd)(Kl:keys.all (·.isSome)=true)(hl:keys.length=vZ.length)(h0:keys≠[])(XX:keys.length<=15):PE X (.Dict keys vZ pos) (RH Dd):=by
 intro pins s σ H Q I q;have hn:=I.hok.fresh (ZP s.heap.objs.size);have I1:=I.laid (a:=s.heap.objs.size) (o:=.dK []) (h':=s.heap.push {cls:=.type "dict",data:=.dict (List.toArray [])}) (t':=s.toks) (λ_ _ q=>Zx _ q) (ZP _) (zO s.heap I.big);refine wpAny_Dict_walk (knd:=eM X.prog X.w) Kl hl h0 XX (eK (h pins _ σ _ _ I1 (q _ hn)) λws s2 ⟨ps,H2,I2,rel,e,bE,ep,lk,q2⟩=>?_);subst ep;obtain⟨rs,c,rk⟩:=uf (P:=X.prog) (w:=X.w) rel;obtain⟨z,hd,vs0,r0,dd⟩:=RF I2.hok e;cases r0;refine⟨rs,c,dd,λh' UD hs=>⟨.ref s.heap.objs.size,_,?_,rfl,q2⟩⟩;have hz:(oN [] bE).length<=ZH:=by
  have h1:=om bE [];rw[aaL] at h1;rw[abw];lia
 have he:∃q,h'.get? s.heap.objs.size=some q:=let ⟨q,_,_,hq,_⟩:=UD;⟨q,hq⟩
 exact DB I2 (by rw[e];exact True.intro) hs he (Pa hz hd (rk.merge .nil) UD)
structure M1 (X:Cx)(o:abd)(m:Str)(jc:Pos)(e:abd)(cpos:Pos):Prop where
 base:ac9 o m X.env (acP o X.env)=acP o X.env
 few:((abL cpos (ZX [e] X.env)).all (λx=> !x.1)&&(backToKw cpos (ad6 [] X.env)).all (λx=>x.1.isSome)
  && decide (([e]:List abd).length+([]:List adH).length+(if ([]:List adH).isEmpty then 0 else 1)<30))=true
 line:(jc.endLine==cpos.line)=true
 trees:abL cpos (ZX [e] X.env)=[(false,acP e X.env)]
structure M2 (X:Cx)(o:abd)(m:Str)(jc:Pos)(e f:abd)(cpos:Pos):Prop where
 base:ac9 o m X.env (acP o X.env)=acP o X.env
 few:((abL cpos (ZX [e,f] X.env)).all (λx=> !x.1)&&(backToKw cpos (ad6 [] X.env)).all (λx=>x.1.isSome)
  && decide (([e,f]:List abd).length+([]:List adH).length+(if ([]:List adH).isEmpty then 0 else 1)<30))=true
 line:(jc.endLine==cpos.line)=true
 trees:abL cpos (ZX [e,f] X.env)=[(false,acP e X.env),(false,acP f X.env)]
def WE (H:Hp)(a:ZY):Prop:=(∃bE,Rd H a (.dK bE))\/∃bE,Rd H a (.dT bE)
theorem Pc (I:aN X pins σ H s)(d:WE H a) :
  s.TypeIs (.ref a) "dict"/\(∀b,Value.ref a=.ref b->∃ob,s.heap.get? b=some ob/\ob.dict=none)/\(a==abu)=false:=by
 rcases d with⟨bE,e⟩|⟨bE,e⟩
 ·obtain⟨_,hd,vs,_,dd⟩:=Dz I.hok e;refine⟨dd.typeIs,λb q=>?_,hd⟩;cases q;obtain⟨ob,_,_,h1,h2,_⟩:=dd;exact⟨ob,h1,h2.2.1⟩
 ·obtain⟨_,hd,xs,_,dd⟩:=Hh I.hok e;refine⟨dd.typeIs,λb q=>?_,hd⟩;cases q;obtain⟨ob,_,_,h1,h2,_⟩:=dd;exact⟨ob,h1,h2.2.1⟩
end L2
namespace L2
end L2
namespace L2
theorem BV (hf:∀x,(x,NameKind.free)∈scope.names->∃c,env.cells.lookup x=some c) :
  ∃cl:List (Str×ZY),closureFor scope env=pure cl/\(∀x c,cl.lookup x=some c->env.cells.lookup x=some c)/\∀x,(x,NameKind.free)∈scope.names->∃c,cl.lookup x=some c:=by
 have gen:∀(names:List (Str×aeN)) (cs:List (Str×ZY)),(∀x,(x,NameKind.free)∈names->∃c,env.cells.lookup x=some c)->(∀x c,cs.lookup x=some c->env.cells.lookup x=some c)->
   ∃cl:List (Str×ZY),(forIn names cs λ(x:Str×aeN) (r:List (Str×ZY))=>(match x with|(name,kind)=>if (kind==NameKind.free)=true then (do let a ←cellOf env name;pure (ForInStep.yield ((name,a)::r))) else pure (ForInStep.yield r):Sem (ForInStep (List (Str×ZY)))))=(pure cl:Sem _)/\
    (∀x c,cl.lookup x=some c->env.cells.lookup x=some c)/\(∀x c,cs.lookup x=some c->∃c',cl.lookup x=some c')/\∀x,(x,NameKind.free)∈names->∃c,cl.lookup x=some c:=by
  intro names
  induction names with
  |nil=>intro cs _ h;exact⟨cs,rfl,h,λx c e=>⟨c,e⟩,λx hx=>absurd hx (by simp)⟩
  |cons p r ih=>
   intro cs hn h;obtain⟨n,k⟩:=p;by_cases hk:k=NameKind.free
   ·subst hk;obtain⟨c,hc⟩:=hn n ZA;have h':∀x c',((n,c)::cs).lookup x=some c'->env.cells.lookup x=some c':=λx c' e=>by
     rw[aaj] at e;by_cases hx:x==n
     ·rw[hx] at e;have:x=n:=by simpa using hx
      subst this;cases e;exact hc
     ·rw[acL.mpr hx] at e;exact h x c' e
    obtain⟨cl,e1,e2,e3,e4⟩:=ih ((n,c)::cs) (λx hx=>hn x (ZC _ hx)) h';refine⟨cl,?_,e2,λx c' e=>?_,λx hx=>?_⟩
    ·rw[ada];have:cellOf env n=pure c:=by unfold cellOf;rw[hc]
     simp only[beq_self_eq_true,if_true,this];exact e1
    ·by_cases hx:x=n
     ·subst hx;exact e3 x c (by rw[aaj];simp)
     ·exact e3 x c' (by rw[aaj,show (x==n)=false from by simpa using hx];exact e)
    ·rcases ZK.mp hx with e|hx
     ·cases e;exact e3 n c (by rw[aaj];simp)
     ·exact e4 x hx
   ·obtain⟨cl,e1,e2,e3,e4⟩:=ih cs (λx hx=>hn x (ZC _ hx)) h;refine⟨cl,?_,e2,e3,λx hx=>?_⟩
    ·rw[ada];have:(k==NameKind.free)=false:=by simpa using hk
     simp only[this,Z9,if_false];exact e1
    ·rcases ZK.mp hx with e|hx
     ·cases e;exact absurd rfl hk
     ·exact e4 x hx
 obtain⟨cl,e1,e2,_,e4⟩:=gen scope.names [] hf (λx c e=>by simp at e);refine⟨cl,?_,e2,e4⟩;unfold closureFor;exact (congrArg (λm=>m >>= λr=>pure r) e1).trans rfl
structure tM where
 C:ZY
 s:ZT
 H:Hp
 fp:List ZY
 pins:List (ZY×Obj)
 cl:List (Str×ZY)
noncomputable abbrev fI (X:Cx)(scope:aeD)(N:List Str)(Y:tM):Cx where
 prog:=X.prog
 w:=X.w
 K:=X.K
 mg:=X.mg
 base:=X.base
 A:=X.A
 N:=N
 s₀:=Y.s
 H₀:=Y.H
 env:=compEnvC scope Y.cl Y.C X.env
 outer:=X.stack
 stack:=X.stack
 ex:=Y.fp
 fn:=λ_=>false
 calm:=X.calm
 pn:=X.pn++Y.pins
 xe:=λ_ _=>False
noncomputable def wj (nY:aeD)(NX:List Str)(scope:aeD)(N:List Str)(js:List (Option Nat)):Bool:=
 decide (scope.kind=.function)&&scope.names.all (λy=>decide (y.2≠.cell))&&scope.names.all (λy=>decide (y.2=.local->scope.names.lookup y.1=some .local))&&decide (js.length=N.length) &&
 (js.zip N).all (λp=>match p.1 with|none=>true|some j=>decide (NX[j]? = some p.2)&&decide (scope.names.lookup p.2=some .free)) &&
 scope.names.all (λy=>decide (y.2=.free->nY.names.lookup y.1=some .cell\/nY.names.lookup y.1=some .free))
structure pE (nY:aeD)(NX:List Str)(scope:aeD)(N:List Str)(js:List (Option Nat)):Prop where
 kind:scope.kind=.function
 nocell:∀y∈scope.names,y.2≠.cell
 loc:∀y∈scope.names,y.2=.local->scope.names.lookup y.1=some .local
 len:js.length=N.length
 cap:∀(i j:Nat) (x:Str),js[i]? = some (some j)->N[i]? = some x->NX[j]? = some x/\scope.names.lookup x=some .free
 free:∀x,(x,NameKind.free)∈scope.names->nY.names.lookup x=some .cell\/nY.names.lookup x=some .free
theorem wj.to {nY:aeD}{NX:List Str}(h:wj nY NX scope N js=true):pE nY NX scope N js:=by
 unfold wj at h;simp only[Z3] at h;obtain⟨⟨⟨⟨⟨h1,h2⟩,h3⟩,h4⟩,h5⟩,h6⟩:=h;refine⟨of_decide_eq_true h1,λy hy=>of_decide_eq_true (aaT.mp h2 y hy),λy hy=>of_decide_eq_true (aaT.mp h3 y hy),of_decide_eq_true h4,λi j x e1 e2=>?_,λx hx=>of_decide_eq_true (aaT.mp h6 (x,NameKind.free) hx) rfl⟩;have hz:(js.zip N)[i]? = some (some j,x):=by
  rw[List.getElem?_zip_eq_some];exact⟨e1,e2⟩
 have q:=aaT.mp h5 _ (aan hz);simp only[Z3] at q;exact⟨of_decide_eq_true q.1,of_decide_eq_true q.2⟩
noncomputable def xj (js:List (Option Nat))(σ:St):St:=js.map λo=>match o with
 |none=>none
 |some j=>match σ[j]? with
  |some v=>v
  |none=>none
theorem pF (sL:∀y∈scope.names,y.2≠.cell)(h:(relabel scope env).names.lookup x=some .cell\/(relabel scope env).names.lookup x=some .free):(x,NameKind.free)∈scope.names:=by
 have gen:∀k,(k=NameKind.cell\/k=NameKind.free)->(relabel scope env).names.lookup x=some k->(x,NameKind.free)∈scope.names:=λk hk e=>by
  have hm:=aaH e;obtain⟨⟨n,k0⟩,hy,q⟩:=aal.mp hm;grind
 grind
theorem fE {env:Env}{x:Str}:∀{names:List (Str×aeN)},names.lookup x=some .free->
  (names.map λ(n,k)=>if (k==NameKind.free&&env.scope.kind==.function&&env.kindOf n==some .cell) then (n,NameKind.cell) else (n,k)).lookup x=some .cell \/
  (names.map λ(n,k)=>if (k==NameKind.free&&env.scope.kind==.function&&env.kindOf n==some .cell) then (n,NameKind.cell) else (n,k)).lookup x=some .free
 | [],h=>by simp at h
 | (n,k)::r,h=>by
  rw[ZR];by_cases hx:x==n
  ·rw[aaj,hx] at h;cases h;by_cases c:(NameKind.free==NameKind.free&&env.scope.kind==.function&&env.kindOf n==some .cell)=true
   ·refine .inl ?_;show List.lookup x ((if (NameKind.free==NameKind.free&&env.scope.kind==.function&&env.kindOf n==some .cell)=true then (n,NameKind.cell) else (n,NameKind.free))::_)=_;rw[hV c,aaj,hx]
   ·refine .inr ?_;show List.lookup x ((if (NameKind.free==NameKind.free&&env.scope.kind==.function&&env.kindOf n==some .cell)=true then (n,NameKind.cell) else (n,NameKind.free))::_)=_;rw[hU c,aaj,hx]
  ·have QB:=acL.mpr hx;rw[aaj,QB] at h;have ih:=fE (env:=env) (x:=x) (names:=r) h;have e:∀p:Str×aeN,p.1=n->List.lookup x (p::(r.map λ(n,k)=>if (k==NameKind.free&&env.scope.kind==.function&&env.kindOf n==some .cell) then (n,NameKind.cell) else (n,k))) =
     List.lookup x (r.map λ(n,k)=>if (k==NameKind.free&&env.scope.kind==.function&&env.kindOf n==some .cell) then (n,NameKind.cell) else (n,k)):=λp hp=>by
    obtain⟨p1,p2⟩:=p;cases hp;rw[aaj,QB]
   rw[e _ (by dsimp only;split<;>rfl)];exact ih
def Fq (X:Cx)(v7:List abd)(t:TT):Prop:=
 ∀(pins:List (ZY×Obj)) (s:ZT) (σ:St) (H:Hp) (Q:Bool->Hp->Prop),aN X pins σ H s->t σ H Q->
  Z1 (Z8 X.prog X.w) X.A (forIn v7 true λc r=>if r=true then do let ok ←isTrue c X.env (acP c X.env);pure (ForInStep.yield ok) else pure (ForInStep.yield r)) (TP X pins σ Q) X.xe s
def Vb:TT:=λ_ H Q=>Q true H
def Hj:Fq X [] Vb:=λ_ _ _ H _ I h=>wpAny_tests_nil ⟨H,I,h⟩
def Hk {t:TT}(h:PT X c t):Fq X [c] t:=λpins s σ H Q I q=>wpAny_tests_one (h pins s σ H Q I q)
end L2
namespace L2
theorem my {A:aar}{R:Result->ZT->Prop}{rE:abd}{it cy:ZF}(I:Nat->ZT->Prop)(turn:∀n s,I n s->Z1 (Z8 prog w) A (adO it) (λr s₁=>match r with
   |none=>R (.ok .next) s₁
   |some v=>Z1 (Z8 prog w) A (ad4 rE it v) (λ_ W_=>Z1 (Z8 prog w) A (assign rE env v) (λ_ s₂=>
     Z1 (Z8 prog w) A (forIn v7 true λc r=>if r=true then do let ok ←isTrue c env (acP c env);pure (ForInStep.yield ok) else pure (ForInStep.yield r)) (λok s₃=>
      if ok=true then Z1 (Z8 prog w) A (acP elt env) (λx s₄=>
       Z1 (Z8 prog w) A (call (.builtin "list.append") [cy,x]) (λ_ s₅=>∃m,m<n/\I m s₅) (λ_ _=>False) s₄) (λ_ _=>False) s₃
      else ∃m,m<n/\I m s₃) (λ_ _=>False) s₂) (λ_ _=>False) W_) (λ_ _=>False) s₁) (λ_ _=>False) s)(n:Nat)(h:I n s) :
  codeAny (Z8 prog w) A (.compLoop (.ListComp elt [⟨rE,iter,v7,0⟩] scope pos) 0 it cy env) R s:=by
 refine codeAny_loop rfl I (λn s hI=>?_) n h;show Z1 _ A ((compTurn (.ListComp elt [⟨rE,iter,v7,0⟩] scope pos) 0 it cy env).onRaise (λx=>do noteFrame x env;theTreesLotGoes x)) _ _ s;refine wpAny_noted ?_;rw[compTurn_list];have fe:∀{e:ZF} {s':ZT} {Z:Prop},(λ(_:ZF) (_:ZT)=>False) e s'->Z:=λh=>h.elim;refine Zv (wpAny_standAt (Zv (aaN (turn n s hI) (λr s₁ h₁=>?_) λ_ _ h'=>h'.elim)));cases r with
 |none=>exact Zy h₁
 |some v=>
  refine Zv (aaN h₁ (λ_ W_ XY=>?_) λ_ _ h'=>h'.elim);refine Zv (aaN XY (λ_ s₂ h₂=>Zv (aaN h₂ (λok s₃ h₃=>?_) λ_ _ h'=>h'.elim)) λ_ _ h'=>h'.elim);cases ok with
  |false=>exact Zy ⟨rfl,h₃⟩
  |true=>
   exact Zv (Zv (aaN h₃ (λx s₄ h₄=>Zv (aaN h₄ (λ_ s₅ h₅=>Zy (Zy ⟨rfl,h₅⟩)) λ_ _ h'=>h'.elim)) λ_ _ h'=>h'.elim))
def RI (J:It)(js:List (Option Nat))(g:tM->TG)(tt:tM->TT)(te:tM->TE)(σ:St)(H1:Hp)(P:List V->Hp->Prop):Prop:=
 ∀Y:tM,∃W:Nat->Nat->List V->Hp->Prop,(∃m,W 0 m [] H1)/\∀i m ys H2,W i m ys H2->
  (J.stop i H2/\P ys H2) \/
  (J.go i H2/\ys.length<ZH/\∃Nx:List V->Hp->Prop,(∀OA H',Nx OA H'->∃m',m'<m/\W (i+1) m' OA H')/\∀x H3,J.yld i H2 x H3->g Y x (xj js σ) H3 λσ4 H4=>tt Y σ4 H4 λb H5=>
   if b=true then te Y σ4 H5 λy H6=>Nx (ys++[y]) H6 else Nx ys H5)
def Ui (wi:TI)(js:List (Option Nat))(g:tM->TG)(tt:tM->TT)(te:tM->TE):TE:=λσ H Q=>wi σ H λJ H1=>
 RI J js g tt te σ H1 λys H2=>∀p,H2 p=none->Q (.ref p) (cE H2 p (.lst ys))
theorem ug {E:ZF->ZT->Prop}{s2:ZT}{nY:aeD}{g:tM->TG}{tt:tM->TT}{te:tM->TE}{J:It}{tn:Nat->abT->Prop}{P:List V->Hp->Prop}{cl:List (Str×ZY)}{RR:ZF->ZY->Result->ZT->Prop}(I:aN X pins σ H s2)(hc:X.calm=true)(T:Fb X.prog X.w X.K tg J fp it tn)(oH:tn 0 s2.heap)(f2:∀b∈fp,sM X pins H b)(zq:∀Y:tM,PG (fI X scope N Y) tg (g Y)/\Fq (fI X scope N Y) v7 (tt Y)/\PE (fI X scope N Y) elt (te Y))(S:pE nY X.N scope N js)(og:X.env.scope=nY)(c1:∀x c,cl.lookup x=some c->X.env.cells.lookup x=some c)(c2:∀x,(x,NameKind.free)∈scope.names->∃c,cl.lookup x=some c)(h:RI J js g tt te σ H P)(hR:∀(cy C:ZY) (ys:List V) (H':Hp) (s':ZT),aN X pins σ (cE H' cy (.lst ys)) s'->(∃m,s'.heap.Ns C m)->sM X pins (cE H' cy (.lst ys)) C->H' cy=none->P ys H'->RR (.ref cy) C (.ok .next) s') :
  Z1 (Z8 X.prog X.w) X.A (newList []) (λcy s₃=>Z1 (Z8 X.prog X.w) X.A (newFunctionEnv scope X.env.globals cl [] X.env.qual none .none (some X.env)) (λTB s₄=>
   codeAny (Z8 X.prog X.w) X.A (.compStart (.ListComp elt [⟨tg,iter,v7,0⟩] scope pos) 0 (.ref it) cy {TB with scope:=relabel scope X.env}) (RR cy TB.locals) s₄) E s₃) E s2:=by
 refine aat (wpAny_newFunctionEnv S.nocell (by intro y hy;simp at hy) (λh₁ QH MD=>?_) S.kind);dsimp only at QH MD ⊢;generalize hH2:s2.heap.push {cls:=.type "list",dict:=none,data:=.seq ([]:List ZF).toArray}=H2 at QH MD ⊢;have hC:H2.objs.size=s2.heap.objs.size+1:=by rw[←hH2,aaU]
 have UE:s2.heap.objs.size≠H2.objs.size:=by rw[hC];exact Z6 (adJ _)
 have ME:s2.heap.objs.size<=H2.objs.size:=by rw[hC];exact Nat.le_succ _
 have below:∀b,b<s2.heap.objs.size->b≠H2.objs.size/\b≠s2.heap.objs.size:=λb hb=>⟨by rw[hC];exact Z6 (abF hb),Z6 hb⟩;have old:∀b o,s2.heap.get? b=some o->h₁.get? b=some o:=λb o e=>MD.extBut b o (below b (ZU e)).1 (Zx _ (hH2▸Zx _ e));have Km:h₁.PlainList s2.heap.objs.size (List.toArray []):=⟨_,MD.extBut _ _ UE (Zx _ (hH2▸ZQ _ rfl))⟩;have VZ:∀b∈fp,b<s2.heap.objs.size:=λb hb=>by
  obtain⟨o,e,_⟩:=T.obj _ _ oH b hb;exact ZU e
 generalize hCg:H2.objs.size=C at *;generalize hAg:s2.heap.objs.size=cy at *
 let Y:tM:=⟨C,s2,H,fp,pins,cl⟩
 have ok:(fI X scope N Y).Ok:=by
  refine⟨I.ok.mod,S.kind,I.ok.glob,I.ok.blt,?_,λx y c e1 e2=>I.ok.inj x y c (c1 x c e1) (c1 y c e2),λx hx=>c2 x (pF S.nocell hx),λx c e=>(by cases e),I.ok.hd,I.ok.frames,.inl rfl,λb hb=>⟨?_,λx c e=>?_⟩,I.bs,aaz I.ok.bsz I.sz,λb o e hb=>?_,λb hb hf=>?_,I.stack,I.stkFree⟩
  ·show s2.heap.objs.size<=C;rw[hAg];exact ME
  ·exact (below b (VZ b hb)).1
  ·exact (f2 b hb).2.2.2.2.1 x c (c1 x c e)
  ·rcases (f2 b hb).2.2.2.1 with z|z
   ·exact I.ok.noex b o e z
   ·exact absurd (aah (ZU (I.ok.bs b o e).1) z) (abe _)
  ·rcases ZK.mp (I.stkSub b hf) with z|z
   ·exact (f2 b hb).2.1 z
   ·exact (f2 b hb).2.2.1 z
 have V0:∀x c,X.env.cells.lookup x=some c->c<cy:=λx c e=>by
  obtain⟨v,q⟩:=I.cell x c e;rw[←hAg];exact q.lt
 have Ow:∀p∈X.pn++pins,p.1<cy:=λp hp=>by rw[←hAg];exact ZU (I.pin p hp).1
 have Ze:X.env.locals<cy:=by rw[←hAg];exact I.lt
 have TC:∀b∈Dk X.stack,b<cy:=λb hb=>by
  obtain⟨_,o,ho,_⟩:=I.stack.mem hb;rw[←hAg];exact ZU ho
 have TF:∀p∈X.pn++pins,p.1∉Dk X.stack:=λp hp hf=>by
  rcases ZK.mp (I.stkSub _ hf) with z|z
  ·exact (I.pin p hp).2.2.1 z
  ·exact (I.pin p hp).2.2.2.1 z
 have E4:H cy=none:=by rw[←hAg];exact I.hok.fresh (ZP _)
 have XZ:H C=none:=I.hok.fresh (by rw[hAg];exact ME);have I4:∀tk:Nat,aN (fI X scope N Y) [] (xj js σ) H {s2 with heap:=h₁,toks:=tk}:=λtk=>by
  refine⟨ok,rfl,I.bare,Un.kept old,⟨_,QH,λi x v e1 e2 e3=>?_⟩,λx c e=>?_,XZ,λx c e=>I.freeC x c (c1 x c e),λp hp=>?_,I.hok.kept old,?_⟩
  ·
   have MF:(xj js σ)[i]? = some (some v):=e2;unfold xj at MF;rw[Z2] at MF;cases hj:js[i]? with
   |none=>rw[hj] at MF;cases MF
   |some o=>
    rw[hj] at MF;cases o with
    |none=>cases MF
    |some j=>
     have e4:(match σ[j]? with|some v=>v|none=>none)=some v:=Z0 MF;obtain⟨nx,fr⟩:=S.cap i j x hj e1;have e5:σ[j]? = some (some v):=by
      cases q:σ[j]? with
      |none=>rw[q] at e4;cases e4
      |some z=>rw[q] at e4;rw[show z=some v from e4]
     obtain⟨m,hn,hl⟩:=I.loc;have kx:X.env.scope.names.lookup x=some .cell\/X.env.scope.names.lookup x=some .free:=by rw[og];exact S.free x (aaH fr)
     obtain⟨u,r,lk⟩:=hl j x v nx e5 (.inr kx);refine⟨u,r,.inr ⟨fE fr,?_⟩⟩;obtain⟨c,hcl⟩:=c2 x (aaH fr);rcases lk with⟨k,_⟩|⟨k,c',e',z⟩
     ·have k':X.env.scope.names.lookup x=some .local:=k;rcases kx with q|q<;>· rw[q] at k';cases k'
     ·have:c'=c:=by
       have:=c1 x c hcl;rw[e'] at this;exact Z0 this
      subst this;obtain⟨o,ho,hd⟩:=z;exact⟨c',hcl,o,old _ _ ho,hd⟩
  ·obtain⟨v,o,ho,hd⟩:=I.cell x c (c1 x c e);exact⟨v,o,old _ _ ho,hd⟩
  ·have E5:p∈X.pn++pins:=by simpa using hp
   obtain⟨q1,q2,q3,q4,q5⟩:=I.pin p E5;exact⟨old _ _ q1,q2,λz=>absurd (Ow p E5) (by rw[z];exact Nat.not_lt.mpr ME),TF p E5,q5⟩
  ·show (xj js σ).length=N.length;unfold xj;rw[Zz];exact S.len
 obtain⟨hg,ht,he⟩:=zq Y;obtain⟨W,⟨m0,w0⟩,turn⟩:=h Y;have V1:∀{H':Hp} {pl:List (ZY×Obj)},H' cy=none->(∀p∈pl,p.1≠cy)->sM (fI X scope N Y) pl H' cy:=λ{H' pl} hn hp=>by
  refine⟨hn,UE,λz=>absurd (TC _ z) (abe _),.inr (by show s2.heap.objs.size<=cy;rw[hAg];exact ZP _),λx c e=>Z6 (V0 x c (c1 x c e)),λp E5=>?_⟩;rcases aab.mp E5 with z|z
  ·exact Z6 (Ow p z)
  ·exact hp p z
 have V2:∀{H':Hp} {pl:List (ZY×Obj)},(∀b∈fp,H' b=none)->(∀p∈pl,p.1∉fp)->∀b∈fp,sM (fI X scope N Y) pl H' b:=λ{H' pl} hn hp b hb=>by
  refine⟨hn b hb,(below b (VZ b hb)).1,λz=>?_,.inl hb,λx c e=>(f2 b hb).2.2.2.2.1 x c (c1 x c e),λp E5=>?_⟩
  ·rcases ZK.mp (I.stkSub b z) with q|q
   ·exact (f2 b hb).2.1 q
   ·exact (f2 b hb).2.2.1 q
  ·rcases aab.mp E5 with z|z
   ·exact (f2 b hb).2.2.2.2.2 p z
   ·exact λe=>hp p z (by rw[e];exact hb)
 have Xa:cy∉fp:=λz=>absurd (VZ cy z) (by intro q;rw[hAg] at *;exact abe _ q);have V3:∀{i:Nat} {x:Str} {v:V},N[i]? = some x->(xj js σ)[i]? = some (some v)->∃u c o,bA v u/\scope.names.lookup x=some .free/\cl.lookup x=some c/\s2.heap.get? c=some o/\o.data=.cell (some u):=λ{i x v} e1 e2=>by
  unfold xj at e2;rw[Z2] at e2;cases hj:js[i]? with
  |none=>rw[hj] at e2;cases e2
  |some o=>
   rw[hj] at e2;cases o with
   |none=>cases e2
   |some j=>
    have e4:(match σ[j]? with|some v=>v|none=>none)=some v:=Z0 e2;obtain⟨nx,fr⟩:=S.cap i j x hj e1;have e5:σ[j]? = some (some v):=by
     cases q:σ[j]? with
     |none=>rw[q] at e4;cases e4
     |some z=>rw[q] at e4;rw[show z=some v from e4]
    obtain⟨m,hn,hl⟩:=I.loc;have kx:X.env.scope.names.lookup x=some .cell\/X.env.scope.names.lookup x=some .free:=by rw[og];exact S.free x (aaH fr)
    obtain⟨u,r,lk⟩:=hl j x v nx e5 (.inr kx);obtain⟨c,hcl⟩:=c2 x (aaH fr);rcases lk with⟨k,_⟩|⟨k,c',e',z⟩
    ·have k':X.env.scope.names.lookup x=some .local:=k;rcases kx with q|q<;>· rw[q] at k';cases k'
    ·have:c'=c:=by
      have:=c1 x c hcl;rw[e'] at this;exact Z0 this
     subst this;obtain⟨o,ho,hd⟩:=z;exact⟨u,c',o,r,fr,hcl,ho,hd⟩
 have TH:∀{pl:List (ZY×Obj)} {σ':St} {H':Hp} {s':ZT},aN (fI X scope N Y) pl σ' H' s'->aN (fI X scope N Y) pl (xj js σ) H' s':=λ{pl σ' H' s'} K=>by
  refine⟨K.ok,K.os,K.bare,K.base,?_,K.cell,K.free,K.freeC,K.pin,K.hok,?_⟩
  ·obtain⟨m,hn,_⟩:=K.loc;refine⟨m,hn,λi x v e1 e2 e3=>?_⟩;obtain⟨u,c,o,r,fr,hcl,ho,hd⟩:=V3 e1 e2;refine⟨u,r,.inr ⟨fE fr,c,hcl,?_⟩⟩;obtain⟨sl,q⟩:=K.base.any ho (I.freeC x c (c1 x c hcl)) λz=>(f2 c z).2.2.2.2.1 x c (c1 x c hcl) rfl;exact⟨_,q,hd⟩
  ·show (xj js σ).length=N.length;unfold xj;rw[Zz];exact S.len
 have loop:∀tk:Nat,codeAny (Z8 X.prog X.w) X.A (.compLoop (.ListComp elt [⟨tg,iter,v7,0⟩] scope pos) 0 (.ref it) (.ref cy) (compEnvC scope cl C X.env)) (RR (.ref cy) C) {s2 with heap:=h₁,toks:=tk}:=by
  intro tk;refine my (λn s'=>∃(i:Nat) (ys:List V) (its:List ZF) (H':Hp),aN (fI X scope N Y) [] (xj js σ) H' s'/\tn i s'.heap/\(∀b∈fp,H' b=none)/\H' cy=none/\s'.heap.PlainList cy its.toArray/\bw ys its/\ys.length<=ZH/\W i n ys H') ?_ m0
   ⟨0,[],[],H,I4 tk,T.keep _ _ _ oH (λb hb o e=>old b o e),λb hb=>(f2 b hb).1,E4,Km,.nil,aaI _,w0⟩
  rintro n s3 ⟨i,ys,its,H3,I3,QU,fr3,na3,⟨nn,ea⟩,rv3,hz3,w3⟩;have QI:∀p∈[(cy,({cls:=.type "list",data:=.seq its.toArray nn}:Obj))],p.1∉fp:=λp hp=>by
   have e:p=(cy,({cls:=.type "list",data:=.seq its.toArray nn}:Obj)):=by simpa using hp
   rw[e];exact Xa
  have Ip:aN (fI X scope N Y) [(cy,({cls:=.type "list",data:=.seq its.toArray nn}:Obj))] (xj js σ) H3 s3:=I3.pins_of λp hp=>by
   have e:p=(cy,({cls:=.type "list",data:=.seq its.toArray nn}:Obj)):=by simpa using hp
   subst e;exact⟨ea,na3,UE,λz=>absurd (TC _ z) (abe _),λv z=>by cases z⟩
  rcases turn i n ys H3 w3 with⟨stop,p⟩|⟨go,wY,Nx,hNx,step⟩
  ·refine aaN (T.done (fI X scope N Y) rfl rfl rfl hc i _ s3 _ H3 (λ_ _=>False) Ip (V2 fr3 QI) QU stop) (λr s4 X0=>?_) λ_ _ z=>z;obtain⟨hr,J4⟩:=X0;subst hr;have pa:=(J4.pin (cy,({cls:=.type "list",data:=.seq its.toArray nn}:Obj)) (ZO _ ZA)).1;have u:Un (Dk X.stack) fp H (cE H3 cy (.lst ys)) s2.heap s4.heap:=
    ⟨J4.base.keep,J4.base.slot,λb o e nb hx=>by rw[bq (below b (by rw[←hAg];exact ZU e)).2];exact J4.base.free b o e nb hx,J4.base.there,
     λb xs e=>by rw[bq (bR e E4)];exact J4.base.tups b xs e,λb o w' e=>by rw[bq (bR e E4)];exact J4.base.frzs b o w' e,λb ps e=>by rw[bq (bR e E4)];exact J4.base.tbls b ps e⟩
   have hok:mn X.prog X.w (cE H3 cy (.lst ys)) s4.heap:=λb o e=>by
    by_cases hb:b=cy
    ·subst hb;rw[bC] at e;cases e;exact⟨hz3,its,nn,rv3,pa⟩
    ·rw[bq hb] at e;refine (J4.hok b o e).stay (λ_ _ _ q=>q) (λc q=>?_) λc xs q=>?_
     ·rw[bq (bR q na3)];exact q
     ·rw[bq (bR q na3)];exact q
   have V4:aN X pins σ (cE H3 cy (.lst ys)) s4:=I.call' (ch:=fp) J4.os u hok J4.bare λb hb=>⟨(f2 b hb).2.2.2.1,(f2 b hb).2.1,(f2 b hb).2.2.2.2.1,(f2 b hb).2.2.2.2.2⟩;have X1:∃m,s4.heap.Ns C m:=by obtain⟨m,hn,_⟩:=J4.loc;exact⟨m,hn⟩
   exact hR cy C ys H3 s4 V4 X1 (I.fpOk (by rw[hAg];exact ME) (by rw[bq (Ne.symm UE)];exact J4.free)) na3 p
  ·refine aaN (T.item (fI X scope N Y) rfl rfl rfl hc i _ s3 _ H3 (λ_ _=>False) Ip (V2 fr3 QI) QU go) (λr s4 h4=>?_) λ_ _ z=>z;obtain⟨u,hr,h4⟩:=h4;subst hr;refine aaN h4 (λ_ s5 h5=>?_) λ_ _ z=>z;obtain⟨x,H5,I5,r5,y5,st5,fr5⟩:=h5;have VO:=I5.pinned (V2 fr5 QI) (T.obj _ _ st5);refine aaN (hg _ s5 _ H5 x u _ VO r5 (step x H5 y5)) (λ_ s6 h6=>?_) λ_ _ z=>z;obtain⟨σ6,H6,I6,q6⟩:=h6;refine aaN (ht _ s6 σ6 H6 _ I6 q6) (λb s7 h7=>?_) λ_ _ z=>z;obtain⟨H7,I7,q7⟩:=h7;have TJ:∀{H8:Hp} {σ8:St} {s8:ZT},aN (fI X scope N Y) ([(cy,({cls:=.type "list",data:=.seq its.toArray nn}:Obj))]++tY fp s5.heap) σ8 H8 s8->
     s8.heap.get? cy=some ({cls:=.type "list",data:=.seq its.toArray nn}:Obj)/\H8 cy=none/\(∀b∈fp,H8 b=none)/\(∀b∈fp,∀o,s5.heap.get? b=some o->s8.heap.get? b=some o):=λ{H8 σ8 s8} K=>by
    have q:=K.pin (cy,({cls:=.type "list",data:=.seq its.toArray nn}:Obj)) (ZO _ (ZZ _ ZA));refine⟨q.1,q.2.1,λb hb=>?_,λb hb o e=>(K.pin (b,o) (ZO _ (ZO _ (ly hb e)))).1⟩;obtain⟨o,e,d⟩:=T.obj _ _ st5 b hb;exact (K.pin (b,o) (ZO _ (ZO _ (ly hb e)))).2.1
   have Kn:∀{H8:Hp} {σ8:St} {s8:ZT} {pl:List (ZY×Obj)},aN (fI X scope N Y) pl σ8 H8 s8->aN (fI X scope N Y) [] σ8 H8 s8:=λK=>K.pins_of λp hp=>absurd hp (by simp);cases b with
   |false=>
    rw[hU (by simp)] at q7;obtain⟨m',hm,w7⟩:=hNx _ _ q7;obtain⟨p1,p2,p3,p4⟩:=TJ I7;exact⟨m',hm,i+1,ys,its,H7,TH (Kn I7),T.keep _ _ _ st5 p4,p3,p2,⟨nn,p1⟩,rv3,hz3,w7⟩
   |true=>
    rw[hV rfl] at q7;refine aaN (he _ s7 σ6 H7 _ I7 q7) (λv s8 h8=>?_) λ_ _ z=>z;obtain⟨y,H8,I8,r8,q8⟩:=h8;obtain⟨m',hm,w8⟩:=hNx _ _ q8;obtain⟨p1,p2,p3,p4⟩:=TJ I8;refine wpAny_list_append_plain (items:=its.toArray) ⟨nn,p1⟩ (λh' X2 sb=>?_) (by rw[ZI,←rv3.length];exact hz3);obtain⟨f0,f1,f2',f3,f4,f5⟩:=V1 (H':=H8) (pl:=[]) p2 (by simp);have I9:aN (fI X scope N Y) [] σ6 H8 {s8 with heap:=h'}:=(Kn I8).turned (t':=s8.toks) (λb o hb e=>(sb.2 b hb).trans e) f0 f1 f3 f4 f5;refine⟨m',hm,i+1,ys++[y],its++[v],H8,TH I9,T.keep _ _ _ st5 (λb hb o e=>(sb.2 b (λz=>Xa (z▸hb))).trans (p4 b hb o e)),p3,p2,?_,rv3.append (.cons r8 .nil),?_,w8⟩
    ·rw[show (its++[v]).toArray=its.toArray.push v from by simp];exact X2
    ·rw[ZJ,adD];exact wY
 exact codeAny_compStart_list (loop _) (T.self _ _ _ _ _ (T.keep _ _ _ oH (λb hb o e=>old b o e)) (loop _))
def uh {nY:aeD}(I:aN X pins σ H s)(S:pE nY X.N scope N js)(og:X.env.scope=nY) :
  ∃cl:List (Str×ZY),closureFor scope X.env=pure cl/\(∀x c,cl.lookup x=some c->X.env.cells.lookup x=some c)/\∀x,(x,NameKind.free)∈scope.names->∃c,cl.lookup x=some c:=
 BV λx hx=>I.ok.has x (by
  have:=S.free x hx;rw[←og] at this;exact this)
theorem MW {g:tM->TG}{tt:tM->TT}{te:tM->TE}(nY:aeD)(NX N:List Str)(js:List (Option Nat))(hc:X.calm=true)(hi:PI X tg iter wi)(zq:∀Y:tM,PG (fI X scope N Y) tg (g Y)/\Fq (fI X scope N Y) v7 (tt Y)/\PE (fI X scope N Y) elt (te Y))(og:X.env.scope=nY:=by rfl)(MG:X.N=NX:=by rfl)(hS:wj nY NX scope N js=true:=by decide+kernel)(hs:∀x,aa8 iter X.env x=pure x:=by intro _;rfl):PE X (.ListComp elt [⟨tg,iter,v7,0⟩] scope pos) (Ui wi js g tt te):=by
 intro pins s σ H Q I h;have S:pE nY X.N scope N js:=by rw[MG];exact wj.to hS
 obtain⟨cl,e1,e2,e3⟩:=uh I S og;rw[eval_ListComp];refine wpAny_comprehension_free (use:=none) rfl hs e1 S.kind S.loc (eK (hi pins s σ H _ I h) λv s1 h1=>eK h1 λUB s2 h2=>?_);obtain⟨it,fp,tn,J,H2,e,I2,T,oH,f2,q⟩:=h2;subst e;refine ug (RR:=λcy C=>compPost (Z8 X.prog X.w) X.A X.xe none (EP X pins σ Q) cy C) I2 hc T oH f2 zq S og e2 e3 q ?_;intro cy C ys H' s' I' ns fC na p;obtain⟨m,hn⟩:=ns;obtain⟨f0,f1,f2',f3,f4,f5⟩:=fC;exact⟨m,hn,λh' sb=>⟨.ref cy,_,I'.turned (t':=s'.toks) (λb o hb e=>(sb.2 b hb).trans e) f0 f1 f3 f4 f5,rfl,p cy na⟩⟩
theorem Hl {nv oh:Pos}{g:tM->TG}{tt:tM->TT}{te:tM->TE}(nY:aeD)(NX N:List Str)(js:List (Option Nat))(hN:X.N.Nodup)(hx:X.N[i]? = some x)(hl:GN X.env.scope x)(hc:X.calm=true)(hi:PI X tg iter wi)(zq:∀Y:tM,PG (fI X scope N Y) tg (g Y)/\Fq (fI X scope N Y) v7 (tt Y)/\PE (fI X scope N Y) elt (te Y))(og:X.env.scope=nY:=by rfl)(MG:X.N=NX:=by rfl)(hS:wj nY NX scope N js=true:=by decide+kernel)(hw:ad3 (.ListComp elt [⟨tg,iter,v7,0⟩] scope oh) (some (.Name x nv)) pos.line X.env=pure true:=by rfl)(hf:X.fn x=true\/X.env.scope.names.lookup x=some .local:=by first|exact .inl rfl|exact .inr rfl|assumption)(hs:∀x,aa8 iter X.env x=pure x:=by intro _;rfl) :
  PS X (.Assign [.Name x nv] (.ListComp elt [⟨tg,iter,v7,0⟩] scope oh) pos) (GR (Ui wi js g tt te) (zG i)):=by
 intro pins s σ H D I h;have S:pE nY X.N scope N js:=by rw[MG];exact wj.to hS
 obtain⟨cl,e1,e2,e3⟩:=uh I S og;rw[exec_Assign_Name_used _ _ _ _ hw];refine Zv (wpAny_standAt (Zv ?_));show Z1 _ X.A (do let _ ←comprehension (.ListComp elt [⟨tg,iter,v7,0⟩] scope oh) scope X.env _ (newList []) false (acP iter X.env) (some (assign (.Name x nv) X.env))) _ _ s;refine Zv (aaN (wpAny_comprehension_free (use:=some (assign (.Name x nv) X.env)) (Q:=λ_ s'=>SP X pins D .next s') rfl hs e1 S.kind S.loc
  (eK (hi pins s σ H _ I h) λv s1 h1=>eK h1 λUB s2 h2=>?_)) (λ_ s' hq=>Zy (Zy hq)) λ_ _ e=>e)
 obtain⟨it,fp,tn,J,H2,e,I2,T,oH,f2,q⟩:=h2;subst e;refine ug (RR:=λcy C=>compPost (Z8 X.prog X.w) X.A X.xe (some (assign (.Name x nv) X.env)) (λ_ s'=>SP X pins D .next s') cy C) I2 hc T oH f2 zq S og e2 e3 q ?_;intro cy C ys H' s' I' ns fC na p;obtain⟨m,hn⟩:=ns;obtain⟨f0,f1,f2',f3,f4,f5⟩:=fC;show Z1 _ X.A (assign (.Name x nv) X.env (.ref cy)) _ _ _;refine wpAny_assign_Name (w6 I' hN hx hl (v:=.ref cy) rfl (λQE X3 X4=>?_) hf);obtain⟨a,sb,ha⟩:=X4;have aC:C≠a:=by
  rcases ha with ha|ha
  ·rw[ha];exact f1
  ·exact λz=>f4 x a ha z.symm
 refine⟨m,hn.sameBut sb aC,λh' X5=>⟨_,_,X3.turned (t':=QE.toks) (λb o hb e=>(X5.2 b hb).trans e) f0 f1 f3 f4 f5,?_⟩⟩;exact p cy na
def RJ (J:It)(g:TG)(tb:TS)(D:oI)(σ:St)(H1:Hp):Prop:=∃W:Nat->Nat->St->Hp->Prop,(∃m,W 0 m σ H1)/\∀i m σ H,W i m σ H->
 (J.stop i H/\D.nx σ H)\/(J.go i H/\∃N:St->Hp->Prop,(∀σ' H',N σ' H'->∃m',m'<m/\W (i+1) m' σ' H')/\∀x H',J.yld i H x H'->g x σ H' λσ2 H2=>tb {D with nx:=N,ct:=N,bk:=D.nx} σ2 H2)
def RK (wi:TI)(g:TG)(tb:TS):TS:=λD σ H=>wi σ H λJ H1=>RJ J g tb D σ H1
def DF {g:TG}{tb:TS}(hp:aeP (Z8 X.prog X.w) X.A X.env X.xe)(hc:X.calm=true)(hi:PI X tg iter wi)(hg:PG X tg g)(hb:wc X body tb)(hs:∀x,aa8 iter X.env x=pure x:=by intro _;rfl):PS X (.For tg iter body [] pos) (RK wi g tb):=O1 hp hc hi hg hb hs
end L2
namespace L2
inductive D where
 |non|bl (b:Bool)|int (i:Int)|str (x:Str)|tup (xs:List D)|lst (xs:List D)
instance:Inhabited D:=⟨.non⟩
mutual
def a7 (K:ZD)(H:Hp):D->V->Prop
 | .non,v=>v=.non
 | .bl b,v=>v=.bl b
 | .int i,v=>v=.int i
 | .str x,v=>v=.str x
 | .tup ds,v=>∃a xs,v=.ref a/\jj K H a xs/\ir K H ds xs
 | .lst ds,v=>∃a xs,v=.ref a/\gD K H a xs/\ir K H ds xs
def ir (K:ZD)(H:Hp):List D->List V->Prop
 | [],xs=>xs=[]
 |d::ds,xs=>∃x r,xs=x::r/\a7 K H d x/\ir K H ds r
end
mutual
noncomputable def iu:D->D->Bool
 | .non,.non=>true
 | .bl a,.bl b=>a==b
 | .bl a,.int b=>(if a then 1 else 0)==b
 | .int a,.bl b=>a==(if b then 1 else 0)
 | .int a,.int b=>a==b
 | .str a,.str b=>a==b
 | .tup xs,.tup ys=>lA xs ys
 | .lst xs,.lst ys=>lA xs ys
 |_,_=>false
noncomputable def lA:List D->List D->Bool
 | [],[]=>true
 |x::xs,y::ys=>iu x y&&lA xs ys
 |_,_=>false
end
mutual
noncomputable def cB:D->Nat
 | .tup xs=>fJ xs+1
 | .lst xs=>fJ xs+1
 |_=>0
noncomputable def fJ:List D->Nat
 | []=>0
 |x::xs=>max (cB x) (fJ xs)
end
theorem ir.length {K:ZD}{H:Hp}:∀{ds:List D} {xs:List V},ir K H ds xs->ds.length=xs.length
 | [],_,h=>by unfold ir at h;subst h;rfl
 |d::ds,_,h=>by
  unfold ir at h;obtain⟨x,r,rfl,_,q⟩:=h;rw[ZM,ZM,ir.length q]
theorem ir.get {K:ZD}{H:Hp}:∀{ds:List D} {xs:List V} {i:Nat} {d:D} {x:V},ir K H ds xs->ds[i]? = some d->xs[i]? = some x->a7 K H d x
 | [],_,_,_,_,_,e,_=>by simp at e
 |d::ds,_,i,d',x',h,e1,e2=>by
  unfold ir at h;obtain⟨x,r,rfl,p,q⟩:=h;cases i with
  |zero=>simp at e1 e2;subst e1 e2;exact p
  |succ i=>exact ir.get q (by simpa using e1) (by simpa using e2)
theorem iz:∀{ds:List D} {i:Nat} {d:D},ds[i]? = some d->cB d<=fJ ds
 | [],_,_,e=>by simp at e
 |d::ds,i,d',e=>by
  unfold fJ;cases i with
  |zero=>simp at e;subst e;exact Nat.le_max_left _ _
  |succ i=>exact aaz (iz (ds:=ds) (by simpa using e)) (Nat.le_max_right _ _)
noncomputable def eT (xs ys:List D)(j:Nat):Bool:=match xs[j]?,ys[j]? with
 |some a,some b=>iu a b
 |_,_=>true
theorem i4:∀(xs ys:List D),((aas (min xs.length ys.length)).all (eT xs ys)&&xs.length==ys.length)=lA xs ys
 | [],[]=>by simp[lA]
 | [],_::_=>by simp[lA]
 |_::_,[]=>by simp[lA]
 |x::xs,y::ys=>by
  have ih:=i4 xs ys;unfold lA;rw[←ih,ZM,ZM,Nat.add_min_add_right,List.range_succ_eq_map,ace,List.all_map];have e0:eT (x::xs) (y::ys) 0=iu x y:=rfl;have e1:(eT (x::xs) (y::ys)∘Nat.succ)=eT xs ys:=by funext j;simp[eT,Function.comp]
  rw[e0,e1,Bool.and_assoc];congr 1;congr 1;rw[aaR];simp
def ui {xs ys:List D}(h:xs.length≠ys.length):lA xs ys=false:=by
 rw[←i4,show (xs.length==ys.length)=false from by simpa using h,adA]
mutual
theorem zQ:∀d:D,iu d d=true
 | .non=>rfl
 | .bl b=>by unfold iu;simp
 | .int b=>by unfold iu;simp
 | .str b=>by unfold iu;simp
 | .tup xs=>by unfold iu;exact qF xs
 | .lst xs=>by unfold iu;exact qF xs
theorem qF:∀ds:List D,lA ds ds=true
 | []=>rfl
 |d::ds=>by unfold lA;rw[zQ d,qF ds];rfl
end
theorem RL {ys:List V}(I:aN X pins σ H s)(h:gD X.K H a xs)(h':jj X.K H a ys):False:=by
 obtain⟨its,_,p,_⟩:=I.list h;obtain⟨its',_,q,_⟩:=I.tuple h';exact absurd rfl (SeqAt.ne_of_list_tuple p.isList q)
theorem zS (I:aN X pins σ H s):∀n d1 d2 x,cB d1<=n->a7 X.K H d1 x->a7 X.K H d2 x->iu d1 d2=true:=by
 have lists:∀n,(∀d1 d2 x,cB d1<=n->a7 X.K H d1 x->a7 X.K H d2 x->iu d1 d2=true)->∀(ds es:List D) (xs:List V),fJ ds<=n->ir X.K H ds xs->ir X.K H es xs->lA ds es=true:=by
  intro n ih ds
  induction ds with
  |nil=>
   intro es xs _ h1 h2;unfold ir at h1;subst h1;cases es with
   |nil=>rfl
   |cons e es=>grind[ir]
  |cons d ds ihd=>
   intro es xs hd h1 h2;unfold ir at h1;obtain⟨x,r,rfl,p,q⟩:=h1;cases es with
   |nil=>unfold ir at h2;cases h2
   |cons e es=>
    unfold ir at h2;obtain⟨x',r',e',p',q'⟩:=h2;cases e';unfold fJ at hd;unfold lA;rw[ih d e x (aaz (Nat.le_max_left _ _) hd) p p',ihd es r (aaz (Nat.le_max_right _ _) hd) q q'];rfl
 intro n
 induction n with
 |zero=>
  intro d1 d2 x hd h1 h2;have fl:∀d,a7 X.K H d x->(∃a,x=.ref a)\/(d=.non/\x=.non)\/(∃b,d=.bl b/\x=.bl b)\/(∃b,d=.int b/\x=.int b)\/∃b,d=.str b/\x=.str b:=λd h=>by
   cases d with
   |non=>unfold a7 at h;exact .inr (.inl ⟨rfl,h⟩)
   |bl b=>unfold a7 at h;exact .inr (.inr (.inl ⟨b,rfl,h⟩))
   |int b=>unfold a7 at h;exact .inr (.inr (.inr (.inl ⟨b,rfl,h⟩)))
   |str b=>unfold a7 at h;exact .inr (.inr (.inr (.inr ⟨b,rfl,h⟩)))
   |tup ds=>grind[a7]
   |lst ds=>grind[a7]
  have nr:¬∃a,x=.ref a:=λh00=>by
   obtain⟨a,e⟩:=h00;subst e;cases d1 with
   |tup ds=>grind[cB]
   |lst ds=>grind[cB]
   |_=>unfold a7 at h1;cases h1
  have f1:=fl d1 h1;have f2:=fl d2 h2;rcases f1 with f1|⟨rfl,rfl⟩|⟨b,rfl,rfl⟩|⟨b,rfl,rfl⟩|⟨b,rfl,rfl⟩
  ·exact absurd f1 nr
  all_goals
   rcases f2 with f2|⟨rfl,f2⟩|⟨c,rfl,f2⟩|⟨c,rfl,f2⟩|⟨c,rfl,f2⟩
   ·exact absurd f2 nr
   all_goals first|(cases f2;exact zQ _)|cases f2
 |succ n ih=>
  intro d1 d2 x hd h1 h2;cases d1 with
  |tup ds=>
   unfold a7 at h1;obtain⟨a,xs,rfl,hs,hr⟩:=h1;cases d2 with
   |tup es=>
    unfold a7 at h2;obtain⟨a',xs',e,hs',hr'⟩:=h2;cases e;have:=I.tuple_inj hs hs';subst this;unfold iu;exact lists n ih ds es xs (by grind[cB]) hr hr'
   |lst es=>
    grind[a7,RL]
   |_=>unfold a7 at h2;cases h2
  |lst ds=>
   unfold a7 at h1;obtain⟨a,xs,rfl,hs,hr⟩:=h1;cases d2 with
   |lst es=>
    unfold a7 at h2;obtain⟨a',xs',e,hs',hr'⟩:=h2;cases e;have:=I.list_inj hs hs';subst this;unfold iu;exact lists n ih ds es xs (by grind[cB]) hr hr'
   |tup es=>
    grind[a7,RL]
   |_=>unfold a7 at h2;cases h2
  |_=>exact ih _ d2 x (by unfold cB;exact aaI _) h1 h2
theorem uj (I:aN X pins σ H s):∀(n:Nat) (d1 d2:D) (x y:V) (u v:ZF) (A:aar),cB d1<=n->A.units+n<abn->a7 X.K H d1 x->a7 X.K H d2 y->bA x u->bA y v->ab1 A s u v (iu d1 d2):=by
 intro n
 induction n with
 |zero=>
  intro d1 d2 x y u v A hd hu h1 h2 r1 r2;have dX:A.units<abn:=(by lia)
  cases d1 with
  |non=>
   unfold a7 at h1;subst h1;cases r1;cases d2 with
   |non=>
    unfold a7 at h2;subst h2;cases r2;exact ad7 _
   |bl b2=>
    unfold a7 at h2;subst h2;cases r2;exact SeqAt.EqAt.none_bool b2
   |int b2=>
    unfold a7 at h2;subst h2;obtain⟨t2,rfl⟩:=r2;exact SeqAt.EqAt.none_int b2 t2
   |str b2=>
    unfold a7 at h2;subst h2;obtain⟨t2,rfl⟩:=r2;exact SeqAt.EqAt.none_str b2 t2
   |tup b2=>
    unfold a7 at h2;obtain⟨a2,xs2,rfl,cV,g7⟩:=h2;cases r2;obtain⟨its2,rv2,p2,hz2⟩:=I.tuple cV;exact SeqAt.EqAt.none_tuple p2 dX
   |lst b2=>
    unfold a7 at h2;obtain⟨a2,xs2,rfl,cV,g7⟩:=h2;cases r2;obtain⟨its2,rv2,p2,hz2⟩:=I.list cV;exact SeqAt.EqAt.none_list p2.isList dX
  |bl b1=>
   unfold a7 at h1;subst h1;cases r1;cases d2 with
   |non=>
    unfold a7 at h2;subst h2;cases r2;exact SeqAt.EqAt.bool_none b1
   |bl b2=>
    unfold a7 at h2;subst h2;cases r2;exact SeqAt.EqAt.bool_bool b1 b2
   |int b2=>
    unfold a7 at h2;subst h2;obtain⟨t2,rfl⟩:=r2;exact SeqAt.EqAt.bool_int b1 b2 t2
   |str b2=>
    unfold a7 at h2;subst h2;obtain⟨t2,rfl⟩:=r2;exact SeqAt.EqAt.bool_str b1 b2 t2
   |tup b2=>
    unfold a7 at h2;obtain⟨a2,xs2,rfl,cV,g7⟩:=h2;cases r2;obtain⟨its2,rv2,p2,hz2⟩:=I.tuple cV;exact SeqAt.EqAt.bool_tuple b1 p2 dX
   |lst b2=>
    unfold a7 at h2;obtain⟨a2,xs2,rfl,cV,g7⟩:=h2;cases r2;obtain⟨its2,rv2,p2,hz2⟩:=I.list cV;exact SeqAt.EqAt.bool_list b1 p2.isList dX
  |int b1=>
   unfold a7 at h1;subst h1;obtain⟨t1,rfl⟩:=r1;cases d2 with
   |non=>
    unfold a7 at h2;subst h2;cases r2;exact SeqAt.EqAt.int_none b1 t1
   |bl b2=>
    unfold a7 at h2;subst h2;cases r2;exact SeqAt.EqAt.int_bool b1 t1 b2
   |int b2=>
    unfold a7 at h2;subst h2;obtain⟨t2,rfl⟩:=r2;exact aep b1 t1 b2 t2
   |str b2=>
    unfold a7 at h2;subst h2;obtain⟨t2,rfl⟩:=r2;exact SeqAt.EqAt.int_str b1 t1 b2 t2
   |tup b2=>
    unfold a7 at h2;obtain⟨a2,xs2,rfl,cV,g7⟩:=h2;cases r2;obtain⟨its2,rv2,p2,hz2⟩:=I.tuple cV;exact SeqAt.EqAt.int_tuple b1 t1 p2 dX
   |lst b2=>
    unfold a7 at h2;obtain⟨a2,xs2,rfl,cV,g7⟩:=h2;cases r2;obtain⟨its2,rv2,p2,hz2⟩:=I.list cV;exact SeqAt.EqAt.int_list b1 t1 p2.isList dX
  |str b1=>
   unfold a7 at h1;subst h1;obtain⟨t1,rfl⟩:=r1;cases d2 with
   |non=>
    unfold a7 at h2;subst h2;cases r2;exact SeqAt.EqAt.str_none b1 t1
   |bl b2=>
    unfold a7 at h2;subst h2;cases r2;exact SeqAt.EqAt.str_bool b1 t1 b2
   |int b2=>
    unfold a7 at h2;subst h2;obtain⟨t2,rfl⟩:=r2;exact SeqAt.EqAt.str_int b1 t1 b2 t2
   |str b2=>
    unfold a7 at h2;subst h2;obtain⟨t2,rfl⟩:=r2;exact SeqAt.EqAt.str_str b1 t1 b2 t2
   |tup b2=>
    unfold a7 at h2;obtain⟨a2,xs2,rfl,cV,g7⟩:=h2;cases r2;obtain⟨its2,rv2,p2,hz2⟩:=I.tuple cV;exact SeqAt.EqAt.str_tuple b1 t1 p2 dX
   |lst b2=>
    unfold a7 at h2;obtain⟨a2,xs2,rfl,cV,g7⟩:=h2;cases r2;obtain⟨its2,rv2,p2,hz2⟩:=I.list cV;exact SeqAt.EqAt.str_list b1 t1 p2.isList dX
  |tup ds=>unfold cB at hd;lia
  |lst ds=>unfold cB at hd;lia
 |succ n ih=>
  intro d1 d2 x y u v A hd hu h1 h2 r1 r2;have dX:A.units<abn:=(by lia)
  cases d1 with
  |tup ds=>
   unfold a7 at h1;obtain⟨a1,xs1,rfl,hs1,hr1⟩:=h1;cases r1;obtain⟨its1,rv1,p1,hz1⟩:=I.tuple hs1;cases d2 with
   |non=>
    unfold a7 at h2;subst h2;cases r2;exact SeqAt.EqAt.tuple_none p1 dX
   |bl b2=>
    unfold a7 at h2;subst h2;cases r2;exact SeqAt.EqAt.tuple_bool b2 p1 dX
   |int b2=>
    unfold a7 at h2;subst h2;obtain⟨t2,rfl⟩:=r2;exact SeqAt.EqAt.tuple_int b2 t2 p1 dX
   |str b2=>
    unfold a7 at h2;subst h2;obtain⟨t2,rfl⟩:=r2;exact SeqAt.EqAt.tuple_str b2 t2 p1 dX
   |tup es=>
    unfold a7 at h2;obtain⟨a2,xs2,rfl,cV,g7⟩:=h2;cases r2;obtain⟨its2,rv2,p2,hz2⟩:=I.tuple cV;by_cases xU:a1=a2
    ·subst xU;rw[zS I (n+1) (.tup ds) (.tup es) (.ref a1) hd (by unfold a7;exact⟨a1,xs1,rfl,hs1,hr1⟩) (by unfold a7;exact⟨a1,xs2,rfl,cV,g7⟩)];exact ad7 _
    ·refine aer xU ?_;have l1:its1.toArray.size=ds.length:=by rw[ZI,←rv1.length,hr1.length]
     have l2:its2.toArray.size=es.length:=by rw[ZI,←rv2.length,g7.length]
     have k1:xs1.length=ds.length:=hr1.length.symm;have k2:xs2.length=es.length:=g7.length.symm;have he:∀j (h1:j<its1.toArray.size) (h2:j<its2.toArray.size),ab1 A.in1 s its1.toArray[j] its2.toArray[j] (eT ds es j):=λj g1 g2=>by
      have q1:ds[j]? = some ds[j]:=Zw (by lia);have q2:es[j]? = some es[j]:=Zw (by lia);have e1:xs1[j]? = some xs1[j]:=Zw (by lia);have e2:xs2[j]? = some xs2[j]:=Zw (by lia);obtain⟨u1,z1,w1⟩:=rv1.get e1;obtain⟨u2,z2,w2⟩:=rv2.get e2;have y1:its1.toArray[j]=u1:=by
       have:=ZN.mp z1;obtain⟨_,q⟩:=this;simpa using q
      have y2:its2.toArray[j]=u2:=by
       have:=ZN.mp z2;obtain⟨_,q⟩:=this;simpa using q
      rw[y1,y2];have:eT ds es j=iu ds[j] es[j]:=by unfold eT;rw[q1,q2]
      rw[this];refine ih ds[j] es[j] xs1[j] xs2[j] u1 u2 A.in1 ?_ (by show A.units+1+n<abn;lia) (hr1.get q1 e1) (g7.get q2 e2) w1 w2;have:=iz q1;unfold cB at hd;lia
     have q:=aeI (A:=A) p1 p2 dX he;rw[l1,l2,i4] at q;unfold iu;exact q
   |lst es=>
    unfold a7 at h2;obtain⟨a2,xs2,rfl,cV,g7⟩:=h2;cases r2;obtain⟨its2,rv2,p2,hz2⟩:=I.list cV;exact SeqAt.EqAt.tuple_list p1 p2.isList dX
  |lst ds=>
   unfold a7 at h1;obtain⟨a1,xs1,rfl,hs1,hr1⟩:=h1;cases r1;obtain⟨its1,rv1,p1,hz1⟩:=I.list hs1;cases d2 with
   |non=>
    unfold a7 at h2;subst h2;cases r2;exact SeqAt.EqAt.list_none p1.isList dX
   |bl b2=>
    unfold a7 at h2;subst h2;cases r2;exact SeqAt.EqAt.list_bool b2 p1.isList dX
   |int b2=>
    unfold a7 at h2;subst h2;obtain⟨t2,rfl⟩:=r2;exact SeqAt.EqAt.list_int b2 t2 p1.isList dX
   |str b2=>
    unfold a7 at h2;subst h2;obtain⟨t2,rfl⟩:=r2;exact SeqAt.EqAt.list_str b2 t2 p1.isList dX
   |tup es=>
    unfold a7 at h2;obtain⟨a2,xs2,rfl,cV,g7⟩:=h2;cases r2;obtain⟨its2,rv2,p2,hz2⟩:=I.tuple cV;exact SeqAt.EqAt.list_tuple p1.isList p2 dX
   |lst es=>
    unfold a7 at h2;obtain⟨a2,xs2,rfl,cV,g7⟩:=h2;cases r2;obtain⟨its2,rv2,p2,hz2⟩:=I.list cV;by_cases xU:a1=a2
    ·subst xU;rw[zS I (n+1) (.lst ds) (.lst es) (.ref a1) hd (by unfold a7;exact⟨a1,xs1,rfl,hs1,hr1⟩) (by unfold a7;exact⟨a1,xs2,rfl,cV,g7⟩)];exact ad7 _
    ·refine aer xU ?_;have l1:its1.toArray.size=ds.length:=by rw[ZI,←rv1.length,hr1.length]
     have l2:its2.toArray.size=es.length:=by rw[ZI,←rv2.length,g7.length]
     have k1:xs1.length=ds.length:=hr1.length.symm;have k2:xs2.length=es.length:=g7.length.symm;have he:∀j (h1:j<its1.toArray.size) (h2:j<its2.toArray.size),ab1 A.in1 s its1.toArray[j] its2.toArray[j] (eT ds es j):=λj g1 g2=>by
      have q1:ds[j]? = some ds[j]:=Zw (by lia);have q2:es[j]? = some es[j]:=Zw (by lia);have e1:xs1[j]? = some xs1[j]:=Zw (by lia);have e2:xs2[j]? = some xs2[j]:=Zw (by lia);obtain⟨u1,z1,w1⟩:=rv1.get e1;obtain⟨u2,z2,w2⟩:=rv2.get e2;have y1:its1.toArray[j]=u1:=by
       have:=ZN.mp z1;obtain⟨_,q⟩:=this;simpa using q
      have y2:its2.toArray[j]=u2:=by
       have:=ZN.mp z2;obtain⟨_,q⟩:=this;simpa using q
      rw[y1,y2];have:eT ds es j=iu ds[j] es[j]:=by unfold eT;rw[q1,q2]
      rw[this];refine ih ds[j] es[j] xs1[j] xs2[j] u1 u2 A.in1 ?_ (by show A.units+1+n<abn;lia) (hr1.get q1 e1) (g7.get q2 e2) w1 w2;have:=iz q1;unfold cB at hd;lia
     unfold iu;by_cases hl:ds.length=es.length
     ·have q:=SeqAt.RcAt.lists (A:=A) p1.isList p2.isList (by rw[l1,l2,hl]) dX he;rw[l1] at q;have z:=i4 ds es;rw[hl,aes,beq_self_eq_true,Bool.and_true] at z;rw[hl,z] at q;exact q
     ·rw[ui hl];exact aeJ (A:=A) p1.isList p2.isList (by rw[l1,l2];simpa using hl) dX
  |non=>exact ih _ d2 x y u v A (by unfold cB;exact aaI _) (by lia) h1 h2 r1 r2
  |bl b1=>exact ih _ d2 x y u v A (by unfold cB;exact aaI _) (by lia) h1 h2 r1 r2
  |int b1=>exact ih _ d2 x y u v A (by unfold cB;exact aaI _) (by lia) h1 h2 r1 r2
  |str b1=>exact ih _ d2 x y u v A (by unfold cB;exact aaI _) (by lia) h1 h2 r1 r2
theorem Pd (I:aN X pins σ H s)(n:Nat)(d1 d2:D)(x y:V)(u v:ZF)(A:aar)(hd:cB d1<=n)(hu:A.units+n<abn)(h1:a7 X.K H d1 x)(h2:a7 X.K H d2 y)(r1:bA x u)(r2:bA y v):SeqAt.RcAt A s u v (iu d1 d2):=by
  have dX:A.units<abn:=(by lia)
  cases d1 with
  |non=>
   unfold a7 at h1;subst h1;cases r1;cases d2 with
   |non=>
    unfold a7 at h2;subst h2;cases r2;exact SeqAt.RcAt.none_none
   |bl b2=>
    unfold a7 at h2;subst h2;cases r2;exact SeqAt.RcAt.none_bool b2
   |int b2=>
    unfold a7 at h2;subst h2;obtain⟨t2,rfl⟩:=r2;exact SeqAt.RcAt.none_int b2 t2
   |str b2=>
    unfold a7 at h2;subst h2;obtain⟨t2,rfl⟩:=r2;exact SeqAt.RcAt.none_str b2 t2
   |tup es=>
    unfold a7 at h2;obtain⟨a2,xs2,rfl,cV,g7⟩:=h2;cases r2;obtain⟨its2,rv2,p2,hz2⟩:=I.tuple cV;exact SeqAt.RcAt.none_tuple p2 dX
   |lst es=>
    unfold a7 at h2;obtain⟨a2,xs2,rfl,cV,g7⟩:=h2;cases r2;obtain⟨its2,rv2,p2,hz2⟩:=I.list cV;exact SeqAt.RcAt.none_list p2.isList dX
  |bl b1=>
   unfold a7 at h1;subst h1;cases r1;cases d2 with
   |non=>
    unfold a7 at h2;subst h2;cases r2;exact SeqAt.RcAt.bool_none b1
   |bl b2=>
    unfold a7 at h2;subst h2;cases r2;exact SeqAt.RcAt.bool_bool b1 b2
   |int b2=>
    unfold a7 at h2;subst h2;obtain⟨t2,rfl⟩:=r2;exact SeqAt.RcAt.bool_int b1 b2 t2
   |str b2=>
    unfold a7 at h2;subst h2;obtain⟨t2,rfl⟩:=r2;exact SeqAt.RcAt.bool_str b1 b2 t2
   |tup es=>
    unfold a7 at h2;obtain⟨a2,xs2,rfl,cV,g7⟩:=h2;cases r2;obtain⟨its2,rv2,p2,hz2⟩:=I.tuple cV;exact SeqAt.RcAt.bool_tuple b1 p2 dX
   |lst es=>
    unfold a7 at h2;obtain⟨a2,xs2,rfl,cV,g7⟩:=h2;cases r2;obtain⟨its2,rv2,p2,hz2⟩:=I.list cV;exact SeqAt.RcAt.bool_list b1 p2.isList dX
  |int b1=>
   unfold a7 at h1;subst h1;obtain⟨t1,rfl⟩:=r1;cases d2 with
   |non=>
    unfold a7 at h2;subst h2;cases r2;exact SeqAt.RcAt.int_none b1 t1
   |bl b2=>
    unfold a7 at h2;subst h2;cases r2;exact SeqAt.RcAt.int_bool b1 t1 b2
   |int b2=>
    unfold a7 at h2;subst h2;obtain⟨t2,rfl⟩:=r2;exact SeqAt.RcAt.int_int b1 t1 b2 t2
   |str b2=>
    unfold a7 at h2;subst h2;obtain⟨t2,rfl⟩:=r2;exact SeqAt.RcAt.int_str b1 t1 b2 t2
   |tup es=>
    unfold a7 at h2;obtain⟨a2,xs2,rfl,cV,g7⟩:=h2;cases r2;obtain⟨its2,rv2,p2,hz2⟩:=I.tuple cV;exact SeqAt.RcAt.int_tuple b1 t1 p2 dX
   |lst es=>
    unfold a7 at h2;obtain⟨a2,xs2,rfl,cV,g7⟩:=h2;cases r2;obtain⟨its2,rv2,p2,hz2⟩:=I.list cV;exact SeqAt.RcAt.int_list b1 t1 p2.isList dX
  |str b1=>
   unfold a7 at h1;subst h1;obtain⟨t1,rfl⟩:=r1;cases d2 with
   |non=>
    unfold a7 at h2;subst h2;cases r2;exact SeqAt.RcAt.str_none b1 t1
   |bl b2=>
    unfold a7 at h2;subst h2;cases r2;exact SeqAt.RcAt.str_bool b1 t1 b2
   |int b2=>
    unfold a7 at h2;subst h2;obtain⟨t2,rfl⟩:=r2;exact SeqAt.RcAt.str_int b1 t1 b2 t2
   |str b2=>
    unfold a7 at h2;subst h2;obtain⟨t2,rfl⟩:=r2;exact SeqAt.RcAt.str_str b1 t1 b2 t2
   |tup es=>
    unfold a7 at h2;obtain⟨a2,xs2,rfl,cV,g7⟩:=h2;cases r2;obtain⟨its2,rv2,p2,hz2⟩:=I.tuple cV;exact SeqAt.RcAt.str_tuple b1 t1 p2 dX
   |lst es=>
    unfold a7 at h2;obtain⟨a2,xs2,rfl,cV,g7⟩:=h2;cases r2;obtain⟨its2,rv2,p2,hz2⟩:=I.list cV;exact SeqAt.RcAt.str_list b1 t1 p2.isList dX
  |tup ds=>
   unfold a7 at h1;obtain⟨a1,xs1,rfl,hs1,hr1⟩:=h1;cases r1;obtain⟨its1,rv1,p1,hz1⟩:=I.tuple hs1;cases d2 with
   |non=>
    unfold a7 at h2;subst h2;cases r2;exact SeqAt.RcAt.tuple_none p1 dX
   |bl b2=>
    unfold a7 at h2;subst h2;cases r2;exact SeqAt.RcAt.tuple_bool b2 p1 dX
   |int b2=>
    unfold a7 at h2;subst h2;obtain⟨t2,rfl⟩:=r2;exact SeqAt.RcAt.tuple_int b2 t2 p1 dX
   |str b2=>
    unfold a7 at h2;subst h2;obtain⟨t2,rfl⟩:=r2;exact SeqAt.RcAt.tuple_str b2 t2 p1 dX
   |tup es=>
    unfold a7 at h2;obtain⟨a2,xs2,rfl,cV,g7⟩:=h2;cases r2;obtain⟨its2,rv2,p2,hz2⟩:=I.tuple cV;have l1:its1.toArray.size=ds.length:=by rw[ZI,←rv1.length,hr1.length]
    have l2:its2.toArray.size=es.length:=by rw[ZI,←rv2.length,g7.length]
    have k1:xs1.length=ds.length:=hr1.length.symm;have k2:xs2.length=es.length:=g7.length.symm;have he:∀j (h1:j<its1.toArray.size) (h2:j<its2.toArray.size),ab1 A.in1 s its1.toArray[j] its2.toArray[j] (eT ds es j):=λj g1 g2=>by
     have q1:ds[j]? = some ds[j]:=Zw (by lia);have q2:es[j]? = some es[j]:=Zw (by lia);have e1:xs1[j]? = some xs1[j]:=Zw (by lia);have e2:xs2[j]? = some xs2[j]:=Zw (by lia);obtain⟨u1,z1,w1⟩:=rv1.get e1;obtain⟨u2,z2,w2⟩:=rv2.get e2;have y1:its1.toArray[j]=u1:=by
      obtain⟨_,q⟩:=ZN.mp z1;simpa using q
     have y2:its2.toArray[j]=u2:=by
      obtain⟨_,q⟩:=ZN.mp z2;simpa using q
     rw[y1,y2];have:eT ds es j=iu ds[j] es[j]:=by unfold eT;rw[q1,q2]
     rw[this];have dl:=iz q1;unfold cB at hd;exact uj I (n-1) ds[j] es[j] xs1[j] xs2[j] u1 u2 A.in1 (by lia) (by show A.units+1+(n-1)<abn;lia) (hr1.get q1 e1) (g7.get q2 e2) w1 w2
    have q:=aeI (A:=A) p1 p2 dX he;rw[l1,l2,i4] at q;unfold iu;exact q
   |lst es=>
    unfold a7 at h2;obtain⟨a2,xs2,rfl,cV,g7⟩:=h2;cases r2;obtain⟨its2,rv2,p2,hz2⟩:=I.list cV;exact SeqAt.RcAt.tuple_list p1 p2.isList dX
  |lst ds=>
   unfold a7 at h1;obtain⟨a1,xs1,rfl,hs1,hr1⟩:=h1;cases r1;obtain⟨its1,rv1,p1,hz1⟩:=I.list hs1;cases d2 with
   |non=>
    unfold a7 at h2;subst h2;cases r2;exact SeqAt.RcAt.list_none p1.isList dX
   |bl b2=>
    unfold a7 at h2;subst h2;cases r2;exact SeqAt.RcAt.list_bool b2 p1.isList dX
   |int b2=>
    unfold a7 at h2;subst h2;obtain⟨t2,rfl⟩:=r2;exact SeqAt.RcAt.list_int b2 t2 p1.isList dX
   |str b2=>
    unfold a7 at h2;subst h2;obtain⟨t2,rfl⟩:=r2;exact SeqAt.RcAt.list_str b2 t2 p1.isList dX
   |tup es=>
    unfold a7 at h2;obtain⟨a2,xs2,rfl,cV,g7⟩:=h2;cases r2;obtain⟨its2,rv2,p2,hz2⟩:=I.tuple cV;exact SeqAt.RcAt.list_tuple p1.isList p2 dX
   |lst es=>
    unfold a7 at h2;obtain⟨a2,xs2,rfl,cV,g7⟩:=h2;cases r2;obtain⟨its2,rv2,p2,hz2⟩:=I.list cV;have l1:its1.toArray.size=ds.length:=by rw[ZI,←rv1.length,hr1.length]
    have l2:its2.toArray.size=es.length:=by rw[ZI,←rv2.length,g7.length]
    have k1:xs1.length=ds.length:=hr1.length.symm;have k2:xs2.length=es.length:=g7.length.symm;have he:∀j (h1:j<its1.toArray.size) (h2:j<its2.toArray.size),ab1 A.in1 s its1.toArray[j] its2.toArray[j] (eT ds es j):=λj g1 g2=>by
     have q1:ds[j]? = some ds[j]:=Zw (by lia);have q2:es[j]? = some es[j]:=Zw (by lia);have e1:xs1[j]? = some xs1[j]:=Zw (by lia);have e2:xs2[j]? = some xs2[j]:=Zw (by lia);obtain⟨u1,z1,w1⟩:=rv1.get e1;obtain⟨u2,z2,w2⟩:=rv2.get e2;have y1:its1.toArray[j]=u1:=by
      obtain⟨_,q⟩:=ZN.mp z1;simpa using q
     have y2:its2.toArray[j]=u2:=by
      obtain⟨_,q⟩:=ZN.mp z2;simpa using q
     rw[y1,y2];have:eT ds es j=iu ds[j] es[j]:=by unfold eT;rw[q1,q2]
     rw[this];have dl:=iz q1;unfold cB at hd;exact uj I (n-1) ds[j] es[j] xs1[j] xs2[j] u1 u2 A.in1 (by lia) (by show A.units+1+(n-1)<abn;lia) (hr1.get q1 e1) (g7.get q2 e2) w1 w2
    unfold iu;by_cases hl:ds.length=es.length
    ·have q:=SeqAt.RcAt.lists (A:=A) p1.isList p2.isList (by rw[l1,l2,hl]) dX he;rw[l1] at q;have z:=i4 ds es;rw[hl,aes,beq_self_eq_true,Bool.and_true] at z;rw[hl,z] at q;exact q
    ·rw[ui hl];exact aeJ (A:=A) p1.isList p2.isList (by rw[l1,l2];simpa using hl) dX
theorem Hm (I:aN X pins σ H s)(n:Nat)(d1 d2:D)(x y:V)(u v:ZF)(A:aar)(hd:cB d1<=n)(hu:A.units+n<abn)(h1:a7 X.K H d1 x)(h2:a7 X.K H d2 y)(r1:bA x u)(r2:bA y v):SeqAt.RcNeAt A s u v (!iu d1 d2):=by
  have dX:A.units<abn:=(by lia)
  cases d1 with
  |non=>
   unfold a7 at h1;subst h1;cases r1;cases d2 with
   |non=>
    unfold a7 at h2;subst h2;cases r2;exact SeqAt.RcNeAt.none_none
   |bl b2=>
    unfold a7 at h2;subst h2;cases r2;exact SeqAt.RcNeAt.none_bool b2
   |int b2=>
    unfold a7 at h2;subst h2;obtain⟨t2,rfl⟩:=r2;exact SeqAt.RcNeAt.none_int b2 t2
   |str b2=>
    unfold a7 at h2;subst h2;obtain⟨t2,rfl⟩:=r2;exact SeqAt.RcNeAt.none_str b2 t2
   |tup es=>
    unfold a7 at h2;obtain⟨a2,xs2,rfl,cV,g7⟩:=h2;cases r2;obtain⟨its2,rv2,p2,hz2⟩:=I.tuple cV;exact SeqAt.RcNeAt.none_tuple p2 dX
   |lst es=>
    unfold a7 at h2;obtain⟨a2,xs2,rfl,cV,g7⟩:=h2;cases r2;obtain⟨its2,rv2,p2,hz2⟩:=I.list cV;exact SeqAt.RcNeAt.none_list p2.isList dX
  |bl b1=>
   unfold a7 at h1;subst h1;cases r1;cases d2 with
   |non=>
    unfold a7 at h2;subst h2;cases r2;exact SeqAt.RcNeAt.bool_none b1
   |bl b2=>
    unfold a7 at h2;subst h2;cases r2;exact SeqAt.RcNeAt.bool_bool b1 b2
   |int b2=>
    unfold a7 at h2;subst h2;obtain⟨t2,rfl⟩:=r2;exact SeqAt.RcNeAt.bool_int b1 b2 t2
   |str b2=>
    unfold a7 at h2;subst h2;obtain⟨t2,rfl⟩:=r2;exact SeqAt.RcNeAt.bool_str b1 b2 t2
   |tup es=>
    unfold a7 at h2;obtain⟨a2,xs2,rfl,cV,g7⟩:=h2;cases r2;obtain⟨its2,rv2,p2,hz2⟩:=I.tuple cV;exact SeqAt.RcNeAt.bool_tuple b1 p2 dX
   |lst es=>
    unfold a7 at h2;obtain⟨a2,xs2,rfl,cV,g7⟩:=h2;cases r2;obtain⟨its2,rv2,p2,hz2⟩:=I.list cV;exact SeqAt.RcNeAt.bool_list b1 p2.isList dX
  |int b1=>
   unfold a7 at h1;subst h1;obtain⟨t1,rfl⟩:=r1;cases d2 with
   |non=>
    unfold a7 at h2;subst h2;cases r2;exact SeqAt.RcNeAt.int_none b1 t1
   |bl b2=>
    unfold a7 at h2;subst h2;cases r2;exact SeqAt.RcNeAt.int_bool b1 t1 b2
   |int b2=>
    unfold a7 at h2;subst h2;obtain⟨t2,rfl⟩:=r2;exact SeqAt.RcNeAt.int_int b1 t1 b2 t2
   |str b2=>
    unfold a7 at h2;subst h2;obtain⟨t2,rfl⟩:=r2;exact SeqAt.RcNeAt.int_str b1 t1 b2 t2
   |tup es=>
    unfold a7 at h2;obtain⟨a2,xs2,rfl,cV,g7⟩:=h2;cases r2;obtain⟨its2,rv2,p2,hz2⟩:=I.tuple cV;exact SeqAt.RcNeAt.int_tuple b1 t1 p2 dX
   |lst es=>
    unfold a7 at h2;obtain⟨a2,xs2,rfl,cV,g7⟩:=h2;cases r2;obtain⟨its2,rv2,p2,hz2⟩:=I.list cV;exact SeqAt.RcNeAt.int_list b1 t1 p2.isList dX
  |str b1=>
   unfold a7 at h1;subst h1;obtain⟨t1,rfl⟩:=r1;cases d2 with
   |non=>
    unfold a7 at h2;subst h2;cases r2;exact SeqAt.RcNeAt.str_none b1 t1
   |bl b2=>
    unfold a7 at h2;subst h2;cases r2;exact SeqAt.RcNeAt.str_bool b1 t1 b2
   |int b2=>
    unfold a7 at h2;subst h2;obtain⟨t2,rfl⟩:=r2;exact SeqAt.RcNeAt.str_int b1 t1 b2 t2
   |str b2=>
    unfold a7 at h2;subst h2;obtain⟨t2,rfl⟩:=r2;exact SeqAt.RcNeAt.str_str b1 t1 b2 t2
   |tup es=>
    unfold a7 at h2;obtain⟨a2,xs2,rfl,cV,g7⟩:=h2;cases r2;obtain⟨its2,rv2,p2,hz2⟩:=I.tuple cV;exact SeqAt.RcNeAt.str_tuple b1 t1 p2 dX
   |lst es=>
    unfold a7 at h2;obtain⟨a2,xs2,rfl,cV,g7⟩:=h2;cases r2;obtain⟨its2,rv2,p2,hz2⟩:=I.list cV;exact SeqAt.RcNeAt.str_list b1 t1 p2.isList dX
  |tup ds=>
   unfold a7 at h1;obtain⟨a1,xs1,rfl,hs1,hr1⟩:=h1;cases r1;obtain⟨its1,rv1,p1,hz1⟩:=I.tuple hs1;cases d2 with
   |non=>
    unfold a7 at h2;subst h2;cases r2;exact SeqAt.RcNeAt.tuple_none p1 dX
   |bl b2=>
    unfold a7 at h2;subst h2;cases r2;exact SeqAt.RcNeAt.tuple_bool b2 p1 dX
   |int b2=>
    unfold a7 at h2;subst h2;obtain⟨t2,rfl⟩:=r2;exact SeqAt.RcNeAt.tuple_int b2 t2 p1 dX
   |str b2=>
    unfold a7 at h2;subst h2;obtain⟨t2,rfl⟩:=r2;exact SeqAt.RcNeAt.tuple_str b2 t2 p1 dX
   |tup es=>
    unfold a7 at h2;obtain⟨a2,xs2,rfl,cV,g7⟩:=h2;cases r2;obtain⟨its2,rv2,p2,hz2⟩:=I.tuple cV;have l1:its1.toArray.size=ds.length:=by rw[ZI,←rv1.length,hr1.length]
    have l2:its2.toArray.size=es.length:=by rw[ZI,←rv2.length,g7.length]
    have k1:xs1.length=ds.length:=hr1.length.symm;have k2:xs2.length=es.length:=g7.length.symm;have he:∀j (h1:j<its1.toArray.size) (h2:j<its2.toArray.size),ab1 A.in1 s its1.toArray[j] its2.toArray[j] (eT ds es j):=λj g1 g2=>by
     have q1:ds[j]? = some ds[j]:=Zw (by lia);have q2:es[j]? = some es[j]:=Zw (by lia);have e1:xs1[j]? = some xs1[j]:=Zw (by lia);have e2:xs2[j]? = some xs2[j]:=Zw (by lia);obtain⟨u1,z1,w1⟩:=rv1.get e1;obtain⟨u2,z2,w2⟩:=rv2.get e2;have y1:its1.toArray[j]=u1:=by
      obtain⟨_,q⟩:=ZN.mp z1;simpa using q
     have y2:its2.toArray[j]=u2:=by
      obtain⟨_,q⟩:=ZN.mp z2;simpa using q
     rw[y1,y2];have:eT ds es j=iu ds[j] es[j]:=by unfold eT;rw[q1,q2]
     rw[this];have dl:=iz q1;unfold cB at hd;exact uj I (n-1) ds[j] es[j] xs1[j] xs2[j] u1 u2 A.in1 (by lia) (by show A.units+1+(n-1)<abn;lia) (hr1.get q1 e1) (g7.get q2 e2) w1 w2
    have q:=SeqAt.RcNeAt.tuples (A:=A) p1 p2 dX he;rw[l1,l2,i4] at q;unfold iu;exact q
   |lst es=>
    unfold a7 at h2;obtain⟨a2,xs2,rfl,cV,g7⟩:=h2;cases r2;obtain⟨its2,rv2,p2,hz2⟩:=I.list cV;exact SeqAt.RcNeAt.tuple_list p1 p2.isList dX
  |lst ds=>
   unfold a7 at h1;obtain⟨a1,xs1,rfl,hs1,hr1⟩:=h1;cases r1;obtain⟨its1,rv1,p1,hz1⟩:=I.list hs1;cases d2 with
   |non=>
    unfold a7 at h2;subst h2;cases r2;exact SeqAt.RcNeAt.list_none p1.isList dX
   |bl b2=>
    unfold a7 at h2;subst h2;cases r2;exact SeqAt.RcNeAt.list_bool b2 p1.isList dX
   |int b2=>
    unfold a7 at h2;subst h2;obtain⟨t2,rfl⟩:=r2;exact SeqAt.RcNeAt.list_int b2 t2 p1.isList dX
   |str b2=>
    unfold a7 at h2;subst h2;obtain⟨t2,rfl⟩:=r2;exact SeqAt.RcNeAt.list_str b2 t2 p1.isList dX
   |tup es=>
    unfold a7 at h2;obtain⟨a2,xs2,rfl,cV,g7⟩:=h2;cases r2;obtain⟨its2,rv2,p2,hz2⟩:=I.tuple cV;exact SeqAt.RcNeAt.list_tuple p1.isList p2 dX
   |lst es=>
    unfold a7 at h2;obtain⟨a2,xs2,rfl,cV,g7⟩:=h2;cases r2;obtain⟨its2,rv2,p2,hz2⟩:=I.list cV;have l1:its1.toArray.size=ds.length:=by rw[ZI,←rv1.length,hr1.length]
    have l2:its2.toArray.size=es.length:=by rw[ZI,←rv2.length,g7.length]
    have k1:xs1.length=ds.length:=hr1.length.symm;have k2:xs2.length=es.length:=g7.length.symm;have he:∀j (h1:j<its1.toArray.size) (h2:j<its2.toArray.size),ab1 A.in1 s its1.toArray[j] its2.toArray[j] (eT ds es j):=λj g1 g2=>by
     have q1:ds[j]? = some ds[j]:=Zw (by lia);have q2:es[j]? = some es[j]:=Zw (by lia);have e1:xs1[j]? = some xs1[j]:=Zw (by lia);have e2:xs2[j]? = some xs2[j]:=Zw (by lia);obtain⟨u1,z1,w1⟩:=rv1.get e1;obtain⟨u2,z2,w2⟩:=rv2.get e2;have y1:its1.toArray[j]=u1:=by
      obtain⟨_,q⟩:=ZN.mp z1;simpa using q
     have y2:its2.toArray[j]=u2:=by
      obtain⟨_,q⟩:=ZN.mp z2;simpa using q
     rw[y1,y2];have:eT ds es j=iu ds[j] es[j]:=by unfold eT;rw[q1,q2]
     rw[this];have dl:=iz q1;unfold cB at hd;exact uj I (n-1) ds[j] es[j] xs1[j] xs2[j] u1 u2 A.in1 (by lia) (by show A.units+1+(n-1)<abn;lia) (hr1.get q1 e1) (g7.get q2 e2) w1 w2
    unfold iu;by_cases hl:ds.length=es.length
    ·have q:=SeqAt.RcNeAt.lists (A:=A) p1.isList p2.isList (by rw[l1,l2,hl]) dX he;rw[l1] at q;have z:=i4 ds es;rw[hl,aes,beq_self_eq_true,Bool.and_true] at z;rw[hl,z] at q;exact q
    ·rw[ui hl];exact SeqAt.RcNeAt.lists_lengths (A:=A) p1.isList p2.isList (by rw[l1,l2];simpa using hl) dX
def Pe (K:ZD)(f:Bool->Bool):R2:=λx y H Q=>∃d1 d2,a7 K H d1 x/\a7 K H d2 y/\cB d1<=30/\Q (.bl (f (iu d1 d2))) H
theorem bF (hu:X.A.units+64<abn):l6 X (aa9 .Eq) (Pe X.K id):=by
 intro pins s σ H x y v u Q I rx ry h;obtain⟨d1,d2,h1,h2,hd,q⟩:=h;exact Pd I 30 d1 d2 x y v u X.A hd (by lia) h1 h2 rx ry X.prog X.w X.xe _ ⟨.bl _,H,I,rfl,q⟩
theorem iA (hu:X.A.units+64<abn):l6 X (aa9 .NotEq) (Pe X.K not):=by
 intro pins s σ H x y v u Q I rx ry h;obtain⟨d1,d2,h1,h2,hd,q⟩:=h;exact Hm I 30 d1 d2 x y v u X.A hd (by lia) h1 h2 rx ry X.prog X.w X.xe _ ⟨.bl _,H,I,rfl,q⟩
end L2
namespace L2
noncomputable def iU (n m:String):Bool:=(n==m)||(n=="bool"&&m=="int")
theorem Hn (K:ZD){n m:String}(hn:n∈["NoneType","bool","int","str","list","tuple","dict"])(hm:m∈["bool","int","str","list","tuple","dict"]) :
  PySem.W.kitOne K (.type n) (.type m)=some (iU n m):=by
 simp only[ZK,acn,or_false] at hn hm;rcases hn with rfl|rfl|rfl|rfl|rfl|rfl|rfl<;>rcases hm with rfl|rfl|rfl|rfl|rfl|rfl<;>kernel_rfl
inductive wm (K:ZD)(H:Hp):V->String->Prop where
 |non:wm K H .non "NoneType"
 |bl (x:Bool):wm K H (.bl x) "bool"
 |int (i:Int):wm K H (.int i) "int"
 |str (x:Str):wm K H (.str x) "str"
 |lst {a:ZY} {xs:List V} (e:H a=some (.lst xs)):wm K H (.ref a) "list"
 |frz {a:ZY} {o:Obj} {xs:List V} (e:H a=some (.frz o (.lst xs))):wm K H (.ref a) "list"
 |tup {a:ZY} {xs:List V} (e:H a=some (.tup xs)):wm K H (.ref a) "tuple"
 |dK {a:ZY} {bE:List (Key×V)} (e:H a=some (.dK bE)):wm K H (.ref a) "dict"
 |dT {a:ZY} {bE:List (List Key×V)} (e:H a=some (.dT bE)):wm K H (.ref a) "dict"
theorem wm.mem {x:V}{n:String}(h:wm K H x n):n∈["NoneType","bool","int","str","list","tuple","dict"]:=by
 cases h<;>simp
theorem wm.ty {x:V}{n:String}(h:wm K H x n):qD K H x (.type n):=by
 cases h with
 |non=>exact .non
 |bl=>exact .bl _
 |int=>exact .int _
 |str=>exact .str _
 |lst e=>exact .lst e
 |frz e=>exact .frz e
 |tup e=>exact .tup e
 |dK e=>exact .dK e
 |dT e=>exact .dT e
theorem zT {m:String}(hm:m∈["bool","int","str","list","tuple","dict"]):ez X (.builtin "isinstance") (λxs H Q=>∃x n,xs=[x,.ty m]/\wm X.K H x n/\Q (.bl (iU n m)) H):=by
 intro pins s σ H xs us Q I r h;obtain⟨x,n,rfl,ty,q⟩:=h;obtain⟨u,w',rfl,rx,rt⟩:=zH r;cases rt;exact Fj I rx ty.ty (Hn X.K ty.mem hm) λtk=>⟨.bl _,H,I.tok tk,rfl,q⟩
theorem zU:ez X (.type "range") (λxs H Q=>∃j,xs=[.int j]/\∀p,H p=none->Q (.ref p) (cE H p (.rng 0 j))):=by
 intro pins s σ H xs us Q I r h;obtain⟨j,rfl,q⟩:=h;obtain⟨u,rfl,rx⟩:=i0 r;obtain⟨t,rfl⟩:=rx;refine call_range_1 ⟨.ref s.heap.objs.size,cE H s.heap.objs.size (.rng 0 j),I.laid (λb u e=>Zx _ e) (ZP _) ?_,rfl,q _ (I.hok.fresh (ZP _))⟩;exact⟨_,_,_,ZQ _ rfl⟩
theorem BW {a:Int}{cy:Array ZF}(h:ItemsOf (λi v=>∃t,v=Value.int (a+i*1) t) cy n):bw ((aas n).map λi=>V.int (a+(i:Nat))) cy.toList:=by
 obtain⟨hs,hi⟩:=h;have gen:∀(l:List ZF) (k:Nat),(∀(i:Nat) v,l[i]? = some v->∃t,v=Value.int (a+((k+i:Nat):Int)*1) t)->bw ((List.range' k l.length).map λi=>V.int (a+(i:Nat))) l:=by
  intro l
  induction l with
  |nil=>intro k _;exact .nil
  |cons v r ih=>
   intro k hk;rw[ZM,List.range'_succ,ZR];refine .cons ?_ (ih (k+1) λi v e=>?_)
   ·obtain⟨t,e⟩:=hk 0 v rfl;exact⟨t,by rw[e];simp⟩
   ·obtain⟨t,e'⟩:=hk (i+1) v (by simpa using e);refine⟨t,?_⟩;rw[e',show k+(i+1)=k+1+i by lia]
 have q:=gen cy.toList 0 (λi v e=>by
  obtain⟨t,e'⟩:=hi i v (by simpa using e);exact⟨t,by rw[e',acD]⟩)
 rw[Z5,hs] at q;rw[List.range_eq_range'];exact q
theorem wq (hc:X.calm=true):ez X (.type "list") (λxs H Q=>∃p lo hi,xs=[.ref p]/\H p=some (.rng lo hi)/\(-(2 ^ 62)<=lo/\lo<2 ^ 62/\ -(2 ^ 62)<=hi/\hi<2 ^ 62)/\(hi-lo).toNat<=2 ^ 20/\
  ∀l,H l=none->Q (.ref l) (cE H l (.lst ((aas (hi-lo).toNat).map λi=>V.int (lo+(i:Nat)))))):=by
 intro pins s σ H xs us Q I r h;obtain⟨p,lo,hi,rfl,hp,⟨h1,h2,h3,h4⟩,hz,q⟩:=h;obtain⟨u,rfl,rx⟩:=i0 r;cases rx;obtain⟨t,u,v,e⟩:=I.hok p _ hp;refine call_list_range (n:=(hi-lo).toNat) (I.ok.hd hc) (c:=1) (show IsRange s.heap p lo hi 1 t u v from e) (small_one h1 h2 h3 h4) (by rw[rangeSize_one];split<;>lia) (by lia) λh' tk V5 c' hk Ox Km=>?_;have hl:((aas (hi-lo).toNat).map λi=>V.int (lo+(i:Nat))).length<=ZH:=by
  rw[Zz,aaX,abw];lia
 refine⟨.ref s.heap.objs.size,_,I.laid hk (ZP _) (show bT X.prog X.w _ _ _ (.lst _) from ⟨hl,V5.toList,c',BW Km,by simpa using Ox⟩),rfl,q _ (I.hok.fresh (ZP _))⟩
def Ho (i j:Int):Prop:=0<j/\j<18446744073709551616
theorem BX (h:n<18446744073709551616):n.log2<9000:=by
 by_cases h0:n=0
 ·subst h0;decide
 ·have:=(Nat.log2_lt h0 (k:=64)).mpr (by lia);lia
theorem nE:l6 X (acX .FloorDiv) (rI Ho λi j=>.int (i / j)):=Ug λi j _ _ _ _ _ hc q=>by
 refine floordiv_int (by have:=hc.1;lia) ?_ (.inl (PyProof.noPylong_of_log2 (BX (by have:=hc.1;have:=hc.2;lia))));rw[Int.fdiv_eq_ediv_of_nonneg _ (by have:=hc.1;lia)];exact q
def tN:aai "list"=some (.type "list"):=by rfl
def dD:aai "tuple"=some (.type "tuple"):=by decide+kernel
def Hq:aai "int"=some (.type "int"):=by decide+kernel
def yb:aai "bool"=some (.type "bool"):=by rfl
def Hr:aai "range"=some (.type "range"):=by decide+kernel
def bG:aai "len"=some (.builtin "len"):=by decide+kernel
def Hs:aai "max"=some (.builtin "max"):=by rfl
def Pf:aai "min"=some (.builtin "min"):=by decide+kernel
def Ht:aai "abs"=some (.builtin "abs"):=by decide+kernel
def oo:aai "isinstance"=some (.builtin "isinstance"):=by rfl
def iB:aai "sorted"=some (.builtin "sorted"):=by decide+kernel
def Hu:aai "all"=some (.builtin "all"):=by decide+kernel
def Pg:aai "sum"=some (.builtin "sum"):=by rfl
end L2
namespace HT
open L2
section
variable {A:aar}
theorem getItem_tuple_whole {t sl:ZY}{vl vu:ZF}{lo:Option Int}(ht:IsTup s.heap t items)(hs:s.heap.IsSliceOf sl vl vu .none)(pl:IsPart vl lo)(pu:IsPart vu hi)(hw:sIx items.size 0 lo=0/\sIx items.size items.size hi=items.size)(h:Q (.ref t) s):Z1 (Z8 prog w) A (ad5 (.ref t) (.ref sl)) Q E s:=by
 obtain⟨os,hos,hcs,hds⟩:=id hs;have VP:s.TypeIs (.ref sl) "slice":=⟨os,hos,hcs⟩;unfold ad5
 try with_reducible refine aaW ?_
 first|refine Zv (Zy ?_)|skip
 refine Zv (wpAny_sequenceKey ht.typeIs (by decide) ?_);refine Zv (aaw (name:=ZL "__getitem__") ht.typeIs abl
  (aav abl ht.typeIs entry_tuple_getitem ?_ (args_tuple_getitem _ _)))
 show Z1 _ _ (acQ (.ref t) >>= _) _ _ s;refine Zv (tupleItemsOf_ ht ?_);refine Zv (aeq VP ?_);rw[hV (by decide)];refine Zv (kT hs pl pu ?_);obtain⟨w1,w2⟩:=hw;rw[w1,w2];show Z1 _ _ (if (((0:Nat):Int)==0&&(1:Int)==1&&(items.size-0)==items.size)=true then _ else _) _ _ s;rw[hV (by simp)];have KG:Z1 (Z8 prog w) A.in1 (aee (.ref t)) (λb s'=>b=true/\s'=s) E s:=by
  unfold aee;exact Zv (aeq ht.typeIs (Zy ⟨(by decide),rfl⟩))
 refine Zv (aaN KG (λb s' hb=>?_) λ_ _ e=>e);obtain⟨rfl,rfl⟩:=hb;rw[hV rfl];exact Zv (acJ (Zy ⟨_,rfl,Zy h⟩))
end
end HT
namespace L2
def uk {p:ZY}(h:H p=none)(o:HO):aR H (cE H p o):=λb u q=>by rw[bq (bR q h)];exact q
end L2
namespace HT
open L2
end HT
namespace L2
def zV:V->List V->Hp->VK->Prop:=λx vs H Q=>∃l b xs zs,x=.ref l/\vs=[.ref b]/\H l=some (.lst xs)/\H b=some (.tup zs)/\xs.length+zs.length<=ZH/\Q .non (cE H l (.lst (xs++zs)))
theorem BY:Va X "list.extend" zV:=by
 intro pins s σ H x vs v us Q I rx rv h;obtain⟨l,b,xs,zs,rfl,rfl,hH,hB,hz,q⟩:=h;cases rx;obtain⟨u,rfl,ru⟩:=rv.one;cases ru;obtain⟨z,its,n,r,hl,e⟩:=I.lstM hH;obtain⟨z2,its2,r2,_,n2,e2⟩:=I.hok b _ hB;have QJ:=r2.length;have hsz:its.toArray.size+its2.toArray.size<=ZH:=by rw[ZI,ZI];lia
 have Ko:¬(!its.toArray.isEmpty&&ab3 (its.toArray.size+its2.toArray.size))=true:=by
  rw[zL hsz,adA];exact ZE
 refine call_meets F.slot_list_extend ⟨_,e,rfl⟩ F.entry_list_extend (F.args_list_extend_2 _ _)
  (AutoSeq1.list_extend_list_tuple_0 l its.toArray n b its2.toArray n2 Ko (by rw[ZI];lia) (by lia)) ⟨e,e2,?_⟩
 refine⟨.non,_,I.lset (its':=its++its2) hH e (by simp) (r.append r2) ?_,rfl,q⟩;rw[ZJ];lia
theorem lB:ez X (.builtin "sorted") (λxs H Q=>∃(p:ZY) (ns:List Int),xs=[.ref p]/\(gD X.K H p (ns.map V.int)\/jj X.K H p (ns.map V.int))/\ns.length<64/\
  ∀(l:ZY) (rF:List Int),H l=none->rF.Perm ns->rF.Pairwise (·<=·)->Q (.ref l) (cE H l (.lst (rF.map V.int)))):=by
 intro pins s σ H xs us Q I r h;obtain⟨p,ns,rfl,hq,h64,q⟩:=h;obtain⟨u,rfl,rx⟩:=i0 r;cases rx;have src:∃(T:String) (o:Obj) (its:List ZF) (n:Nat),(T="list"\/T="tuple")/\s.heap.get? p=some o/\o.cls=.type T/\o.data=.seq its.toArray n/\abA its ns:=by
  rcases hq with hq|hq
  ·obtain⟨its,rv,pl,hz⟩:=I.list hq;obtain⟨o,e,c,n,d⟩:=pl.isList;exact⟨"list",o,its,n,.inl rfl,e,c,d,eR rv⟩
  ·obtain⟨its,rv,pl,hz⟩:=I.tuple hq;obtain⟨o,e,c,n,d⟩:=pl;exact⟨"tuple",o,its,n,.inr rfl,e,c,d,eR rv⟩
 obtain⟨T,o,its,n,hT,ho,hc,hd,hI⟩:=src;have jD:its.length=ns.length:=hI.length;refine aey kind_sorted plain_sorted entry_sorted (args_sorted1 _) ?_;unfold Builtin.«sorted»;refine Zv (m:=checkCount "sorted" 1 1 _) (Zy ?_);refine Zv (acM p hT ho hc hd (λh1 k1=>?_) (by rw[ZI,abw];lia));refine Zv (wpAny_newList ?_);have QK:(h1.push (aet "list" its.toArray 0)).get? h1.objs.size=some (aet "list" its.toArray 0):=ZQ _ rfl;have QL:(h1.push {cls:=.type "list",data:=.seq (its.toArray.toList).toArray}).get? h1.objs.size=some (aet "list" its.toArray 0):=by simpa using QK
 refine Zv (aaW (aav slot_list_sort ⟨_,QL,rfl⟩ entry_list_sort (list_sort_tree QL hI (by lia) λout rF a1 a2 a3=>⟨_,rfl,?_⟩) (args_list_sort _)));refine Zy ⟨_,rfl,?_⟩;obtain⟨e,he⟩:=sortedHeap_at (out:=out) QL;have keep:∀b o,h1.get? b=some o->(sortedHeap (h1.push {cls:=.type "list",data:=.seq (its.toArray.toList).toArray}) h1.objs.size its out).get? b=some o:=λb o e=>by
  have hb:=ZU e;rw[sortedHeap_old (Z6 hb) (by rw[aaU];exact abF hb)];exact Zx _ e
 have I1:aN X pins σ H {s with heap:=h1}:=I.kept (t':=s.toks) k1;have QJ:(rF.map V.int).length<=ZH:=by rw[Zz,a2.length_eq,abw];lia
 exact⟨.ref h1.objs.size,_,I1.laid (t':=s.toks) keep (ZP _) (show bT X.prog X.w _ _ _ (.lst _) from ⟨QJ,out.toList,e,qE a1,by simp[*]⟩),rfl,q _ rF (I1.hok.fresh (ZP _)) a2 a3⟩
theorem Fs {bs:List Bool}{us:List ZF}(r:bw (bs.map V.bl) us){v:ZF}(h:us[i]? = some v):v=.bool (bs.getD i true):=by
 have hl:=r.length;rw[Zz] at hl;obtain⟨hi,_⟩:=ZN.mp h;have e:(bs.map V.bl)[i]? = some (V.bl (bs.getD i true)):=by
  rw[Z2,Zw (by lia)];simp[acU,Zw (show i<bs.length by lia)]
 obtain⟨u,hu,ru⟩:=r.get e;rw[h] at hu;cases hu;exact ru
theorem Ft (bs:List Bool):((aas bs.length).all λi=>bs.getD i true)=bs.all id:=by
 induction bs with
 |nil=>rfl
 |cons b bs ih=>
  rw[ZM,List.range_succ_eq_map,ace,List.all_map,ace];congr 1
theorem xk (hc:X.calm=true):ez X (.builtin "all") (λxs H Q=>∃(p:ZY) (bs:List Bool),xs=[.ref p]/\gD X.K H p (bs.map V.bl)/\Q (.bl (bs.all id)) H):=by
 intro pins s σ H xs us Q I r h;obtain⟨p,bs,rfl,hq,q⟩:=h;obtain⟨u,rfl,rx⟩:=i0 r;cases rx;obtain⟨its,rv,pl,hz⟩:=I.list hq;have hl:=pl.isList;have wY:p<s.heap.objs.size:=by obtain⟨_,e,_⟩:=hl;exact ZU e
 refine call_all_walk (adm hl ?_);refine⟨s.heap.objs.size,_,_,_,_,_,λi=>bs.getD i true,rfl,Walks.list (A:=X.A.in1) (I.ok.hd hc) _ p (Z6 wY) its.toArray,⟨⟨_,ZQ _ rfl,rfl,rfl⟩,hl.push _⟩,?_,λh' tk hk=>?_⟩
 ·intro i v s' Q' E' hP X6;grind[Fs,abE]
 ·have e:(aas its.toArray.size).all (λi=>bs.getD i true)=bs.all id:=by
   rw[ZI,←rv.length,Zz];exact Ft bs
  rw[e];refine⟨.bl _,H,I.kept λb o e=>hk b o (λhm=>?_) (Zx _ e),rfl,q⟩;rcases ZK.mp hm with e1|hm
  ·exact absurd (e1▸ZU e) (abe _)
  ·cases hm
def Hv (K:ZD):V->Option Int->Option Int->Hp->VK->Prop:=λx lo hi H Q=>∃a xs,x=.ref a/\H a=some (.tup xs)/\∀r H',aR H H'->H' r=some (.tup (t_ xs lo hi))->Q (.ref r) H'
theorem Lf:G7 X (Hv X.K):=by
 have base:G7 X (Rx X.K):=O7;intro pins s σ H x v vl vu lo hi sl Q I rx hs pl pu h;obtain⟨a,xs,rfl,QB,q⟩:=h;have hx:jj X.K H a xs:=jj.of QB;by_cases hw:HT.sIx xs.length 0 lo=0/\HT.sIx xs.length xs.length hi=xs.length
 ·cases rx;obtain⟨its,r,ht,hz⟩:=I.tuple hx;have hl:its.toArray.size=xs.length:=by rw[ZI,r.length]
  refine⟨"tuple",_,PyProof.Rows.slot_tuple_getitem.lookup,ht.typeIs,HT.getItem_tuple_whole ht hs pl pu (by rw[hl];exact hw) ⟨.ref a,H,I,rfl,q a H (aR.refl _) ?_⟩⟩;have e:t_ xs lo hi=xs:=by unfold t_;rw[hw.1,hw.2];simp
  rw[e];exact QB
 ·exact base pins s σ H _ v vl vu lo hi sl Q I rx hs pl pu ⟨a,xs,rfl,hx,hw,λp hp=>q p _ (uk hp _) bC⟩
def Hw:R2:=λx y H Q=>∃a b xs ys,x=.ref a/\y=.ref b/\H a=some (.tup xs)/\H b=some (.tup ys)/\xs.length+ys.length<=ZH/\∀r H',aR H H'->H' r=some (.tup (xs++ys))->Q (.ref r) H'
theorem Hx:l6 X (acX .Add) Hw:=by
 intro pins s σ H x y v u Q I rx ry h;obtain⟨a,b,xs,ys,rfl,rfl,Dg,zx,hz,q⟩:=h;have ha:jj X.K H a xs:=jj.of Dg;have hb:jj X.K H b ys:=jj.of zx;by_cases hx:xs=[]
 ·subst hx;cases rx;cases ry;obtain⟨its,r1,p1,_⟩:=I.tuple ha;obtain⟨its2,r2,p2,_⟩:=I.tuple hb;have e1:its=[]:=(bw.nil_iff r1).mpr rfl;subst e1;obtain⟨⟨cls,dd,data,sl⟩,ho,hc,n,hd⟩:=id p1;obtain⟨⟨cls2,Ou,data2,Ov⟩,ho2,hc2,n2,BE⟩:=id p2;simp only at hc hd hc2 BE;subst hc hd hc2 BE;exact concat_meets ⟨_,ho,rfl⟩ ⟨_,ho2,rfl⟩ noFill_tuple_add seq_tuple_add adj ac8 (ac2 _ _)
   (tuple_addW0 a b ([]:List ZF).toArray its2.toArray n n2 dd Ou sl Ov (by simp)) ⟨ho,ho2,⟨.ref b,H,I,rfl,q b H (aR.refl _) (by simpa using zx)⟩⟩
 ·refine K7 pins s σ H _ _ v u Q I rx ry ⟨a,b,xs,ys,rfl,rfl,ha,hb,hx,hz,λe=>?_,λ_ p hp=>q p _ (uk hp _) bC⟩;subst e;exact q a H (aR.refl _) (by simpa using Dg)
end L2
namespace L2
structure Fn (P:abM)(w:acd)(K:ZD)(mg:Str->Option ZF)(base:abT)(x:Str)(k:Nat)(ps:List Str)(sp:Sp):Prop where
 ex:∃(f:ZY) (fd:adR),mg x=some (.ref f)/\acs K (.ref f)=true/\w9 K fd ps []/\nZ P w K mg base zM k f fd ps sp
structure Df (K:ZD)(mg:Str->Option ZF)(x:Str)(st:aca):Prop where
 ex:∃(f:ZY) (fd:adR),mg x=some (.ref f)/\Kw K x x st f fd
section
variable {base:abT}
theorem Df.fn {st:aca}(d:Df K mg x st)(S:aK N ps (aq st))(hb:∀(kV qB pm:ZF) (an:Option ZY) (cc ct:ZF) (us:List ZF),us.length=ps.length->bindArgs (abi x x (gF st) (cJ st) (aq st) .none kV qB pm an cc ct) ⟨us,[]⟩=pure (ps.zip us))(len:∀vs H Q E,sp vs H Q E->vs.length=ps.length)(j6:∀(f:ZY) (cc:ZF) (A:aar) (outer:List Env) (s:ZT) (H:Hp) (vs:List V) (Q:VK) (E:XK),gE k (A.deeper (aeo x (aq st) s.heap.objs.size f cc))->sp vs H Q E->
   ∃t,wc (sN zM P w K mg base N x (aq st) f cc A outer s H E).nox (cJ st) t/\t {nx:=λ_ H'=>Q .non H',rt:=Q} (ac4 N vs) H):Fn P w K mg base x (k+1) ps sp:=by
 obtain⟨f,fd,m,F⟩:=d.ex;exact⟨f,fd,m,F.kp,F.binds hb,F.ok S len (j6 f)⟩
end
section
variable {p:Pos}{e:abd}{es:List abd}{t:TA}
theorem zW (F:Fn X.prog X.w X.K X.mg X.base x k ps sp)(hr:gE k X.A)(ha:PA X (e::es) t)(hg:Gl X x:=by rfl)(De:(x==("__debug__":Str))=false:=by decide)
  (he:ZX (e::es) X.env=(false,acP e X.env)::ZX es X.env:=by rfl) (sJ:(abL pos (ZX es X.env)).any (·.1)=false:=by rfl) :
  PE X (.Call (.Name x p) (e::es) [] pos) (MS sp [] E0 t):=by
 obtain⟨f,fd,hm,hk,hb,G⟩:=F.ex;exact K3 G hr hg hm hk hb .nil RE ha De he sJ
end
theorem aR.seqT (e:aR H H')(h:jj K H a xs):jj K H' a xs:=by
 rcases h with (h|⟨o,h⟩)|h
 ·exact .inl (.inl (e _ _ h))
 ·exact .inl (.inr ⟨o,e _ _ h⟩)
 ·exact .inr h
mutual
theorem aR.rep {K:ZD}{H H':Hp}(e:aR H H'):∀{d:D} {v:V},a7 K H d v->a7 K H' d v
 | .non,v,h=>by unfold a7 at h ⊢;exact h
 | .bl b,v,h=>by unfold a7 at h ⊢;exact h
 | .int b,v,h=>by unfold a7 at h ⊢;exact h
 | .str b,v,h=>by unfold a7 at h ⊢;exact h
 | .tup ds,v,h=>by
  unfold a7 at h ⊢;obtain⟨a,xs,r,q,z⟩:=h;exact⟨a,xs,r,e.seqT q,aR.reps e z⟩
 | .lst ds,v,h=>by
  unfold a7 at h ⊢;obtain⟨a,xs,r,q,z⟩:=h;exact⟨a,xs,r,e.seq q,aR.reps e z⟩
theorem aR.reps {K:ZD}{H H':Hp}(e:aR H H'):∀{ds:List D} {vs:List V},ir K H ds vs->ir K H' ds vs
 | [],vs,h=>by unfold ir at h ⊢;exact h
 |d::ds,vs,h=>by
  unfold ir at h ⊢;obtain⟨x,r,q,p,z⟩:=h;exact⟨x,r,q,aR.rep e p,aR.reps e z⟩
end
end L2
namespace L2
inductive U where
 |non|bl (b:Bool)|int (i:Int)|str (x:Str)|tup (xs:List U)|lst (xs:List U)|dct (ks vs:List U)|scr (xs:List U)
instance:Inhabited U:=⟨.non⟩
inductive R (α:Type) where
 |ok (a:α)|exc (c:String) (u:U)|stk
noncomputable def R.bind {α β:Type}:R α->(α->R β)->R β
 | .ok a,f=>f a
 | .exc c u,_=>.exc c u
 | .stk,_=>.stk
noncomputable abbrev Ev:=List (Option U)
inductive SR where
 |nx (ρ:Ev)|rt (u:U) (ρ:Ev)|bk (ρ:Ev)|ct (ρ:Ev)|exc (c:String) (u:U)|stk
end L2
variable {us ks rest:List L2.U}{es:List (List L2.U×ZY×L2.V)}{ρ ρ1:L2.Ev}{sg:L2.U->L2.Ev->L2.R L2.Ev}{z u':L2.U}{F:L2.U->L2.U}{x5:Option L2.U}
namespace L2
open Sem (wp)
mutual
noncomputable def yc:U->U->Bool
 | .non,.non=>true
 | .bl a,.bl b=>decide (a=b)
 | .int a,.int b=>decide (a=b)
 | .str a,.str b=>decide (a=b)
 | .tup a,.tup b=>qG a b
 | .lst a,.lst b=>qG a b
 | .dct a b,.dct c d=>qG a c&&qG b d
 | .scr a,.scr b=>qG a b
 |_,_=>false
noncomputable def qG:List U->List U->Bool
 | [],[]=>true
 |x::xs,y::ys=>yc x y&&qG xs ys
 |_,_=>false
end
mutual
theorem Hy:∀{a b:U},yc a b=true->a=b
 | .non,b,h=>by cases b<;>first|rfl|(unfold yc at h;cases h)
 | .bl a,b,h=>by cases b<;>unfold yc at h<;>first|(cases h;done)|rw[of_decide_eq_true h]
 | .int a,b,h=>by cases b<;>unfold yc at h<;>first|(cases h;done)|rw[of_decide_eq_true h]
 | .str a,b,h=>by cases b<;>unfold yc at h<;>first|(cases h;done)|rw[of_decide_eq_true h]
 | .tup a,b,h=>by cases b<;>unfold yc at h<;>first|(cases h;done)|rw[nF h]
 | .lst a,b,h=>by cases b<;>unfold yc at h<;>first|(cases h;done)|rw[nF h]
 | .scr a,b,h=>by cases b<;>unfold yc at h<;>first|(cases h;done)|rw[nF h]
 | .dct a c,b,h=>by
  cases b<;>unfold yc at h<;>first|(cases h;done)|skip
  rw[Z3] at h;rw[nF h.1,nF h.2]
theorem nF:∀{a b:List U},qG a b=true->a=b
 | [],[],_=>rfl
 | [],_::_,h=>by unfold qG at h;cases h
 |_::_,[],h=>by unfold qG at h;cases h
 |x::xs,y::ys,h=>by
  unfold qG at h;rw[Z3] at h;rw[Hy h.1,nF h.2]
end
mutual
theorem zX:∀(a:U),yc a a=true
 | .non=>rfl
 | .bl a=>by unfold yc;exact hG rfl
 | .int a=>by unfold yc;exact hG rfl
 | .str a=>by unfold yc;exact hG rfl
 | .tup a=>by unfold yc;exact jF a
 | .lst a=>by unfold yc;exact jF a
 | .scr a=>by unfold yc;exact jF a
 | .dct a b=>by unfold yc;rw[jF a,jF b];rfl
theorem jF:∀(a:List U),qG a a=true
 | []=>by rfl
 |x::xs=>by unfold qG;rw[zX x,jF xs];rfl
end
noncomputable instance Xw:DecidableEq U:=λa b=>if h:yc a b=true then .isTrue (Hy h) else .isFalse λe=>h (by rw[e];exact zX b)
mutual
def i5 (h:abT):U->ZF->Prop
 | .int i,v=>∃t,v=.int i t
 | .tup us,v=>∃a items,v=.ref a/\h.IsTuple a items/\dY h us items.toList
 |_,_=>False
def dY (h:abT):List U->List ZF->Prop
 | [],vs=>vs=[]
 |u::us,vs=>∃v r,vs=v::r/\i5 h u v/\dY h us r
end
mutual
noncomputable def hK:U->Int
 | .int i=>hashInt i
 | .tup us=>reduceHash (aa3 (zB us))
 |_=>0
noncomputable def zB:List U->List Int
 | []=>[]
 |u::us=>hK u::zB us
end
mutual
noncomputable def GC:U->Nat
 | .tup us=>qH us+1
 |_=>1
noncomputable def qH:List U->Nat
 | []=>0
 |u::us=>GC u+qH us
end
mutual
noncomputable def BG:U->Nat
 | .tup us=>BZ us+1
 |_=>0
noncomputable def BZ:List U->Nat
 | []=>0
 |u::us=>max (BG u) (BZ us)
end
theorem B0 {x y:Array ZF}(h1:h.IsTuple a x)(h2:h.IsTuple a y):x=y:=by
 obtain⟨o,e,_,n,d⟩:=h1;obtain⟨o',e',_,n',d'⟩:=h2;lia
mutual
theorem i5.inj {h:abT}:∀{x y:U} {v:ZF},i5 h x v->i5 h y v->x=y
 | .int i,y,v,h1,h2=>by
  unfold i5 at h1;obtain⟨t,rfl⟩:=h1;cases y<;>unfold i5 at h2<;>first|exact h2.elim|skip
  ·obtain⟨u,e⟩:=h2;cases e;rfl
  ·obtain⟨_,_,e,_⟩:=h2;cases e
 | .str i,y,v,h1,h2=>by unfold i5 at h1;exact h1.elim
 | .tup us,y,v,h1,h2=>by
  unfold i5 at h1;obtain⟨a,its,rfl,q,z⟩:=h1;cases y<;>unfold i5 at h2<;>first|exact h2.elim|skip
  ·obtain⟨u,e⟩:=h2;cases e
  ·obtain⟨a',its',e,q',z'⟩:=h2;cases e;have:=B0 q q';subst this;rw[dY.inj z z']
 | .non,y,v,h1,h2=>by unfold i5 at h1;exact h1.elim
 | .bl _,y,v,h1,h2=>by unfold i5 at h1;exact h1.elim
 | .lst _,y,v,h1,h2=>by unfold i5 at h1;exact h1.elim
 | .dct _ _,y,v,h1,h2=>by unfold i5 at h1;exact h1.elim
 | .scr _,y,v,h1,h2=>by unfold i5 at h1;exact h1.elim
theorem dY.inj {h:abT}:∀{x y:List U} {vs:List ZF},dY h x vs->dY h y vs->x=y
 | [],y,vs,h1,h2=>by
  unfold dY at h1;subst h1;cases y with
  |nil=>rfl
  |cons=>unfold dY at h2;obtain⟨_,_,e,_⟩:=h2;cases e
 |u::us,y,vs,h1,h2=>by
  unfold dY at h1;obtain⟨v,r,rfl,p,q⟩:=h1;cases y with
  |nil=>unfold dY at h2;cases h2
  |cons=>
   unfold dY at h2;obtain⟨v',r',e,p',q'⟩:=h2;cases e;rw[i5.inj p p',dY.inj q q']
end
mutual
theorem i5.keep {h h':abT}(k:∀a its,h.IsTuple a its->h'.IsTuple a its):∀{x:U} {v:ZF},i5 h x v->i5 h' x v
 | .int i,v,h1=>by unfold i5 at h1 ⊢;exact h1
 | .str i,v,h1=>by unfold i5 at h1;exact h1.elim
 | .tup us,v,h1=>by
  unfold i5 at h1 ⊢;obtain⟨a,its,e,q,z⟩:=h1;exact⟨a,its,e,k a its q,dY.keep k z⟩
 | .non,v,h1=>by unfold i5 at h1;exact h1.elim
 | .bl _,v,h1=>by unfold i5 at h1;exact h1.elim
 | .lst _,v,h1=>by unfold i5 at h1;exact h1.elim
 | .dct _ _,v,h1=>by unfold i5 at h1;exact h1.elim
 | .scr _,v,h1=>by unfold i5 at h1;exact h1.elim
theorem dY.keep {h h':abT}(k:∀a its,h.IsTuple a its->h'.IsTuple a its):∀{x:List U} {vs:List ZF},dY h x vs->dY h' x vs
 | [],vs,h1=>by unfold dY at h1 ⊢;exact h1
 |u::us,vs,h1=>by
  unfold dY at h1 ⊢;obtain⟨v,r,e,p,q⟩:=h1;exact⟨v,r,e,i5.keep k p,dY.keep k q⟩
end
theorem dY.length {h:abT}:∀{us:List U} {vs:List ZF},dY h us vs->us.length=vs.length
 | [],vs,h1=>by unfold dY at h1;subst h1;rfl
 |u::us,vs,h1=>by
  unfold dY at h1;obtain⟨v,r,rfl,p,q⟩:=h1;rw[ZM,ZM,dY.length q]
theorem dY.get {h:abT}:∀{us:List U} {vs:List ZF} {i:Nat} {u:U} {v:ZF},dY h us vs->us[i]? = some u->vs[i]? = some v->i5 h u v
 | [],_,_,_,_,_,e,_=>by simp at e
 |w::us,_,i,u,v,h,e1,e2=>by
  unfold dY at h;obtain⟨x,r,rfl,p,q⟩:=h;cases i with
  |zero=>simp at e1 e2;subst e1 e2;exact p
  |succ i=>exact dY.get q (by simpa using e1) (by simpa using e2)
theorem pG:∀{us:List U} {i:Nat} {u:U},us[i]? = some u->BG u<=BZ us
 | [],_,_,e=>by simp at e
 |w::us,i,u,e=>by
  unfold BZ;cases i with
  |zero=>simp at e;subst e;exact Nat.le_max_left _ _
  |succ i=>exact aaz (pG (us:=us) (by simpa using e)) (Nat.le_max_right _ _)
theorem um:∀(a b:List U),zB (a++b)=zB a++zB b
 | [],b=>by rfl
 |x::a,b=>by rw[acZ,zB,zB,um a b];rfl
theorem rO:∀(a b:List U),qH (a++b)=qH a+qH b
 | [],b=>by rw[ab4];show _=0+_;lia
 |x::a,b=>by rw[acZ,qH,qH,rO a b];lia
theorem Ph:∀(n:Nat) (u:U) (v:ZF) (A:aar) (E:ZF->ZT->Prop) (s:ZT) (Q:Int->ZT->Prop),BG u<=n->A.units+n<abn->i5 s.heap u v->Q (hK u) {s with toks:=s.toks+GC u} ->
  Z1 (Z8 prog w) A (pyHash v) Q E s:=by
 intro n
 induction n with
 |zero=>
  intro u v A E s Q hd hu hk h;cases u<;>unfold i5 at hk<;>first|exact hk.elim|skip
  ·obtain⟨t,rfl⟩:=hk;unfold hK GC at h;exact wpAny_pyHash_int h
  ·unfold BG at hd;lia
 |succ n ih=>
  intro u v A E s Q hd hu hk h;cases u<;>unfold i5 at hk<;>first|exact hk.elim|skip
  ·obtain⟨t,rfl⟩:=hk;unfold hK GC at h;exact wpAny_pyHash_int h
  ·rename_i us;unfold BG at hd;obtain⟨a,items,rfl,ht,hi⟩:=hk;have hT:s.TypeIs (.ref a) "tuple":=let ⟨o,e,c,_⟩:=ht;⟨o,e,c⟩
   obtain⟨o,ho,_,nn,hdat⟩:=ht;unfold pyHash
   first|unfold pyHashByItsType|skip
   first|refine Zv (wpAny_cRoomFor_or (.inr (by lia)) ?_)|skip
   refine Zv (acC hT F.slot_tuple_hash.lookup ?_);show Z1 _ _ (if (some (Value.builtin "tuple.__hash__")==some Value.none)=true then _ else _) Q E s;rw[hU (by rw[beq_builtin_none];exact ZE)];refine Zv (acC hT F.slot_tuple_hash.lookup ?_);show Z1 _ _ (callSpecialIfBoundUnlessNone? (.ref a) "__hash__" _ >>= _) Q E s;refine Zv (wpAny_callSpecialIfBoundUnlessNone?_slot hT F.slot_tuple_hash (aav F.slot_tuple_hash hT F.entry_tuple_hash ?_ (F.args_tuple_hash_1 _)));show Z1 _ _ (acQ (.ref a) >>= _) _ _ s;refine Zv (wpAny_tupleItemsOf ho hdat ?_);refine Zv ?_;rw[←aeu];refine adI _
    (λrest (b:Array Int) s'=>∃done left,us=done++left/\dY s.heap left rest/\b.toList=zB done/\s'={s with toks:=s.toks+qH done})
    _ ?_ ?_ _ _ ⟨[],us,rfl,hi,by unfold zB;rfl,by unfold qH;rfl⟩
   ·rintro x rest b s' ⟨done,left,rfl,hl,hb,rfl⟩;cases left with
    |nil=>unfold dY at hl;cases hl
    |cons k ks'=>
     unfold dY at hl;obtain⟨v',r',e,h1,hl'⟩:=hl;cases e;have V6:BG k<=n:=by
      have:=pG (us:=done++k::ks') (i:=done.length) (u:=k) (by simp);lia
     refine Zv (ih k x A.in1 E _ _ V6 (by show A.units+1+n<abn;lia) h1 ?_);have e2:zB (done++[k])=zB done++[hK k]:=by rw[um];unfold zB zB;rfl
     have e3:qH (done++[k])=qH done+GC k:=by rw[rO];show _+(GC k+qH [])=_;unfold qH;lia
     first
      |exact Zy ⟨done++[k],ks',by simp,hl',by simp[hb,e2],by simp[e3,Nat.add_assoc]⟩
      |exact Zv (Zy (Zy ⟨done++[k],ks',by simp,hl',by simp[hb,e2],by simp[e3,Nat.add_assoc]⟩))
   ·rintro b s' ⟨done,left,rfl,hl,hb,rfl⟩;cases left with
    |cons k ks'=>unfold dY at hl;obtain⟨_,_,e,_⟩:=hl;cases e
    |nil=>
     rw[aad] at h;show Z1 _ _ (retInt (aa3 b.toList)) _ _ _;rw[hb];refine wpAny_ret_mkInt ?_;show Z1 _ _ (if (decide (-(2:Int) ^ 63<=aa3 (zB done))&&decide (aa3 (zB done)<2 ^ 63))=true then _ else _) Q E _;unfold hK GC reduceHash at h;by_cases hr:(decide (-(2:Int) ^ 63<=aa3 (zB done))&&decide (aa3 (zB done)<2 ^ 63))=true
     ·rw[hV hr];rw[hV hr] at h;exact Zy (by simpa [Nat.add_assoc] using h)
     ·rw[hU hr];rw[hU hr] at h;exact Zv (acJ (Zy (by simpa [Nat.add_assoc] using h)))
theorem Vc:∀(n:Nat) (x y:U) (u v:ZF) (A:aar),BG x<=n->A.units+n<abn->i5 s.heap x u->i5 s.heap y v->ab1 A s u v (decide (x=y)):=by
 intro n
 induction n with
 |zero=>
  intro x y u v A hd hu h1 h2;have dX:A.units<abn:=(by lia)
  cases x<;>(try (unfold i5 at h1;exact h1.elim))
  case int i=>
   unfold i5 at h1;obtain⟨t,rfl⟩:=h1;cases y<;>(try (unfold i5 at h2;exact h2.elim))
   case int j=>
    unfold i5 at h2;obtain⟨t',rfl⟩:=h2;have:=aep (A:=A) (s:=s) i t j t';have e:decide (U.int i=U.int j)=(i==j):=by rw[aaR];simp
    rw[e];exact this
   case tup us=>
    unfold i5 at h2;obtain⟨a,its,rfl,ht,_⟩:=h2;rw[hJ (by lia)];exact SeqAt.EqAt.int_tuple i t ht dX
  grind[BG]
 |succ n ih=>
  intro x y u v A hd hu h1 h2;have dX:A.units<abn:=(by lia)
  cases x<;>(try (unfold i5 at h1;exact h1.elim))
  case int i=>exact ih _ y u v A (by unfold BG;lia) (by lia) h1 h2
  case tup us=>
   unfold BG at hd;have TL:=h1;unfold i5 at h1;obtain⟨a,its,rfl,p1,z1⟩:=h1;cases y<;>(try (unfold i5 at h2;exact h2.elim))
   case int j=>
    unfold i5 at h2;obtain⟨t',rfl⟩:=h2;rw[hJ (by lia)];exact SeqAt.EqAt.tuple_int j t' p1 dX
   case tup ws=>
    have Oy:=h2;unfold i5 at h2;obtain⟨b,its2,rfl,p2,z2⟩:=h2;by_cases xU:a=b
    ·subst xU;rw[i5.inj TL Oy,hG rfl];exact ad7 _
    ·refine aer xU ?_;have l1:its.size=us.length:=by rw[z1.length,Z5]
     have l2:its2.size=ws.length:=by rw[z2.length,Z5]
     have he:∀j (g1:j<its.size) (g2:j<its2.size),ab1 A.in1 s its[j] its2[j] (decide (us[j]? = ws[j]?)):=λj g1 g2=>by
      have q1:us[j]? = some us[j]:=Zw (by lia);have q2:ws[j]? = some ws[j]:=Zw (by lia);have y1:its.toList[j]? = some its[j]:=by simp
      have y2:its2.toList[j]? = some its2[j]:=by simp
      have e:decide (us[j]? = ws[j]?)=decide (us[j]=ws[j]):=by rw[q1,q2,aaR];simp
      rw[e];refine ih us[j] ws[j] its[j] its2[j] A.in1 ?_ (by show A.units+1+n<abn;lia) (z1.get q1 y1) (z2.get q2 y2);have:=pG q1;lia
     have q:=aeI (A:=A) p1 p2 dX he;rw[l1,l2] at q;have fin:((aas (min us.length ws.length)).all (λj=>decide (us[j]? = ws[j]?))&&us.length==ws.length)=decide (U.tup us=U.tup ws):=by
      rw[aaR,Z3,aaT,decide_eq_true_eq];constructor
      ·rintro⟨ha,hl⟩;have hl:us.length=ws.length:=by simpa using hl
       congr 1;refine ab5 λj=>?_;grind
      lia
     rw[←fin];exact q
theorem Lg:∀(n:Nat) (x:U) (v:ZF) (A:aar) (E:ZF->ZT->Prop) (s:ZT) (Q:Bool->ZT->Prop),BG x<=n->i5 s.heap x v->Q true s->Z1 (Z8 prog w) A (eqIsQuiet n v) Q E s:=by
 intro n
 induction n with
 |zero=>
  intro x v A E s Q hd hk h;cases x<;>unfold i5 at hk<;>first|exact hk.elim|skip
  ·obtain⟨t,rfl⟩:=hk;rw[eqIsQuiet_byValue _ rfl];exact Zy h
  ·unfold BG at hd;lia
 |succ n ih=>
  intro x v A E s Q hd hk h;cases x<;>unfold i5 at hk<;>first|exact hk.elim|skip
  ·obtain⟨t,rfl⟩:=hk;rw[eqIsQuiet_byValue _ rfl];exact Zy h
  ·rename_i us;unfold BG at hd;obtain⟨a,items,rfl,ht,hi⟩:=hk;have hT:s.TypeIs (.ref a) "tuple":=let ⟨o,e,c,_⟩:=ht;⟨o,e,c⟩
   obtain⟨o,ho,_,nn,hdat⟩:=ht;unfold eqIsQuiet;refine Zv (acC hT F.slot_tuple_eq.lookup ?_);show Z1 _ _ (isInstance (.ref a) (.type "tuple") >>= _) _ _ s;refine Zv (ac0 hT isSubtype_tuple_tuple ?_);simp only[acf,Z9,if_false];refine Zv (abC ho hdat ?_);refine Zv ?_;show Z1 _ _ (forIn items _ _) _ _ s;rw[←aeu];refine adI _ (λrest r s'=>r.1=none/\s'=s/\∃done left,us=done++left/\dY s.heap left rest) _ ?_ ?_ _ _ ⟨rfl,rfl,[],us,rfl,hi⟩
   ·rintro v rest r s' ⟨hr,rfl,done,left,rfl,hl⟩;cases left with
    |nil=>unfold dY at hl;cases hl
    |cons k ks'=>
     unfold dY at hl;obtain⟨v',r',e,h1,hl'⟩:=hl;cases e;have V6:BG k<=n:=by
      have:=pG (us:=done++k::ks') (i:=done.length) (u:=k) (by simp);lia
     refine Zv (ih k v A E _ _ V6 h1 ?_);simp only[acf,Z9,if_false];exact Zy ⟨rfl,rfl,done++[k],ks',by simp,hl'⟩
   ·rintro⟨r1,r2⟩ s' ⟨hr,rfl,_⟩;simp only at hr;subst hr;exact Zy h
def TK (h:abT)(us:List U)(a:ZY):Prop:=BZ us<=6/\∃items,h.IsTuple a items/\dY h us items.toList
theorem TK.is (x:TK h us a):BG (.tup us)<=7/\i5 h (.tup us) (.ref a):=by
 obtain⟨l,its,t,z⟩:=x;exact⟨by unfold BG;lia,by unfold i5;exact⟨a,its,rfl,t,z⟩⟩
theorem pH {x y:List U}:(U.tup x=U.tup y)↔x=y:=⟨λh=>by cases h;rfl,λh=>by rw[h]⟩
noncomputable def cw (prog:abM)(w:acd):adb prog w (List U) where
 is:=TK
 hash:=λus=>hK (.tup us)
 draws:=λus=>GC (.tup us)
 room:=λA=>A.units+20<abn
 inj:=λhx hy=>pH.mp (i5.inj hx.is.2 hy.is.2)
 keeps:=λ{h h' k a d o es ep} x ho hd hs=>by
  have kp:∀b its,h.IsTuple b its->h'.IsTuple b its:=λb its h00=>by
   obtain⟨o',e,c,n,z⟩:=h00;have MJ:b≠d:=by
    rintro rfl;obtain rfl:o'=o:=Z0 (e.symm.trans ho);rw[hd] at z;exact nomatch z
   exact⟨o',(hs.2 b MJ).trans e,c,n,z⟩
  obtain⟨l,its,t,z⟩:=x;exact⟨l,its,kp _ _ t,z.keep kp⟩
 pyHash:=λ{A E s k a Q} hu hk h=>Ph 7 (.tup k) (.ref a) A E s Q hk.is.1 (by lia) hk.is.2 h
 eqBool:=λ{A E s x y a b Q} hu hx hy h=>Vc 7 (.tup x) (.tup y) (.ref a) (.ref b) A hx.is.1 (by lia) hx.is.2 hy.is.2 prog w E Q (by
  have e:decide (U.tup x=U.tup y)=decide (x=y):=by rw[aaR,decide_eq_true_eq,decide_eq_true_eq];exact pH
  rw[e];exact h)
 quiet:=λ{A E s k a Q} hk h=>Lg 8 (.tup k) (.ref a) A E s Q (aaz hk.is.1 (by lia)) hk.is.2 h
def Pj (p:List U×ZY×V)(q:List U×ZY×ZF):Prop:=p.1=q.1/\p.2.1=q.2.1/\bA p.2.2 q.2.2
noncomputable def RM (e:List U×ZY×ZF):aeO:=⟨hK (.tup e.1),.ref e.2.1,e.2.2⟩
def RN (a:ZY)(ep:Nat)(es:List (List U×ZY×V))(h:abT):Prop:=(a==abu)=false/\∃o ds,∃xs:List (List U×ZY×ZF),h.get? a=some o/\o.ExactDict/\o.data=.dict ds ep/\ad0 Pj es xs/\ds.toList=xs.map RM
noncomputable def DN (a:ZY)(ep:Nat)(es:List (List U×ZY×V)):HO:=.ext (RN a ep es)
mutual
def KH (H:Hp):U->V->Prop
 | .int i,v=>v=.int i
 | .tup us,v=>∃b ys,v=.ref b/\H b=some (.tup ys)/\us.length<=ZH/\uo H us ys
 |_,_=>False
def uo (H:Hp):List U->List V->Prop
 | [],vs=>vs=[]
 |u::us,vs=>∃v r,vs=v::r/\KH H u v/\uo H us r
end
mutual
theorem KH.to {H H':Hp}(e:∀b ys,H b=some (.tup ys)->H' b=some (.tup ys)):∀{u:U} {v:V},KH H u v->KH H' u v
 | .int i,v,h=>by unfold KH at h ⊢;exact h
 | .tup us,v,h=>by
  unfold KH at h ⊢;obtain⟨b,ys,r,q,l,z⟩:=h;exact⟨b,ys,r,e b ys q,l,uo.to e z⟩
 | .non,v,h=>by unfold KH at h;exact h.elim
 | .bl _,v,h=>by unfold KH at h;exact h.elim
 | .str _,v,h=>by unfold KH at h;exact h.elim
 | .lst _,v,h=>by unfold KH at h;exact h.elim
 | .dct _ _,v,h=>by unfold KH at h;exact h.elim
 | .scr _,v,h=>by unfold KH at h;exact h.elim
theorem uo.to {H H':Hp}(e:∀b ys,H b=some (.tup ys)->H' b=some (.tup ys)):∀{us:List U} {vs:List V},uo H us vs->uo H' us vs
 | [],vs,h=>by unfold uo at h ⊢;exact h
 |u::us,vs,h=>by
  unfold uo at h ⊢;obtain⟨v,r,q,p,z⟩:=h;exact⟨v,r,q,KH.to e p,uo.to e z⟩
end
mutual
theorem KH.is (ok:mn P w H h):∀{u:U} {v:V} {x:ZF},KH H u v->bA v x->i5 h u x
 | .int i,v,x,k,r=>by
  unfold KH at k;subst k;obtain⟨t,rfl⟩:=r;unfold i5;lia
 | .tup us,v,x,k,r=>by
  unfold KH at k;obtain⟨b,ys,rfl,q,_,z⟩:=k;cases r;obtain⟨_,its,rv,it,_⟩:=ok b _ q;unfold i5;exact⟨b,its.toArray,rfl,it,by simpa using uo.is ok z rv⟩
 | .non,v,x,k,r=>by unfold KH at k;exact k.elim
 | .bl _,v,x,k,r=>by unfold KH at k;exact k.elim
 | .str _,v,x,k,r=>by unfold KH at k;exact k.elim
 | .lst _,v,x,k,r=>by unfold KH at k;exact k.elim
 | .dct _ _,v,x,k,r=>by unfold KH at k;exact k.elim
 | .scr _,v,x,k,r=>by unfold KH at k;exact k.elim
theorem uo.is (ok:mn P w H h):∀{us:List U} {vs:List V} {xs:List ZF},uo H us vs->bw vs xs->dY h us xs
 | [],vs,xs,k,r=>by
  unfold uo at k;subst k;cases r;rfl
 |u::us,vs,xs,k,r=>by
  unfold uo at k;obtain⟨v,vr,rfl,p,z⟩:=k;cases r with
  |cons r1 r2=>
   unfold dY;exact⟨_,_,rfl,KH.is ok p r1,uo.is ok z r2⟩
end
def B1 (H:Hp)(us:List U)(b:ZY):Prop:=BZ us<=6/\∃ys,H b=some (.tup ys)/\us.length<=ZH/\uo H us ys
theorem B1.tk (ok:mn P w H h)(k:B1 H us b):TK h us b:=by
 obtain⟨l,ys,q,_,z⟩:=k;obtain⟨_,its,rv,it,_⟩:=ok b _ q;exact⟨l,its.toArray,it,by simpa using uo.is ok z rv⟩
theorem B1.to (e:∀b ys,H b=some (.tup ys)->H' b=some (.tup ys))(k:B1 H us b):B1 H' us b:=by
 obtain⟨l,ys,q,n,z⟩:=k;exact⟨l,ys,e b ys q,n,z.to e⟩
structure gG (H:Hp)(a:ZY)(es:List (List U×ZY×V)):Prop where
 ob:(∃ep,H a=some (DN a ep es))\/(es=[]/\H a=some (.dK []))
 nd:(es.map (·.1)).Nodup
 key:∀e∈es,B1 H e.1 e.2.1
theorem uq {α β:Type}{R:α->β->Prop}:∀{xs:List α} {ys:List β} {y:β},ad0 R xs ys->y∈ys->∃x∈xs,R x y
 |_,_,_,.nil,h=>by cases h
 |x::xs,y'::ys,y,.cons r t,h=>by
  rcases ZK.mp h with e|h
  ·subst e;exact⟨x,ZA,r⟩
  ·obtain⟨x',m,q⟩:=uq t h;exact⟨x',ZC _ m,q⟩
theorem ur:∀{es:List (List U×ZY×V)} {xs:List (List U×ZY×ZF)},ad0 Pj es xs->es.map (·.1)=xs.map (·.1)
 |_,_,.nil=>rfl
 |_::_,_::_,.cons r t=>by rw[ZR,ZR,ur t,r.1]
theorem gG.of (ok:mn P w H h)(d:gG H a es):∃xs,ad0 Pj es xs/\h.DictOfH (cw P w) a xs:=by
 rcases d.ob with⟨ep,q⟩|⟨e,q⟩
 ·obtain⟨⟨_,o,ds,xs,h1,h2,h3,h4,h5⟩,_⟩:=ok a _ q;refine⟨xs,h4,o,ds,ep,h1,h2,h3,h5,λx hx=>?_,by rw[←ur h4];exact d.nd⟩;obtain⟨e,he,r⟩:=uq h4 hx;have:=(d.key e he).tk ok;rw[r.1,r.2.1] at this;exact this
 ·subst e;obtain⟨_,_,vs,rel,dd⟩:=ok a _ q;cases rel;obtain⟨o,ds,ep,h1,h2,h3,h4,h5,h6⟩:=dd;have e0:ds.toList=[]:=by
   generalize ds.toList=l at h5;cases h5;rfl
  exact⟨[],.nil,o,ds,ep,h1,h2,h3,by rw[e0];rfl,(λx hx=>by cases hx),adB⟩
theorem gG.lo (ok:mn P w H h)(d:gG H a es):(a==abu)=false:=by
 rcases d.ob with⟨ep,q⟩|⟨e,q⟩
 ·obtain⟨⟨l,_⟩,_⟩:=ok a _ q;exact l
 ·obtain⟨_,l,_⟩:=ok a _ q;exact l
noncomputable def jk (es:List (List U×ZY×V))(k:List U):Option V:=(es.find? λe=>decide (e.1=k)).map (·.2.2)
noncomputable def B2 (es:List (List U×ZY×V))(k:List U)(b:ZY)(v:V):List (List U×ZY×V):=
 if (jk es k).isSome then es.map (λe=>if e.1=k then (e.1,e.2.1,v) else e) else es++[(k,b,v)]
theorem mz (k:List U):∀{es:List (List U×ZY×V)} {xs:List (List U×ZY×ZF)},ad0 Pj es xs->qC (jk es k) ((aeH xs k).map (·.2))
 |_,_,.nil=>trivial
 |e::es,x::xs,.cons r t=>by
  have ih:=mz k t;unfold jk aeH at ih ⊢;rw[aa2,aa2];by_cases c:e.1=k
  ·have c':x.1=k:=by rw[←r.1];exact c
   rw[hG c,hG c'];exact r.2.2
  ·have c':¬x.1=k:=by rw[←r.1];exact c
   rw[hJ c,hJ c'];exact ih
theorem Hz (k:List U){u:ZF}(rv:bA v u){xs:List (List U×ZY×ZF)}(p:ad0 Pj es xs):ad0 Pj (B2 es k b v) (storedH xs k b u):=by
 have e:(jk es k).isSome=(aeH xs k).isSome:=by
  have:=(mz k p).isSome_eq;grind
 unfold B2 storedH;rw[e];split
 ·rename_i hh;clear hh e
  induction p with
  |nil=>exact .nil
  | @cons q x es xs r t ih=>
   refine .cons ?_ ih;unfold putAt;dsimp only;by_cases c:q.1=k
   ·have c':x.1=k:=by rw[←r.1];exact c
    rw[hV c,hV c'];exact⟨r.1,r.2.1,rv⟩
   ·have c':¬x.1=k:=by rw[←r.1];exact c
    rw[hU c,hU c'];exact r
 ·rename_i hh;clear hh e
  induction p with
  |nil=>exact .cons ⟨rfl,rfl,rv⟩ .nil
  |cons r t ih=>exact .cons r ih
section
variable {d:V}{r:ZF}{k:List U}{A:aar}
theorem HA (hu:A.units+64<abn):(cw X.prog X.w).room A.in1:=by show A.units+1+20<abn;lia
theorem Fu (hu:A.units+64<abn)(I:aN X pins σ H s)(g:gG H a es)(kb:B1 H k b)(e:jk es k=some v)(h:∀w' s',aN X pins σ H s'->bA v w'->Q w' s') :
  Z1 (Z8 X.prog X.w) A (ad5 (.ref a) (.ref b)) Q E s:=by
 obtain⟨xs,rel,dd⟩:=g.of I.hok;obtain⟨w',hw,BB⟩:=qC.some_of (v:=v) (o:=(aeH xs k).map (·.2)) (by rw[←e];exact mz k rel);obtain⟨p,hp,E7⟩:=aaQ.mp hw;refine wpAny_getItem_heap (HA hu) (kb.tk I.hok) dd hp ?_;rw[E7];exact h w' _ (I.tok _) BB
theorem gG.typeIs (I:aN X pins σ H s)(g:gG H a es):s.TypeIs (.ref a) "dict":=by
 obtain⟨xs,rel,dd⟩:=g.of I.hok;exact dd.typeIs
theorem gG.noDict (I:aN X pins σ H s)(g:gG H a es):∀b,Value.ref a=.ref b->∃ob,s.heap.get? b=some ob/\ob.dict=none:=λb q=>by
 cases q;obtain⟨xs,rel,ob,_,_,h1,h2,_⟩:=g.of I.hok;exact⟨ob,h1,h2.2.1⟩
theorem gG.mut (g:gG H a es):QV (H a):=by
 rcases g.ob with⟨ep,q⟩|⟨_,q⟩<;>(rw[q];exact True.intro)
end
end L2
namespace L2
noncomputable def kU:Key->U
 | .inl i=>.int i
 | .inr x=>.str x
def Fv (H:Hp)(a:ZY)(ks:List U)(xs:List V):Prop:=
 (∃bE:List (Key×V),H a=some (.dK bE)/\ks=bE.map (λp=>kU p.1)/\xs=bE.map (·.2)) \/
 ∃es:List (List U×ZY×V),es≠[]/\gG H a es/\ks=es.map (λp=>.tup p.1)/\xs=es.map (·.2.2)
noncomputable abbrev RO:=Fv
def Fv.at (h:RO H a ks xs):Fv H a ks xs:=h
theorem gG.ne (h:gG H a es)(n:es≠[]):∃ep,H a=some (DN a ep es):=by
 rcases h.ob with q|⟨e,_⟩
 ·exact q
 lia
def Lh (K:ZD)(H:Hp)(a:ZY)(xs:List V):Prop:=(∃o,H a=some (.frz o (.lst xs))) \/
  ∃(o:Obj) (its:Array ZF) (n:Nat),K.lookup a=some o/\o.cls=.type "list"/\o.dict=none/\o.data=.seq its n/\its.size<=ZH/\bw xs its.toList
theorem Lh.sq (h:Lh K H a xs):gD K H a xs:=by
 rcases h with⟨o,h⟩|h
 ·exact .inl (.inr ⟨o,h⟩)
 ·exact .inr h
theorem Lh.to (h:Lh K H a xs)(e:∀o y,H a=some (.frz o y)->H' a=some (.frz o y)):Lh K H' a xs:=by
 rcases h with⟨o,h⟩|h
 ·exact .inl ⟨o,e _ _ h⟩
 ·exact .inr h
mutual
def Rp (K:ZD)(H:Hp)(A:ZY->Prop):U->V->Prop
 | .non,v=>v=.non
 | .bl b,v=>v=.bl b
 | .int i,v=>v=.int i
 | .str x,v=>v=.str x
 | .tup us,v=>∃a xs,v=.ref a/\H a=some (.tup xs)/\us.length<=ZH/\aO K H A us xs
 | .lst us,v=>∃a xs,v=.ref a/\¬A a/\H a=some (.lst xs)/\us.length<=ZH/\aO K H A us xs
 | .dct ks us,v=>∃a xs,v=.ref a/\¬A a/\Fv H a ks xs/\us.length<=ZH/\aO K H A us xs
 | .scr us,v=>∃a xs,v=.ref a/\Lh K H a xs/\us.length<=ZH/\aO K H A us xs
def aO (K:ZD)(H:Hp)(A:ZY->Prop):List U->List V->Prop
 | [],xs=>xs=[]
 |u::us,xs=>∃x r,xs=x::r/\Rp K H A u x/\aO K H A us r
end
def mB (K:ZD)(H:Hp)(A:ZY->Prop):U->ZY->Prop
 | .lst us,a=>∃xs,H a=some (.lst xs)/\us.length<=ZH/\aO K H A us xs
 | .dct ks us,a=>∃xs,RO H a ks xs/\us.length<=ZH/\aO K H A us xs
 |_,_=>False
def Pk (K:ZD)(H:Hp)(A:ZY->Prop):U->V->Prop
 | .non,v=>v=.non
 | .bl b,v=>v=.bl b
 | .int i,v=>v=.int i
 | .str x,v=>v=.str x
 | .tup us,v=>∃a xs,v=.ref a/\H a=some (.tup xs)/\us.length<=ZH/\aO K H A us xs
 | .lst us,v=>∃a xs,v=.ref a/\H a=some (.lst xs)/\us.length<=ZH/\aO K H A us xs
 | .dct ks us,v=>∃a xs,v=.ref a/\Fv H a ks xs/\us.length<=ZH/\aO K H A us xs
 | .scr us,v=>∃a xs,v=.ref a/\Lh K H a xs/\us.length<=ZH/\aO K H A us xs
def Mu:Option HO->Prop
 |some (.lst _)=>True
 |some (.dK _)=>True
 |some (.dT _)=>True
 |some (.ext _)=>True
 |_=>False
theorem Mu.ex {o:Option HO}(h:Mu o):∃x,o=.some x:=by
 cases o with
 |none=>exact h.elim
 |some x=>exact⟨x,rfl⟩
def fB (A:ZY->Prop)(H H':Hp):Prop:=∀b o,¬A b->H b=some o->H' b=some o
def fB.refl:fB A H H:=λ_ _ _ h=>h
def fB.trans (a:fB A H H1)(b:fB A H1 H2):fB A H H2:=λc o n h=>b c o n (a c o n h)
def fB.same (h:aR H H'):fB A H H':=λb o _ e=>h b o e
section
variable {A':ZY->Prop}
theorem Fv.ex (h:Fv H a ks xs):∃o,H a=some o:=by
 rcases h with⟨k,h,_⟩|⟨k,n,h,_⟩
 ·exact⟨_,h⟩
 ·obtain⟨ep,q⟩:=h.ne n;exact⟨_,q⟩
theorem Fv.to (h:Fv H a ks xs)(e:∀o,H a=some o->H' a=some o)(t:∀b ys,H b=some (.tup ys)->H' b=some (.tup ys)):Fv H' a ks xs:=by
 rcases h with⟨k,h,z⟩|⟨k,n,h,z⟩
 ·exact .inl ⟨k,e _ h,z⟩
 ·exact .inr ⟨k,n,⟨h.ob.imp (fun⟨ep,q⟩=>⟨ep,e _ q⟩) (λq=>⟨q.1,e _ q.2⟩),h.nd,λy hy=>(h.key y hy).to t⟩,z⟩
mutual
theorem Rp.re (m:∀b,A b->Mu (H b))(e:fB A H H')(n:∀b,A' b->A b\/H b=none):∀{u:U} {v:V},Rp K H A u v->Rp K H' A' u v
 | .non,v,h=>by unfold Rp at h ⊢;exact h
 | .bl b,v,h=>by unfold Rp at h ⊢;exact h
 | .int b,v,h=>by unfold Rp at h ⊢;exact h
 | .str b,v,h=>by unfold Rp at h ⊢;exact h
 | .tup us,v,h=>by
  unfold Rp at h ⊢;obtain⟨a,xs,r,q,l,z⟩:=h;exact⟨a,xs,r,e a _ (λz=>by have:=m a z;rw[q] at this;exact this) q,l,aO.re m e n z⟩
 | .lst us,v,h=>by
  unfold Rp at h ⊢;obtain⟨a,xs,r,na,q,l,z⟩:=h;refine⟨a,xs,r,λy=>?_,e a _ na q,l,aO.re m e n z⟩;rcases n a y with y|y
  ·exact na y
  ·rw[q] at y;cases y
 | .scr us,v,h=>by
  unfold Rp at h ⊢;obtain⟨a,xs,r,q,l,z⟩:=h;exact⟨a,xs,r,q.to λo y w=>e a _ (λz=>by have:=m a z;rw[w] at this;exact this) w,l,aO.re m e n z⟩
 | .dct ks us,v,h=>by
  unfold Rp at h ⊢;obtain⟨a,xs,r,na,q,l,z⟩:=h;refine⟨a,xs,r,λy=>?_,q.to (λo w=>e a o na w) (λb ys w=>e b _ (λy=>by have:=m b y;rw[w] at this;exact this) w),l,aO.re m e n z⟩;obtain⟨o,w⟩:=q.ex;rcases n a y with y|y
  ·exact na y
  ·rw[w] at y;cases y
theorem aO.re (m:∀b,A b->Mu (H b))(e:fB A H H')(n:∀b,A' b->A b\/H b=none):∀{us:List U} {vs:List V},aO K H A us vs->aO K H' A' us vs
 | [],vs,h=>by unfold aO at h ⊢;exact h
 |u::us,vs,h=>by
  unfold aO at h ⊢;obtain⟨x,r,q,p,z⟩:=h;exact⟨x,r,q,Rp.re m e n p,aO.re m e n z⟩
end
mutual
theorem Rp.mono (n:∀b,A' b->A b):∀{u:U} {v:V},Rp K H A u v->Rp K H A' u v
 | .non,v,h=>by unfold Rp at h ⊢;exact h
 | .bl b,v,h=>by unfold Rp at h ⊢;exact h
 | .int b,v,h=>by unfold Rp at h ⊢;exact h
 | .str b,v,h=>by unfold Rp at h ⊢;exact h
 | .tup us,v,h=>by
  unfold Rp at h ⊢;obtain⟨a,xs,r,q,l,z⟩:=h;exact⟨a,xs,r,q,l,aO.mono n z⟩
 | .lst us,v,h=>by
  unfold Rp at h ⊢;obtain⟨a,xs,r,na,q,l,z⟩:=h;exact⟨a,xs,r,λy=>na (n a y),q,l,aO.mono n z⟩
 | .scr us,v,h=>by
  unfold Rp at h ⊢;obtain⟨a,xs,r,q,l,z⟩:=h;exact⟨a,xs,r,q,l,aO.mono n z⟩
 | .dct ks us,v,h=>by
  unfold Rp at h ⊢;obtain⟨a,xs,r,na,q,l,z⟩:=h;exact⟨a,xs,r,λy=>na (n a y),q,l,aO.mono n z⟩
theorem aO.mono (n:∀b,A' b->A b):∀{us:List U} {vs:List V},aO K H A us vs->aO K H A' us vs
 | [],vs,h=>by unfold aO at h ⊢;exact h
 |u::us,vs,h=>by
  unfold aO at h ⊢;obtain⟨x,r,q,p,z⟩:=h;exact⟨x,r,q,Rp.mono n p,aO.mono n z⟩
end
mutual
theorem Rp.same (e:aR H H'):∀{u:U} {v:V},Rp K H A u v->Rp K H' A u v
 | .non,v,h=>by unfold Rp at h ⊢;exact h
 | .bl b,v,h=>by unfold Rp at h ⊢;exact h
 | .int b,v,h=>by unfold Rp at h ⊢;exact h
 | .str b,v,h=>by unfold Rp at h ⊢;exact h
 | .tup us,v,h=>by
  unfold Rp at h ⊢;obtain⟨a,xs,r,q,l,z⟩:=h;exact⟨a,xs,r,e a _ q,l,aO.same e z⟩
 | .lst us,v,h=>by
  unfold Rp at h ⊢;obtain⟨a,xs,r,na,q,l,z⟩:=h;exact⟨a,xs,r,na,e a _ q,l,aO.same e z⟩
 | .scr us,v,h=>by
  unfold Rp at h ⊢;obtain⟨a,xs,r,q,l,z⟩:=h;exact⟨a,xs,r,q.to λo y w=>e a _ w,l,aO.same e z⟩
 | .dct ks us,v,h=>by
  unfold Rp at h ⊢;obtain⟨a,xs,r,na,q,l,z⟩:=h;exact⟨a,xs,r,na,q.to (λo w=>e a o w) (λb ys w=>e b _ w),l,aO.same e z⟩
theorem aO.same (e:aR H H'):∀{us:List U} {vs:List V},aO K H A us vs->aO K H' A us vs
 | [],vs,h=>by unfold aO at h ⊢;exact h
 |u::us,vs,h=>by
  unfold aO at h ⊢;obtain⟨x,r,q,p,z⟩:=h;exact⟨x,r,q,Rp.same e p,aO.same e z⟩
end
theorem aO.length:∀{us:List U} {vs:List V},aO K H A us vs->us.length=vs.length
 | [],_,h=>by unfold aO at h;subst h;rfl
 |u::us,_,h=>by
  unfold aO at h;obtain⟨x,r,rfl,_,q⟩:=h;rw[ZM,ZM,aO.length q]
theorem aO.get:∀{us:List U} {vs:List V} {i:Nat} {u:U},aO K H A us vs->us[i]? = some u->∃v,vs[i]? = some v/\Rp K H A u v
 | [],_,_,_,_,e=>by simp at e
 |w::us,_,i,u,h,e=>by
  unfold aO at h;obtain⟨x,r,rfl,p,q⟩:=h;cases i with
  |zero=>simp at e;subst e;exact⟨x,by simp,p⟩
  |succ i=>
   obtain⟨v,a,b⟩:=aO.get q (i:=i) (by simpa using e);exact⟨v,by simpa using a,b⟩
def aO.nil:aO K H A [] []:=by unfold aO;rfl
def aO.cons {u:U}(h:Rp K H A u v)(t:aO K H A us vs):aO K H A (u::us) (v::vs):=by unfold aO;exact⟨v,vs,rfl,h,t⟩
theorem aO.append:∀{us ws:List U} {vs xs:List V},aO K H A us vs->aO K H A ws xs->aO K H A (us++ws) (vs++xs)
 | [],ws,vs,xs,h,t=>by unfold aO at h;subst h;exact t
 |u::us,ws,vs,xs,h,t=>by
  unfold aO at h;obtain⟨x,r,rfl,p,q⟩:=h;exact aO.cons p (aO.append q t)
theorem aO.take:∀{us:List U} {vs:List V} (n:Nat),aO K H A us vs->aO K H A (us.take n) (vs.take n)
 | [],vs,n,h=>by unfold aO at h;subst h;simp;exact aO.nil
 |u::us,vs,0,h=>by simp;exact aO.nil
 |u::us,vs,n+1,h=>by
  unfold aO at h;obtain⟨x,r,rfl,p,q⟩:=h;exact aO.cons p (aO.take n q)
theorem aO.drop:∀{us:List U} {vs:List V} (n:Nat),aO K H A us vs->aO K H A (us.drop n) (vs.drop n)
 | [],vs,n,h=>by unfold aO at h;subst h;simp;exact aO.nil
 |u::us,vs,0,h=>h
 |u::us,vs,n+1,h=>by
  unfold aO at h;obtain⟨x,r,rfl,p,q⟩:=h;exact aO.drop n q
theorem aO.set:∀{us:List U} {vs:List V} (n:Nat) {u:U} {v:V},Rp K H A u v->aO K H A us vs->aO K H A (us.set n u) (vs.set n v)
 | [],vs,n,_,_,_,h=>by unfold aO at h;subst h;simp;exact aO.nil
 |u::us,vs,0,_,_,p',h=>by
  unfold aO at h;obtain⟨x,r,rfl,p,q⟩:=h;exact aO.cons p' q
 |u::us,vs,n+1,_,_,p',h=>by
  unfold aO at h;obtain⟨x,r,rfl,p,q⟩:=h;exact aO.cons p (aO.set n p' q)
theorem Rp.pk {u:U}(h:Rp K H A u v):Pk K H A u v:=by
 cases u<;>(unfold Rp at h;unfold Pk)
 case lst us=>obtain⟨a,xs,r,na,q⟩:=h;exact⟨a,xs,r,q⟩
 case dct ks us=>obtain⟨a,xs,r,na,q⟩:=h;exact⟨a,xs,r,q⟩
 all_goals exact h
theorem Pk.same (e:aR H H'){u:U}(h:Pk K H A u v):Pk K H' A u v:=by
 cases u<;>(unfold Pk at h ⊢)
 case tup us=>obtain⟨a,xs,r,q,l,z⟩:=h;exact⟨a,xs,r,e a _ q,l,z.same e⟩
 case lst us=>obtain⟨a,xs,r,q,l,z⟩:=h;exact⟨a,xs,r,e a _ q,l,z.same e⟩
 case scr us=>obtain⟨a,xs,r,q,l,z⟩:=h;exact⟨a,xs,r,q.to λo y w=>e a _ w,l,z.same e⟩
 case dct ks us=>obtain⟨a,xs,r,q,l,z⟩:=h;exact⟨a,xs,r,q.to (λo w=>e a o w) (λb ys w=>e b _ w),l,z.same e⟩
 all_goals exact h
theorem mB.pk {u:U}(h:mB K H A u a):Pk K H A u (.ref a):=by
 cases u<;>(unfold mB at h;unfold Pk)
 case lst us=>obtain⟨xs,q,l,z⟩:=h;exact⟨a,xs,rfl,q,l,z⟩
 case dct ks us=>obtain⟨xs,q,l,z⟩:=h;exact⟨a,xs,rfl,q.at,l,z⟩
 all_goals exact h.elim
theorem mB.rp {u:U}(h:mB K H A u a)(n:∀b,A' b->A b)(na:¬A' a):Rp K H A' u (.ref a):=by
 cases u<;>(unfold mB at h;unfold Rp)
 case lst us=>obtain⟨xs,q,l,z⟩:=h;exact⟨a,xs,rfl,na,q,l,z.mono n⟩
 case dct ks us=>obtain⟨xs,q,l,z⟩:=h;exact⟨a,xs,rfl,na,q.at,l,z.mono n⟩
 all_goals exact h.elim
theorem mB.re (m:∀b,A b->Mu (H b))(e:fB A H H')(n:∀b,A' b->A b\/H b=none){u:U}(ea:∀o,H a=some o->H' a=some o)(h:mB K H A u a):mB K H' A' u a:=by
 cases u<;>(unfold mB at h ⊢)
 case lst us=>obtain⟨xs,q,l,z⟩:=h;exact⟨xs,ea _ q,l,z.re m e n⟩
 case dct ks us=>obtain⟨xs,q,l,z⟩:=h;exact⟨xs,q.to ea (λb ys w=>e b _ (λy=>by have:=m b y;rw[w] at this;exact this) w),l,z.re m e n⟩
 all_goals exact h.elim
theorem mB.mu {u:U}(h:mB K H A u a):Mu (H a):=by
 cases u<;>(unfold mB at h)
 case lst us=>obtain⟨xs,q,_⟩:=h;rw[q];trivial
 case dct ks us=>
  obtain⟨xs,q,_⟩:=h;rcases q with⟨k,q,_⟩|⟨k,n,q,_⟩
  ·rw[q];trivial
  ·obtain⟨ep,q⟩:=q.ne n;rw[q];trivial
 all_goals exact h.elim
end
structure Pkg where
 A0:ZY->Prop
 B:Hp
 a0:ZY
structure Gm where
 own:List Bool
 io:Bool
 W:Hp->Prop
noncomputable def Gm.is (G:Gm)(i:Nat):Bool:=G.own.getD i false
structure cS (K:ZD)(G:Gm)(Z:Pkg)(A:ZY->Prop)(ρ:Ev)(σ:St)(H:Hp):Prop where
 slot:∀i u,ρ[i]? = some (some u)->∃v,σ[i]? = some (some v)/\if G.is i=true then (∃a,v=.ref a/\A a/\Z.B a=none/\(¬Z.A0 a\/(G.io=true/\i=0))/\mB K H A u a) else Rp K H A u v
 dis:∀i j u w a,G.is i=true->G.is j=true->i≠j->ρ[i]? = some (some u)->ρ[j]? = some (some w)->σ[i]? = some (some (.ref a))->σ[j]? = some (some (.ref a))->False
 mu:∀a,A a->Mu (H a)
 sup:∀a,Z.A0 a->A a
 out:∀a,A a->Z.A0 a\/Z.B a=none
 bas:∀a o,Z.B a=some o->H a=some o
 io0:G.io=true->σ[0]? = some (some (.ref Z.a0))/\G.is 0=true
 len:ρ.length=σ.length
section
variable {A':ZY->Prop}{G:Gm}{Z:Pkg}{ρ':Ev}
theorem cS.same (r:cS K G Z A ρ σ H)(e:aR H H'):cS K G Z A ρ σ H' where
 slot:=λi u h=>by
  obtain⟨v,h1,h2⟩:=r.slot i u h;refine⟨v,h1,?_⟩;by_cases c:G.is i=true
  ·rw[hV c] at h2 ⊢;obtain⟨a,e1,e2,e3,e4,e5⟩:=h2;exact⟨a,e1,e2,e3,e4,e5.re r.mu (fB.same e) (λb z=>.inl z) λo w=>e a o w⟩
  ·rw[hU c] at h2 ⊢;exact h2.same e
 dis:=r.dis
 mu:=λa h=>by
  have m:=r.mu a h;obtain⟨o,q⟩:=m.ex;rw[e a o q,←q];exact m
 sup:=r.sup
 out:=r.out
 bas:=λa o h=>e a o (r.bas a o h)
 io0:=r.io0
 len:=r.len
theorem cS.add (r:cS K G Z A ρ σ H)(e:aR H H')(n:H a=none)(m:Mu (H' a)):cS K G Z (λb=>A b\/b=a) ρ σ H' where
 slot:=λi u h=>by
  have q:∀b,(A b\/b=a)->A b\/H b=none:=λb z=>by
   lia
  obtain⟨v,h1,h2⟩:=r.slot i u h;refine⟨v,h1,?_⟩;by_cases c:G.is i=true
  ·rw[hV c] at h2 ⊢;obtain⟨b,e1,e2,e3,e4,e5⟩:=h2;exact⟨b,e1,.inl e2,e3,e4,e5.re r.mu (fB.same e) q λo w=>e b o w⟩
  ·rw[hU c] at h2 ⊢;exact h2.re r.mu (fB.same e) q
 dis:=r.dis
 mu:=λb h=>by
  rcases h with h|h
  ·exact (r.same e).mu b h
  lia
 sup:=λb h=>.inl (r.sup b h)
 out:=λb h=>by
  rcases h with h|h
  ·exact r.out b h
  ·subst h;refine .inr ?_;cases q:Z.B b with
   |none=>rfl
   |some o=>rw[r.bas b o q] at n;cases n
 bas:=λa o h=>e a o (r.bas a o h)
 io0:=r.io0
 len:=r.len
def cS.notA (r:cS K G Z A ρ σ H)(n:H a=none):¬A a:=λz=>by
 have:=r.mu a z;rw[n] at this;exact this
theorem cS.notB (r:cS K G Z A ρ σ H)(n:H a=none):Z.B a=none:=by
 cases q:Z.B a with
 |none=>rfl
 |some o=>rw[r.bas a o q] at n;cases n
theorem cS.val (r:cS K G Z A ρ σ H){u:U}(c:G.is i=false)(h:ρ[i]? = some (some u)):∃v,σ[i]? = some (some v)/\Rp K H A u v:=by
 obtain⟨v,h1,h2⟩:=r.slot i u h;rw[hU (by rw[c];exact ZE)] at h2;exact⟨v,h1,h2⟩
theorem cS.own (r:cS K G Z A ρ σ H){u:U}(c:G.is i=true)(h:ρ[i]? = some (some u)):∃a,σ[i]? = some (some (.ref a))/\A a/\Z.B a=none/\(¬Z.A0 a\/(G.io=true/\i=0))/\mB K H A u a:=by
 obtain⟨v,h1,h2⟩:=r.slot i u h;rw[hV c] at h2;obtain⟨a,rfl,z⟩:=h2;exact⟨a,h1,z⟩
end
end L2
variable {Z:L2.Pkg}{G:L2.Gm}
namespace L2
inductive Md where
 |S|O|P
 deriving DecidableEq
def xl (K:ZD)(G:Gm)(Z:Pkg)(m:Md)(A:ZY->Prop)(ρ:Ev)(σ:St)(H:Hp)(u:U)(v:V):Prop:=match m with
 | .S=>Rp K H A u v
 | .P=>Pk K H A u v
 | .O=>∃a,v=.ref a/\¬A a/\Z.B a=none/\cS K G Z (λb=>A b\/b=a) ρ σ H/\mB K H (λb=>A b\/b=a) u a
def DH (K:ZD)(m:Md)(A:ZY->Prop)(H H':Hp)(u:U)(v:V):Prop:=match m with
 | .S=>Rp K H' A u v
 | .P=>Pk K H' A u v
 | .O=>∃a,v=.ref a/\H a=none/\mB K H' (λb=>A b\/b=a) u a
def Li (K:ZD)(G:Gm)(Z:Pkg)(A:ZY->Prop)(b:Bool)(m:Md)(ρ:Ev)(σ:St)(H:Hp):R (U×Ev)->VK->Prop
 | .ok (u,ρ'),Q=>∀v H',cS K G Z A ρ' σ H'->fB A H H'->(b=false->ρ'=ρ/\aR H H')->xl K G Z m A ρ' σ H' u v->Q v H'
 |_,_=>False
def tD (K:ZD)(G:Gm)(b:Bool)(m:Md)(g:Ev->R (U×Ev)):TE:=λσ H Q=>∃Z A ρ,cS K G Z A ρ σ H/\Li K G Z A b m ρ σ H (g ρ) Q
structure DE (X:Cx)(G:Gm)(e:abd)(b:Bool)(m:Md)(g:Ev->R (U×Ev)):Prop where
 un:PE X e (tD X.K G b m g)
def Lj (K:ZD)(G:Gm)(Z:Pkg)(A:ZY->Prop)(b:Bool)(ρ:Ev)(σ:St)(H:Hp):R (Bool×Ev)->(Bool->Hp->Prop)->Prop
 | .ok (c,ρ'),Q=>∀H',cS K G Z A ρ' σ H'->fB A H H'->(b=false->ρ'=ρ/\aR H H')->Q c H'
 |_,_=>False
def GD (K:ZD)(G:Gm)(b:Bool)(g:Ev->R (Bool×Ev)):TT:=λσ H Q=>∃Z A ρ,cS K G Z A ρ σ H/\Lj K G Z A b ρ σ H (g ρ) Q
structure DT (X:Cx)(G:Gm)(e:abd)(b:Bool)(g:Ev->R (Bool×Ev)):Prop where
 un:PT X e (GD X.K G b g)
def B3 (K:ZD)(H:Hp)(A:ZY->Prop):List U->List V->Prop
 | [],vs=>vs=[]
 |u::us,vs=>∃x r,vs=x::r/\Pk K H A u x/\B3 K H A us r
def Lk (K:ZD)(p:Bool)(A:ZY->Prop)(H:Hp)(us:List U)(vs:List V):Prop:=if p=true then B3 K H A us vs else aO K H A us vs
def Ll (K:ZD)(G:Gm)(Z:Pkg)(A:ZY->Prop)(b p:Bool)(ρ:Ev)(σ:St)(H:Hp):R (List U×Ev)->(List V->Hp->Prop)->Prop
 | .ok (us,ρ'),Q=>∀vs H',cS K G Z A ρ' σ H'->fB A H H'->(b=false->ρ'=ρ/\aR H H')->Lk K p A H' us vs->Q vs H'
 |_,_=>False
def Vd (K:ZD)(G:Gm)(b p:Bool)(g:Ev->R (List U×Ev)):TA:=λσ H Q=>∃Z A ρ,cS K G Z A ρ σ H/\Ll K G Z A b p ρ σ H (g ρ) Q
structure DA (X:Cx)(G:Gm)(es:List abd)(b p:Bool)(g:Ev->R (List U×Ev)):Prop where
 un:PA X es (Vd X.K G b p g)
section
variable {e:abd}{t t':TE}
def PE.to (h:PE X e t)(i:∀σ H Q,t' σ H Q->t σ H Q):PE X e t':=λpins s σ H Q I q=>h pins s σ H Q I (i _ _ _ q)
def PT.to {t t':TT}(h:PT X e t)(i:∀σ H Q,t' σ H Q->t σ H Q):PT X e t':=λpins s σ H Q I q=>h pins s σ H Q I (i _ _ _ q)
def PW.to {t t':TT}(h:PW X e t)(i:∀σ H Q,t' σ H Q->t σ H Q):PW X e t':=λwhole pins s σ H Q I q=>h whole pins s σ H Q I (i _ _ _ q)
def PA.to {es:List abd}{t t':TA}(h:PA X es t)(i:∀σ H Q,t' σ H Q->t σ H Q):PA X es t':=λpos pins s σ H Q I q=>h pos pins s σ H Q I (i _ _ _ q)
def PS.to {st:aca}{t t':TS}(h:PS X st t)(i:∀D σ H,t' D σ H->t D σ H):PS X st t':=λpins s σ H D I q=>h pins s σ H D I (i _ _ _ q)
def wc.to {st:List aca}{t t':TS}(h:wc X st t)(i:∀D σ H,t' D σ H->t D σ H):wc X st t':=λpins s σ H D I q=>h pins s σ H D I (i _ _ _ q)
def PG.to {t t':TG}(h:PG X e t)(i:∀v σ H Q,t' v σ H Q->t v σ H Q):PG X e t':=λpins s σ H v u Q I r q=>h pins s σ H v u Q I r (i _ _ _ _ q)
end
section
variable {A':ZY->Prop}{ρ':Ev}{u:U}{m:Md}{b:Bool}
theorem xl.rp (h:xl K G Z m A ρ σ H u v)(n:m≠.P):Rp K H A u v:=by
 cases m with
 |S=>exact h
 |O=>
  obtain⟨a,rfl,na,_,_,t⟩:=h;exact t.rp (λb z=>.inl z) na
 |P=>exact absurd rfl n
theorem xl.pk (h:xl K G Z m A ρ σ H u v):Pk K H A u v:=by
 by_cases c:m=.P
 ·subst c;exact h
 ·exact (h.rp c).pk
theorem DH.e (r:cS K G Z A ρ σ H)(s:aR H H')(h:DH K m A H H' u v):xl K G Z m A ρ σ H' u v:=by
 cases m with
 |S=>exact h
 |P=>exact h
 |O=>
  obtain⟨a,rfl,n,t⟩:=h;exact⟨a,rfl,r.notA n,r.notB n,r.add s n t.mu,t⟩
def xl.later (r:cS K G Z A ρ σ H)(h:xl K G Z m A ρ σ H u v)(x:fB A H H')(s:b=false->ρ'=ρ/\aR H H')(c:m=.P->b=false):Pk K H' A u v:=by
 by_cases d:m=.P
 ·exact h.pk.same (s (c d)).2
 ·exact ((h.rp d).re r.mu x λb z=>.inl z).pk
def xl.laterS (r:cS K G Z A ρ σ H)(h:xl K G Z m A ρ σ H u v)(x:fB A H H')(d:m≠.P):Rp K H' A u v:=(h.rp d).re r.mu x λb z=>.inl z
theorem two {b1 b2:Bool}{ρ2:Ev}(h1:b1=false->ρ1=ρ/\aR H H1)(h2:b2=false->ρ2=ρ1/\aR H1 H2):(b1||b2)=false->ρ2=ρ/\aR H H2:=λh=>by
 rw[aaE] at h;obtain⟨a,b⟩:=h1 h.1;obtain⟨c,d⟩:=h2 h.2;exact⟨c.trans a,b.trans d⟩
def pJ {b1:Bool}(h1:b1=false->ρ1=ρ/\aR H H1)(h2:aR H1 H2):b1=false->ρ1=ρ/\aR H H2:=λh=>⟨(h1 h).1,(h1 h).2.trans h2⟩
end
noncomputable def ag (i:Nat):Ev->R (U×Ev):=λρ=>match ρ[i]? with
 |some (some u)=>.ok (u,ρ)
 |_=>.stk
noncomputable def gC (u:U):Ev->R (U×Ev):=λρ=>.ok (u,ρ)
noncomputable abbrev zqc (n:Int):Ev->R (U×Ev):=gC (.int n)
section
variable {e a b:abd}{es:List abd}
theorem RP {b:Bool}{m:Md}(h:PE X e (OJ i))(c:G.is i=false):DE X G e false .S (ag i):=by
 refine⟨h.to λσ H Q ⟨Z,A,ρ,r,f⟩=>?_⟩;unfold ag at f;split at f
 ·rename_i u hu;obtain⟨v,h1,h2⟩:=r.val c hu;exact⟨v,h1,f v H r fB.refl (λ_=>⟨rfl,aR.refl _⟩) h2⟩
 ·exact f.elim
def ai (i:Nat)(hN:X.N[i]? = some x:=by rfl)(hv:Ku X.env.scope x:=by first|exact Or.inl rfl|exact Or.inr (Or.inl rfl)|exact Or.inr (Or.inr rfl))(hd:(x==("__debug__":Str))=false:=by decide)
  (vX:(x==("__classdict__":Str))=false:=by decide) (c:G.is i=false:=by rfl):DE X G (.Name x pos) false .S (ag i):=RP (b:=false) (m:=.S) (oJ hN hv hd vX) c
theorem gH (i:Nat)(hN:X.N[i]? = some x:=by rfl)(hv:Ku X.env.scope x:=by first|exact Or.inl rfl|exact Or.inr (Or.inl rfl)|exact Or.inr (Or.inr rfl))(hd:(x==("__debug__":Str))=false:=by decide)
  (vX:(x==("__classdict__":Str))=false:=by decide) (c:G.is i=true:=by rfl):DE X G (.Name x pos) false .P (ag i):=by
 refine⟨(oJ hN hv hd vX).to λσ H Q ⟨Z,A,ρ,r,f⟩=>?_⟩;unfold ag at f;split at f
 ·rename_i u hu;obtain⟨a,h1,_,_,_,h2⟩:=r.own c hu;exact⟨.ref a,h1,f _ H r fB.refl (λ_=>⟨rfl,aR.refl _⟩) h2.pk⟩
 ·exact f.elim
def HB {u:U}(h:PE X e (tC v))(r:∀K H A,Rp K H A u v):DE X G e false .S (gC u):=by
 refine⟨h.to λσ H Q ⟨Z,A,ρ,q,f⟩=>?_⟩;exact f v H q fB.refl (λ_=>⟨rfl,aR.refl _⟩) (r _ _ _)
def aj {i j pos}:DE X G (.Constant (.int i) j pos) false .S (gC (.int i)):=HB xW λ_ _ _=>by rfl
def km {i j pos}:DE X G (.Constant (.bool i) j pos) false .S (gC (.bl i)):=HB Q7 λ_ _ _=>by unfold Rp;rfl
def iC {j pos}:DE X G (.Constant .none j pos) false .S (gC .non):=HB OL λ_ _ _=>by unfold Rp;rfl
def a8 {i j pos}:DE X G (.Constant (.str i) j pos) false .S (gC (.str i)):=HB xX λ_ _ _=>by rfl
def pK {i:Int}{tk:Tok}(hg:Gl X x)(hm:X.mg x=some (.int i tk))(hd:(x==("__debug__":Str))=false:=by decide):DE X G (.Name x pos) false .S (gC (.int i)):=HB (v:=.int i) (KO hg hm ⟨_,rfl⟩ hd) λ_ _ _=>by unfold Rp;rfl
noncomputable def aD (p:U->U->R U)(g1 g2:Ev->R (U×Ev)):Ev->R (U×Ev):=λρ=>(g1 ρ).bind λx=>(g2 x.2).bind λy=>(p x.1 y.1).bind λz=>.ok (z,y.2)
def gy (K:ZD)(r:R2)(m:Md)(p:U->U->R U):Prop:=∀A H x y u w z Q,Pk K H A u x->Pk K H A w y->(∀a,A a->Mu (H a))->p u w=.ok z->(∀v H',aR H H'->DH K m A H H' z v->Q v H')->r x y H Q
variable {b1 b2 b3:Bool}{m1 m2 m3 mr:Md}{g1 g2 g3:Ev->R (U×Ev)}
theorem pL {p:U->U->R U}(hp:gy X.K r mr p)(hm:m1=.P->b2=false){Q:VK}(h:tD X.K G (b1||b2) mr (aD p g1 g2) σ H Q) :
  Rj r (tD X.K G b1 m1 g1) (tD X.K G b2 m2 g2) σ H Q:=by
 obtain⟨Z,A,ρ,q,f⟩:=h;unfold aD at f;refine⟨Z,A,ρ,q,?_⟩;cases e1:g1 ρ with
 |stk=>rw[e1] at f;exact f.elim
 |exc=>rw[e1] at f;exact f.elim
 |ok x=>
  obtain⟨u,ρ1⟩:=x;rw[e1] at f;intro v1 H1 q1 x1 s1 tW;refine⟨Z,A,ρ1,q1,?_⟩;cases e2:g2 ρ1 with
  |stk=>simp only[R.bind,e2] at f;exact f.elim
  |exc=>simp only[R.bind,e2] at f;exact f.elim
  |ok y=>
   obtain⟨w,ρ2⟩:=y;simp only[R.bind,e2] at f;intro v2 H2 q2 x2 s2 wa;cases e3:p u w with
   |stk=>rw[e3] at f;exact f.elim
   |exc=>rw[e3] at f;exact f.elim
   |ok z=>
    rw[e3] at f;refine hp A H2 v1 v2 u w z Q (tW.later q1 x2 s2 hm) wa.pk q2.mu e3 λv H' sm vm=>?_;exact f v H' (q2.same sm) ((x1.trans x2).trans (fB.same sm)) (pJ (two s1 s2) sm) (vm.e q2 sm)
def aS {op:Operator}{p:U->U->R U}(ho:l6 X (acX op) r)(hp:gy X.K r mr p)(ha:DE X G a b1 m1 g1)(hb:DE X G b b2 m2 g2)(hm:m1=.P->b2=false:=by first|exact λ_=>rfl|exact λh=>nomatch h) :
  DE X G (.BinOp a op b pos) (b1||b2) mr (aD p g1 g2):=⟨(Rk ho ha.un hb.un).to λ_ _ _=>pL hp hm⟩
def jN {p:U->U->R U}(ho:l6 X (aa9 op) r)(hp:gy X.K r mr p)(ha:DE X G a b1 m1 g1)(hb:DE X G b b2 m2 g2)(hk:ac5 op b=false)(hm:m1=.P->b2=false:=by first|exact λ_=>rfl|exact λh=>nomatch h) :
  DE X G (.Compare a [op] [b] pos) (b1||b2) mr (aD p g1 g2):=⟨(KZ ho ha.un hb.un hk).to λ_ _ _=>pL hp hm⟩
def az {p:U->U->R U}(ho:Kv X r)(hp:gy X.K r mr p)(ha:DE X G a b1 m1 g1)(hb:DE X G b b2 m2 g2)(hs:Dx b)(hm:m1=.P->b2=false:=by first|exact λ_=>rfl|exact λh=>nomatch h) :
  DE X G (.Subscript a b pos) (b1||b2) mr (aD p g1 g2):=⟨(Rz ho ha.un hb.un hs).to λ_ _ _=>pL hp hm⟩
noncomputable def gB (g:Ev->R (U×Ev)):Ev->R (Bool×Ev):=λρ=>(g ρ).bind λx=>match x.1 with
 | .bl c=>.ok (c,x.2)
 |_=>.stk
theorem qI {g:Ev->R (U×Ev)}{m:Md}{Q:Bool->Hp->Prop}(h:GD X.K G b1 (gB g) σ H Q):tD X.K G b1 m g σ H λx H'=>∃k,x=.bl k/\Q k H':=by
 obtain⟨Z,A,ρ,q,f⟩:=h;refine⟨Z,A,ρ,q,?_⟩;unfold gB at f;cases e1:g ρ with
 |stk=>rw[e1] at f;exact f.elim
 |exc=>rw[e1] at f;exact f.elim
 |ok x=>
  obtain⟨u,ρ1⟩:=x;rw[e1] at f;intro v H1 q1 x1 s1 vm;cases u with
  |bl c=>
   have e:v=.bl c:=by have:=vm.pk;unfold Pk at this;exact this
   exact⟨c,e,f H1 q1 x1 s1⟩
  |_=>exact f.elim
def jl (h:DE X G e b1 m1 g1)(he:∀whole,isTrue e X.env whole=(do let v ←whole;standAt e.pos;holding [v] (truthy v)):=by intro _;rfl):DT X G e b1 (gB g1):=⟨(OM h.un he).to λ_ _ _ h=>qI h⟩
def aH {p:U->U->R U}(ho:l6 X (aa9 op) r)(hp:gy X.K r mr p)(ha:DE X G a b1 m1 g1)(hb:DE X G b b2 m2 g2)(hk:ac5 op b=false)(hm:m1=.P->b2=false:=by first|exact λ_=>rfl|exact λh=>nomatch h) :
  DT X G (.Compare a [op] [b] pos) (b1||b2) (gB (aD p g1 g2)):=⟨(K0 ho ha.un hb.un hk).to λ_ _ _ h=>pL hp hm (qI (m:=mr) h)⟩
end
end L2
namespace L2
section
variable {A':ZY->Prop}{ρ':Ev}{b p:Bool}{m:Md}{α:Type}
theorem Li.bind {x:R α}{k:α->R (U×Ev)}{Q:VK}(f:Li K G Z A b m ρ σ H (x.bind k) Q):∃a,x=.ok a/\Li K G Z A b m ρ σ H (k a) Q:=by
 cases x with
 |ok a=>exact⟨a,rfl,f⟩
 |exc=>exact f.elim
 |stk=>exact f.elim
theorem Lj.bind {x:R α}{k:α->R (Bool×Ev)}{Q:Bool->Hp->Prop}(f:Lj K G Z A b ρ σ H (x.bind k) Q):∃a,x=.ok a/\Lj K G Z A b ρ σ H (k a) Q:=by
 cases x with
 |ok a=>exact⟨a,rfl,f⟩
 |exc=>exact f.elim
 |stk=>exact f.elim
theorem Ll.bind {x:R α}{k:α->R (List U×Ev)}{Q:List V->Hp->Prop}(f:Ll K G Z A b p ρ σ H (x.bind k) Q):∃a,x=.ok a/\Ll K G Z A b p ρ σ H (k a) Q:=by
 cases x with
 |ok a=>exact⟨a,rfl,f⟩
 |exc=>exact f.elim
 |stk=>exact f.elim
def Pk.bl {c:Bool}(h:Pk K H A (.bl c) v):v=.bl c:=by unfold Pk at h;exact h
def Pk.int {i:Int}(h:Pk K H A (.int i) v):v=.int i:=by unfold Pk at h;exact h
def Pk.str {i:Str}(h:Pk K H A (.str i) v):v=.str i:=by unfold Pk at h;exact h
def iw {c:Bool}:Rp K H A (.bl c) (.bl c):=by rfl
def dE {c:Int}:Rp K H A (.int c) (.int c):=by unfold Rp;rfl
def xl.ofS {u:U}(h:Rp K H A u v):xl K G Z .S A ρ σ H u v:=h
def uu:Rp K H A .non .non:=by rfl
def Pl {c:Str}:Rp K H A (.str c) (.str c):=by unfold Rp;rfl
theorem aO.pks:∀{us:List U} {vs:List V},aO K H A us vs->B3 K H A us vs
 | [],_,h=>by unfold aO at h;unfold B3;exact h
 |u::us,_,h=>by
  unfold aO at h;unfold B3;obtain⟨x,r,e,z,q⟩:=h;exact⟨x,r,e,z.pk,aO.pks q⟩
end
section
variable {e a b:abd}{es rest:List abd}{b1 b2 b3:Bool}{m1 m2 m3 mr:Md}{g1 g2 g3:Ev->R (U×Ev)}{h1 h2:Ev->R (Bool×Ev)}
noncomputable def qJ (g1 g2:Ev->R (Bool×Ev)):Ev->R (Bool×Ev):=λρ=>(g1 ρ).bind λx=>if x.1=true then g2 x.2 else .ok (false,x.2)
noncomputable def DJ (g1 g2:Ev->R (Bool×Ev)):Ev->R (Bool×Ev):=λρ=>(g1 ρ).bind λx=>if x.1=true then .ok (true,x.2) else g2 x.2
noncomputable def sP (g1:Ev->R (Bool×Ev)):Ev->R (Bool×Ev):=λρ=>(g1 ρ).bind λx=>.ok (!x.1,x.2)
structure DW (X:Cx)(G:Gm)(e:abd)(b:Bool)(g:Ev->R (Bool×Ev)):Prop where
 un:PW X e (GD X.K G b g)
def DW.dt (h:DW X G e b1 h1):DT X G e b1 h1:=⟨PW.pt h.un⟩
theorem HC {Q:Bool->Hp->Prop}(h:GD X.K G (b1||b2) (qJ h1 h2) σ H Q):Q8 (GD X.K G b1 h1) (GD X.K G b2 h2) σ H Q:=by
 obtain⟨Z,A,ρ,q,f⟩:=h;obtain⟨⟨k,ρ1⟩,e1,f⟩:=f.bind;refine⟨Z,A,ρ,q,?_⟩;rw[e1];intro H1 q1 x1 s1;cases k with
 |true=>
  rw[hV rfl] at f ⊢;refine⟨Z,A,ρ1,q1,?_⟩;dsimp only at f;cases e2:h2 ρ1 with
  |ok y=>rw[e2] at f;exact λH2 q2 x2 s2=>f H2 q2 (x1.trans x2) (two s1 s2)
  |exc=>rw[e2] at f;exact f.elim
  |stk=>rw[e2] at f;exact f.elim
 |false=>
  rw[hU ZE] at f ⊢;exact f H1 q1 x1 λz=>s1 (aaE.mp z).1
theorem Lm {Q:Bool->Hp->Prop}(h:GD X.K G (b1||b2) (DJ h1 h2) σ H Q):Ww (GD X.K G b1 h1) (GD X.K G b2 h2) σ H Q:=by
 obtain⟨Z,A,ρ,q,f⟩:=h;obtain⟨⟨k,ρ1⟩,e1,f⟩:=f.bind;refine⟨Z,A,ρ,q,?_⟩;rw[e1];intro H1 q1 x1 s1;cases k with
 |false=>
  rw[hU ZE] at f ⊢;refine⟨Z,A,ρ1,q1,?_⟩;dsimp only at f;cases e2:h2 ρ1 with
  |ok y=>rw[e2] at f;exact λH2 q2 x2 s2=>f H2 q2 (x1.trans x2) (two s1 s2)
  |exc=>rw[e2] at f;exact f.elim
  |stk=>rw[e2] at f;exact f.elim
 |true=>
  rw[hV rfl] at f ⊢;exact f H1 q1 x1 λz=>s1 (aaE.mp z).1
def lC (ha:DT X G a b1 h1):DW X G (.BoolOp .And [a] pos) b1 h1:=⟨KP ha.un⟩
def mC (ha:DT X G a b1 h1):DW X G (.BoolOp .Or [a] pos) b1 h1:=⟨ON ha.un⟩
def lD (ha:DT X G a b1 h1)(hb:DW X G (.BoolOp .And (b::rest) pos) b2 h2):DW X G (.BoolOp .And (a::b::rest) pos) (b1||b2) (qJ h1 h2):=⟨(OO ha.un hb.un).to λ_ _ _=>HC⟩
def oq (ha:DT X G a b1 h1)(hb:DW X G (.BoolOp .Or (b::rest) pos) b2 h2):DW X G (.BoolOp .Or (a::b::rest) pos) (b1||b2) (DJ h1 h2):=⟨(Q9 ha.un hb.un).to λ_ _ _=>Lm⟩
theorem oO (ha:DT X G a b1 h1):DT X G (.UnaryOp .Not a pos) b1 (sP h1):=⟨(OP ha.un).to λσ H Q h=>by
 obtain⟨Z,A,ρ,q,f⟩:=h;obtain⟨⟨k,ρ1⟩,e1,f⟩:=f.bind;refine⟨Z,A,ρ,q,?_⟩;rw[e1];exact λH1 q1 x1 s1=>f H1 q1 x1 s1⟩
noncomputable def zY (g1 g2:Ev->R (U×Ev)):Ev->R (U×Ev):=λρ=>(gB g1 ρ).bind λx=>if x.1=true then g2 x.2 else .ok (.bl false,x.2)
noncomputable def Xx (g1 g2:Ev->R (U×Ev)):Ev->R (U×Ev):=λρ=>(gB g1 ρ).bind λx=>if x.1=true then .ok (.bl true,x.2) else g2 x.2
noncomputable def Ln (g1:Ev->R (U×Ev)):Ev->R (U×Ev):=λρ=>(gB g1 ρ).bind λx=>.ok (.bl (!x.1),x.2)
theorem MX {g:Ev->R (U×Ev)}{k:Bool}(h:gB g ρ=.ok (k,ρ1)):g ρ=.ok (.bl k,ρ1):=by
 unfold gB at h;cases e:g ρ with
 |ok y=>
  obtain⟨u,ρ2⟩:=y;rw[e] at h;cases u<;>simp[R.bind] at h;lia
 |exc=>rw[e] at h;simp[R.bind] at h
 |stk=>rw[e] at h;simp[R.bind] at h
theorem uv (hn:m2≠.P:=by decide)(ha:DE X G a b1 m1 g1)(hb:DE X G (.BoolOp .And (b::rest) pos) b2 m2 g2):DE X G (.BoolOp .And (a::b::rest) pos) (b1||b2) .S (zY g1 g2):=⟨(OR ha.un hb.un).to λσ H Q h=>by
 obtain⟨Z,A,ρ,q,f⟩:=h;obtain⟨⟨k,ρ1⟩,e1,f⟩:=f.bind;refine⟨Z,A,ρ,q,?_⟩;rw[MX e1];intro v H1 q1 x1 s1 vm;refine⟨k,vm.pk.bl,?_⟩;cases k with
 |true=>
  rw[hV rfl] at f ⊢;refine⟨Z,A,ρ1,q1,?_⟩;dsimp only at f;cases e2:g2 ρ1 with
  |ok y=>rw[e2] at f;exact λv2 H2 q2 x2 s2 wa=>f v2 H2 q2 (x1.trans x2) (two s1 s2) (wa.rp hn)
  |exc=>rw[e2] at f;exact f.elim
  |stk=>rw[e2] at f;exact f.elim
 |false=>
  rw[hU ZE] at f ⊢;exact f _ H1 q1 x1 (λz=>s1 (aaE.mp z).1) (xl.ofS iw)⟩
def uw {op}(ha:DE X G a b1 m1 g1):DE X G (.BoolOp op [a] pos) b1 m1 g1:=⟨OQ ha.un⟩
theorem HD (ha:DE X G a b1 m1 g1):DE X G (.UnaryOp .Not a pos) b1 .S (Ln g1):=⟨(OS ha.un).to λσ H Q h=>by
 obtain⟨Z,A,ρ,q,f⟩:=h;obtain⟨⟨k,ρ1⟩,e1,f⟩:=f.bind;refine⟨Z,A,ρ,q,?_⟩;rw[MX e1];exact λv H1 q1 x1 s1 vm=>⟨k,vm.pk.bl,f _ H1 q1 x1 s1 (xl.ofS iw)⟩⟩
noncomputable def MY (h:Ev->R (Bool×Ev))(g1 g2:Ev->R (U×Ev)):Ev->R (U×Ev):=λρ=>(h ρ).bind λx=>if x.1=true then g1 x.2 else g2 x.2
theorem mD (V7:m1≠.P:=by decide)(Tz:m2≠.P:=by decide)(hc:DT X G c b1 h1)(ha:DE X G a b2 m1 g1)(hb:DE X G b b3 m2 g2):DE X G (.IfExp c a b pos) (b1||(b2||b3)) .S (MY h1 g1 g2):=⟨(GO hc.un ha.un hb.un).to λσ H Q h=>by
 obtain⟨Z,A,ρ,q,f⟩:=h;obtain⟨⟨k,ρ1⟩,e1,f⟩:=f.bind;refine⟨Z,A,ρ,q,?_⟩;rw[e1];intro H1 q1 x1 s1;cases k with
 |true=>
  rw[hV rfl] at f ⊢;refine⟨Z,A,ρ1,q1,?_⟩;dsimp only at f;cases e2:g1 ρ1 with
  |ok y=>rw[e2] at f;exact λv2 H2 q2 x2 s2 wa=>f v2 H2 q2 (x1.trans x2) (two s1 λz=>s2 (aaE.mp z).1) (wa.rp V7)
  |exc=>rw[e2] at f;exact f.elim
  |stk=>rw[e2] at f;exact f.elim
 |false=>
  rw[hU ZE] at f ⊢;refine⟨Z,A,ρ1,q1,?_⟩;dsimp only at f;cases e2:g2 ρ1 with
  |ok y=>rw[e2] at f;exact λv2 H2 q2 x2 s2 wa=>f v2 H2 q2 (x1.trans x2) (two s1 λz=>s2 (aaE.mp z).2) (wa.rp Tz)
  |exc=>rw[e2] at f;exact f.elim
  |stk=>rw[e2] at f;exact f.elim⟩
noncomputable def oP (p p':U->U->R U)(g1 g2 g3:Ev->R (U×Ev)):Ev->R (U×Ev):=λρ=>(g1 ρ).bind λx=>(g2 x.2).bind λy=>(p x.1 y.1).bind λz=>match z with
 | .bl k=>if k=true then (g3 y.2).bind λw=>(p' y.1 w.1).bind λz'=>.ok (z',w.2) else .ok (.bl false,y.2)
 |_=>.stk
theorem B4 {p p':U->U->R U}(hp:gy X.K r .S p)(E5:gy X.K r' .S p')(n1:m1≠.P)(n2:m2≠.P){Q:VK}(h:tD X.K G (b1||(b2||b3)) .S (oP p p' g1 g2 g3) σ H Q) :
  G1 r r' (tD X.K G b1 m1 g1) (tD X.K G b2 m2 g2) (tD X.K G b3 m3 g3) σ H Q:=by
 obtain⟨Z,A,ρ,q,f⟩:=h;obtain⟨⟨u,ρ1⟩,e1,f⟩:=f.bind;obtain⟨⟨w,ρ2⟩,e2,f⟩:=f.bind;obtain⟨z,e3,f⟩:=f.bind;refine⟨Z,A,ρ,q,?_⟩;rw[e1];intro v1 H1 q1 x1 s1 tW;refine⟨Z,A,ρ1,q1,?_⟩;dsimp only at e2;rw[e2];intro v2 H2 q2 x2 s2 wa;refine hp A H2 v1 v2 u w z _ (tW.laterS q1 x2 n1).pk wa.pk q2.mu e3 λv H3 sm vm=>?_;cases z with
 |bl k=>
  refine⟨k,(show Rp X.K H3 A (.bl k) v from vm).pk.bl,?_⟩;have q3:=q2.same sm;cases k with
  |false=>
   rw[hU ZE];exact f _ H3 q3 ((x1.trans x2).trans (fB.same sm)) (λz=>by
    obtain⟨a,b⟩:=aaE.mp z;exact pJ (two s1 s2) sm (by rw[a,(aaE.mp b).1];rfl)) (xl.ofS iw)
  |true=>
   rw[hV rfl];dsimp only at f;rw[hV rfl] at f;obtain⟨⟨w3,ρ3⟩,e4,f⟩:=f.bind;obtain⟨z',e5,f⟩:=f.bind;refine⟨Z,A,ρ2,q3,?_⟩;rw[e4];intro v4 H4 q4 x4 s4 X7;refine E5 A H4 v2 v4 w w3 z' Q ((wa.rp n2).same sm |>.re q3.mu x4 (λb z=>.inl z)).pk X7.pk q4.mu e5 λv5 H5 Oz X8=>?_;refine f v5 H5 (q4.same Oz) (((x1.trans x2).trans (fB.same sm)).trans (x4.trans (fB.same Oz))) ?_ (X8.e q4 Oz);intro z;obtain⟨a,b⟩:=aaE.mp z;obtain⟨b,c⟩:=aaE.mp b;exact pJ (two (pJ (two s1 s2) sm) s4) Oz (by rw[a,b,c];rfl)
 |_=>exact f.elim
def zZ {QD:CmpOp}{p p':U->U->R U}(ho:l6 X (aa9 op) r)(hp:gy X.K r .S p)(Ki:l6 X (aa9 QD) r')(E5:gy X.K r' .S p')(ha:DE X G a b1 m1 g1)(hb:DE X G b b2 m2 g2)(hc:DE X G c b3 m3 g3)(n1:m1≠.P:=by decide)(n2:m2≠.P:=by decide)(hm:lastMarks [op,QD] [b,c]=false:=by with_unfolding_all rfl):DT X G (.Compare a [op,QD] [b,c] pos) (b1||(b2||b3)) (gB (oP p p' g1 g2 g3)):=⟨(G2 ho Ki ha.un hb.un hc.un hm).to λ_ _ _ h=>B4 hp E5 n1 n2 (qI (m:=.S) h)⟩
noncomputable def Lo (p:U->R U)(g:Ev->R (U×Ev)):Ev->R (U×Ev):=λρ=>(g ρ).bind λx=>(p x.1).bind λz=>.ok (z,x.2)
def Pm (K:ZD)(r:V->Hp->VK->Prop)(m:Md)(p:U->R U):Prop:=∀A H x u z Q,Pk K H A u x->(∀a,A a->Mu (H a))->p u=.ok z->(∀v H',aR H H'->DH K m A H H' z v->Q v H')->r x H Q
theorem Lp {r:V->Hp->VK->Prop}{p:U->R U}(hp:Pm X.K r mr p){Q:VK}(h:tD X.K G b1 mr (Lo p g1) σ H Q):Wz r (tD X.K G b1 m1 g1) σ H Q:=by
 obtain⟨Z,A,ρ,q,f⟩:=h;obtain⟨⟨u,ρ1⟩,e1,f⟩:=f.bind;obtain⟨z,e2,f⟩:=f.bind;refine⟨Z,A,ρ,q,?_⟩;rw[e1];intro v1 H1 q1 x1 s1 tW;exact hp A H1 v1 u z Q tW.pk q1.mu e2 λv H' sm vm=>f v H' (q1.same sm) (x1.trans (fB.same sm)) (pJ s1 sm) (vm.e q1 sm)
def HF {op:UnaryOp}{r:V->Hp->VK->Prop}{p:U->R U}(ho:Ue X (unaryOp op) r)(hp:Pm X.K r mr p)(ha:DE X G a b1 m1 g1):DE X G (.UnaryOp op a pos) b1 mr (Lo p g1):=⟨(Rl ho ha.un).to λ_ _ _=>Lp hp⟩
noncomputable def ao:Ev->R (List U×Ev):=λρ=>.ok ([],ρ)
noncomputable def af (g:Ev->R (U×Ev))(ga:Ev->R (List U×Ev)):Ev->R (List U×Ev):=λρ=>(g ρ).bind λx=>(ga x.2).bind λy=>.ok (x.1::y.1,y.2)
variable {ga:Ev->R (List U×Ev)}{p:Bool}
theorem ah:DA X G [] false p ao:=⟨kD.to λσ H Q ⟨Z,A,ρ,q,f⟩=>f [] H q fB.refl (λ_=>⟨rfl,aR.refl _⟩) (by unfold Lk;split;exact rfl;exact aO.nil)⟩
theorem ae (ha:DE X G e b1 m1 g1)(hr:DA X G es b2 p ga)(hm:m1=.P->(p=true/\b2=false):=by first|exact λ_=>⟨rfl,rfl⟩|exact λh=>nomatch h)
  (hs:ZX (e::es) X.env=(false,acP e X.env)::ZX es X.env:=by rfl):DA X G (e::es) (b1||b2) p (af g1 ga):=⟨(eN ha.un hr.un hs).to λσ H Q h=>by
 obtain⟨Z,A,ρ,q,f⟩:=h;obtain⟨⟨u,ρ1⟩,e1,f⟩:=f.bind;obtain⟨⟨us,ρ2⟩,e2,f⟩:=f.bind;refine⟨Z,A,ρ,q,?_⟩;rw[e1];intro v1 H1 q1 x1 s1 tW;refine⟨Z,A,ρ1,q1,?_⟩;dsimp only at e2;rw[e2];intro vs H2 q2 x2 s2 wa;refine f (v1::vs) H2 q2 (x1.trans x2) (two s1 s2) ?_;unfold Lk at wa ⊢;cases p with
 |true=>
  rw[hV rfl] at wa ⊢;exact⟨v1,vs,rfl,tW.later q1 x2 s2 (λz=>(hm z).2),wa⟩
 |false=>
  rw[hU ZE] at wa ⊢;exact aO.cons (tW.laterS q1 x2 λz=>ZE (hm z).1) wa⟩
theorem Lk.pks (h:Lk K p A H us vs):B3 K H A us vs:=by
 unfold Lk at h;cases p with
 |true=>lia
 |false=>rw[hU ZE] at h;exact h.pks
def Lk.rps (h:Lk K false A H us vs):aO K H A us vs:=by
 unfold Lk at h;rw[hU ZE] at h;exact h
noncomputable def aU (ga:Ev->R (List U×Ev)):Ev->R (U×Ev):=λρ=>(ga ρ).bind λx=>if x.1.length<=ZH then .ok (.tup x.1,x.2) else .stk
noncomputable def bb (ga:Ev->R (List U×Ev)):Ev->R (U×Ev):=λρ=>(ga ρ).bind λx=>if x.1.length<=ZH then .ok (.lst x.1,x.2) else .stk
def cN {p:ZY}(h:H p=none)(o:HO):aR H (cE H p o):=λb u q=>by rw[bq (bR q h)];exact q
def xm {a:ZY}(h:aO K H A us vs)(n:H a=none)(l:us.length<=ZH):Rp K (cE H a (.tup vs)) A (.tup us) (.ref a):=by
 unfold Rp;exact⟨a,vs,rfl,bC,l,h.same (cN n _)⟩
theorem cq {a:ZY}(m:∀b,A b->Mu (H b))(h:aO K H A us vs)(n:H a=none)(l:us.length<=ZH):mB K (cE H a (.lst vs)) (λb=>A b\/b=a) (.lst us) a:=
 ⟨vs,bC,l,h.re m (fB.same (cN n _)) λb z=>by
  lia⟩
theorem aP {x1}(h:DA X G es b1 false ga):DE X G (.Tuple es x1 pos) b1 .S (aU ga):=⟨(G3 h.un).to λσ H Q h=>by
 obtain⟨Z,A,ρ,q,f⟩:=h;obtain⟨⟨us,ρ1⟩,e1,f⟩:=f.bind;refine⟨Z,A,ρ,q,?_⟩;rw[e1];intro vs H1 q1 x1 s1 tW;dsimp only at f;split at f
 ·rename_i l;refine⟨by rw[←tW.rps.length];exact l,λa n=>?_⟩;exact f _ _ (q1.same (cN n _)) (x1.trans (fB.same (cN n _))) (pJ s1 (cN n _)) (xl.ofS (xm tW.rps n l))
 ·exact f.elim⟩
theorem ba (h:DA X G es b1 false ga):DE X G (.List es pos) b1 .O (bb ga):=⟨(x8 h.un).to λσ H Q h=>by
 obtain⟨Z,A,ρ,q,f⟩:=h;obtain⟨⟨us,ρ1⟩,e1,f⟩:=f.bind;refine⟨Z,A,ρ,q,?_⟩;rw[e1];intro vs H1 q1 x1 s1 tW;dsimp only at f;split at f
 ·rename_i l;refine⟨by rw[←tW.rps.length];exact l,λa n=>?_⟩;exact f _ _ (q1.same (cN n _)) (x1.trans (fB.same (cN n _))) (pJ s1 (cN n _)) (DH.e q1 (cN n _) ⟨a,rfl,n,cq q1.mu tW.rps n l⟩)
 ·exact f.elim⟩
noncomputable def dP (p:List U->R U)(ga:Ev->R (List U×Ev)):Ev->R (U×Ev):=λρ=>(ga ρ).bind λx=>(p x.1).bind λz=>.ok (z,x.2)
def mj (K:ZD)(r:List V->Hp->VK->Prop)(m:Md)(p:List U->R U):Prop:=∀A H vs us z Q,B3 K H A us vs->(∀a,A a->Mu (H a))->p us=.ok z->(∀v H',aR H H'->DH K m A H H' z v->Q v H')->r vs H Q
theorem tO {r:List V->Hp->VK->Prop}{f:List U->R U}(hp:mj X.K r mr f){Q:VK}(h:tD X.K G b1 mr (dP f ga) σ H Q):U9 r (Vd X.K G b1 p ga) σ H Q:=by
 obtain⟨Z,A,ρ,q,f⟩:=h;obtain⟨⟨us,ρ1⟩,e1,f⟩:=f.bind;obtain⟨z,e2,f⟩:=f.bind;refine⟨Z,A,ρ,q,?_⟩;rw[e1];intro vs H1 q1 x1 s1 tW;exact hp A H1 vs us z Q tW.pks q1.mu e2 λv H' sm vm=>f v H' (q1.same sm) (x1.trans (fB.same sm)) (pJ s1 sm) (vm.e q1 sm)
def aI {id:String}{p1:Pos}{r:List V->Hp->VK->Prop}{f:List U->R U}(hc:ez X (.builtin id) r)(hp:mj X.K r mr f)(hg:Gl X x)(hm:X.mg x=none)(hv:aai x=some (.builtin id))(ha:DA X G (e::es) b1 true ga)(hn:x≠"__name__":=by decide)(De:(x==("__debug__":Str))=false:=by decide)
  (he:ZX (e::es) X.env=(false,acP e X.env)::ZX es X.env:=by rfl) (sJ:(abL pos (ZX es X.env)).any (·.1)=false:=by rfl):DE X G (.Call (.Name x p1) (e::es) [] pos) b1 mr (dP f ga):=⟨(mw hc hg hm hv ha.un hn De he sJ).to λ_ _ _=>tO hp⟩
def f7 {p1:Pos}{r:List V->Hp->VK->Prop}{f:List U->R U}(hc:ez X (.type T) r)(hp:mj X.K r mr f)(hg:Gl X x)(hm:X.mg x=none)(hv:aai x=some (.type T))(ha:DA X G (e::es) b1 true ga)(hn:x≠"__name__":=by decide)(De:(x==("__debug__":Str))=false:=by decide)(he:ZX (e::es) X.env=(false,acP e X.env)::ZX es X.env:=by rfl)(sJ:(abL pos (ZX es X.env)).any (·.1)=false:=by rfl):DE X G (.Call (.Name x p1) (e::es) [] pos) b1 mr (dP f ga):=⟨(kS hc hg hm hv ha.un hn De he sJ).to λ_ _ _=>tO hp⟩
end
end L2
namespace L2
section
variable {A':ZY->Prop}{ρ':Ev}{b p:Bool}{m:Md}{α:Type}
theorem mB.mono (n:∀b,A' b->A b){u:U}(h:mB K H A u a):mB K H A' u a:=by
 cases u<;>(unfold mB at h ⊢)
 case lst us=>obtain⟨xs,q,l,z⟩:=h;exact⟨xs,q,l,z.mono n⟩
 case dct ks us=>obtain⟨xs,q,l,z⟩:=h;exact⟨xs,q,l,z.mono n⟩
 all_goals exact h.elim
theorem dA {α:Type}{l:List (Option α)}{x:Option α}{y:α}(h:(l.set i x)[j]? = some (some y)):(i=j/\x=some y)\/(i≠j/\l[j]? = some (some y)):=by
 by_cases e:i=j
 ·subst e;rw[List.getElem?_set_self'] at h;refine .inl ⟨rfl,?_⟩;cases q:l[i]? with
  |none=>rw[q] at h;cases h
  |some w=>rw[q] at h;exact Z0 h
 ·rw[Z_ e] at h;exact .inr ⟨e,h⟩
theorem tP {α:Type}{l l':List (Option α)}{x:α}{β:Type}{k:List (Option β)}{y:Option β}{z:β}(hl:k.length=l.length)(h:(k.set i y)[i]? = some (some z)):(l.set i (some x))[i]? = some (some x):=by
 grind
theorem cS.set (r:cS K G Z A ρ σ H){u:U}(c:G.is i=false)(h:Rp K H A u v):cS K G Z A (ρ.set i (some u)) (σ.set i (some v)) H where
 slot:=λj w hj=>by
  rcases dA hj with⟨rfl,e⟩|⟨ne,e⟩
  ·cases e;refine⟨v,tP (l':=σ) r.len hj,?_⟩;rw[hU (by rw[c];exact ZE)];exact h
  ·rw[Z_ ne];exact r.slot j w e
 dis:=λj k w w' a cj ck ne hj hk sj sk=>by
  rcases dA hj with⟨rfl,_⟩|⟨n1,e1⟩
  ·rw[c] at cj;cases cj
  ·rcases dA hk with⟨rfl,_⟩|⟨n2,e2⟩
   ·rw[c] at ck;cases ck
   ·rw[Z_ n1] at sj;rw[Z_ n2] at sk;exact r.dis j k w w' a cj ck ne e1 e2 sj sk
 mu:=r.mu
 sup:=r.sup
 out:=r.out
 bas:=r.bas
 io0:=λh0=>by
  obtain⟨a,b⟩:=r.io0 h0;refine⟨?_,b⟩;have:i≠0:=λz=>by subst z;rw[b] at c;cases c
  rw[Z_ this];exact a
 len:=by rw[aaF,aaF];exact r.len
theorem cS.drop (r:cS K G Z A ρ σ H)(i:Nat):cS K G Z A (ρ.set i none) σ H where
 slot:=λj w hj=>by
  rcases dA hj with⟨rfl,e⟩|⟨ne,e⟩
  ·cases e
  ·exact r.slot j w e
 dis:=λj k w w' a cj ck ne hj hk sj sk=>by
  rcases dA hj with⟨rfl,e⟩|⟨n1,e1⟩
  ·cases e
  ·rcases dA hk with⟨rfl,e⟩|⟨n2,e2⟩
   ·cases e
   ·exact r.dis j k w w' a cj ck ne e1 e2 sj sk
 mu:=r.mu
 sup:=r.sup
 out:=r.out
 bas:=r.bas
 io0:=r.io0
 len:=by rw[aaF];exact r.len
theorem cS.setO (r:cS K G Z A ρ σ H){u:U}(c:G.is i=true)(hi:G.io=true->i≠0)(na:¬A a)(nb:Z.B a=none)(r':cS K G Z (λb=>A b\/b=a) ρ σ H)(h:mB K H (λb=>A b\/b=a) u a) :
  cS K G Z (λb=>A b\/b=a) (ρ.set i (some u)) (σ.set i (some (.ref a))) H where
 slot:=λj w hj=>by
  rcases dA hj with⟨rfl,e⟩|⟨ne,e⟩
  ·cases e;refine⟨.ref a,tP (l':=σ) r.len hj,?_⟩;rw[hV c];exact⟨a,rfl,.inr rfl,nb,.inl λz=>na (r.sup a z),h⟩
  ·rw[Z_ ne];exact r'.slot j w e
 dis:=λj k w w' b cj ck ne hj hk sj sk=>by
  have key:∀k w',G.is k=true->i≠k->ρ[k]? = some (some w')->σ[k]? ≠ some (some (.ref a)):=λk w' ck _ e q=>by
   obtain⟨b,h1,h2,_⟩:=r.own ck e;lia
  rcases dA hj with⟨rfl,e1⟩|⟨n1,e1⟩
  ·rcases dA hk with⟨rfl,_⟩|⟨n2,e2⟩
   ·exact ne rfl
   ·rw[tP (l':=σ) r.len hj] at sj;cases sj;rw[Z_ n2] at sk;exact key k w' ck n2 e2 sk
  ·rcases dA hk with⟨rfl,e2⟩|⟨n2,e2⟩
   ·rw[tP (l':=σ) r.len hk] at sk;cases sk;rw[Z_ n1] at sj;exact key j w cj n1 e1 sj
   ·rw[Z_ n1] at sj;rw[Z_ n2] at sk;exact r.dis j k w w' b cj ck ne e1 e2 sj sk
 mu:=r'.mu
 sup:=r'.sup
 out:=r'.out
 bas:=r'.bas
 io0:=λh0=>by
  obtain⟨a,b⟩:=r.io0 h0;exact⟨by rw[Z_ (hi h0)];exact a,b⟩
 len:=by rw[aaF,aaF];exact r.len
theorem cS.put (r:cS K G Z A ρ σ H){u w:U}(c:G.is i=true)(h:ρ[i]? = some (some u))(ha:σ[i]? = some (some (.ref a)))(e:∀b o,b≠a->H b=some o->H' b=some o)(t:mB K H' A w a) :
  cS K G Z A (ρ.set i (some w)) σ H':=by
 obtain⟨a',h1,h2,h3,h4,h5⟩:=r.own c h;rw[ha] at h1;cases h1;have x:fB A H H':=λb o nb z=>e b o (λq=>nb (q▸h2)) z;exact {
  slot:=λj y hj=>by
   rcases dA hj with⟨rfl,q⟩|⟨ne,q⟩
   ·cases q;refine⟨.ref a,ha,?_⟩;rw[hV c];exact⟨a,rfl,h2,h3,h4,t⟩
   ·obtain⟨v,s1,s2⟩:=r.slot j y q;refine⟨v,s1,?_⟩;by_cases cj:G.is j=true
    ·rw[hV cj] at s2 ⊢;obtain⟨b,e1,e2,e3,e4,e5⟩:=s2;refine⟨b,e1,e2,e3,e4,e5.re r.mu x (λb z=>.inl z) λo z=>e b o (λq'=>?_) z⟩;subst q' e1;exact r.dis i j u y b c cj ne h q ha s1
    ·rw[hU cj] at s2 ⊢;exact s2.re r.mu x λb z=>.inl z
  dis:=λj k y y' b cj ck ne hj hk sj sk=>by
   have f:∀j y,(ρ.set i (some w))[j]? = some (some y)->∃y',ρ[j]? = some (some y'):=λj y hj=>by
    rcases dA hj with⟨rfl,q⟩|⟨ne,q⟩
    ·exact⟨u,h⟩
    ·exact⟨y,q⟩
   obtain⟨y1,hj⟩:=f j y hj;obtain⟨y2,hk⟩:=f k y' hk;exact r.dis j k y1 y2 b cj ck ne hj hk sj sk
  mu:=λb z=>by
   by_cases q:b=a
   ·subst q;exact t.mu
   ·have m:=r.mu b z;obtain⟨o,z⟩:=m.ex;rw[e b o q z,←z];exact m
  sup:=r.sup
  out:=r.out
  bas:=λb o z=>e b o (λq=>by subst q;rw[h3] at z;cases z) (r.bas b o z)
  io0:=r.io0
  len:=by rw[aaF];exact r.len}
end
def RQ (K:ZD)(m:Md)(A:ZY->Prop)(H:Hp):R U->VK->Prop
 | .ok u,Q=>∀v H',aR H H'->DH K m A H H' u v->Q v H'
 |_,_=>False
noncomputable def B5 {α:Type}(n:Nat)(g:List U->R α)(us:List U):R α:=if us.length=n then g us else .stk
def dz (K:ZD)(n:Nat)(f:List U->R U)(m:Md):Sp:=λvs H Q _=>∃us A,aO K H A us vs/\(∀a,A a->Mu (H a))/\RQ K m A H (B5 n f us) Q
def GF (K:ZD)(n:Nat)(f:List U->R (U×U)):Sp:=λvs H Q _=>∃u0 us a0 vs' A,vs=.ref a0::vs'/\A a0/\mB K H A u0 a0/\aO K H A us vs'/\(∀a,A a->Mu (H a))/\match B5 n f (u0::us) with
 | .ok (u,w)=>∀v H',(∀b o,b≠a0->H b=some o->H' b=some o)->mB K H' A w a0->Rp K H' A u v->Q v H'
 |_=>False
section
variable {e a b:abd}{es rest:List abd}{p1:Pos}{b1 b2 b3:Bool}{m1 m2 m3 mr:Md}{g1 g2 g3:Ev->R (U×Ev)}{h1 h2:Ev->R (Bool×Ev)}{ga:Ev->R (List U×Ev)}
noncomputable def dw (n:Nat)(f:List U->R U)(ga:Ev->R (List U×Ev)):Ev->R (U×Ev):=λρ=>(ga ρ).bind λx=>(B5 n f x.1).bind λz=>.ok (z,x.2)
theorem ax {f:List U->R U}(F:Fn X.prog X.w X.K X.mg X.base x k ps (dz X.K n f mr))(hr:gE k X.A)(ha:DA X G (e::es) b1 false ga)(hg:Gl X x:=by rfl)(De:(x==("__debug__":Str))=false:=by decide)(he:ZX (e::es) X.env=(false,acP e X.env)::ZX es X.env:=by rfl)(sJ:(abL pos (ZX es X.env)).any (·.1)=false:=by rfl):DE X G (.Call (.Name x p1) (e::es) [] pos) b1 mr (dw n f ga):=⟨(zW F hr ha.un hg De he sJ).to λσ H Q h=>by
 obtain⟨Z,A,ρ,q,f⟩:=h;obtain⟨⟨us,ρ1⟩,e1,f⟩:=f.bind;obtain⟨z,e2,f⟩:=f.bind;refine⟨Z,A,ρ,q,?_⟩;rw[e1];intro vs H1 q1 x1 s1 tW;show dz _ _ _ _ _ _ _ _;rw[aad];refine⟨us,A,tW.rps,q1.mu,?_⟩;dsimp only at e2;rw[e2];exact λv H' sm vm=>f v H' (q1.same sm) (x1.trans (fB.same sm)) (pJ s1 sm) (vm.e q1 sm)⟩
noncomputable def live (ρ:Ev)(i:Nat):Bool:=match ρ[i]? with
 |some (some _)=>true
 |_=>false
theorem DK (h:live ρ i=true):∃u,ρ[i]? = some (some u):=by
 unfold live at h;split at h
 ·rename_i u hu;exact⟨u,hu⟩
 ·cases h
noncomputable def xn (n i:Nat)(f:List U->R (U×U))(ga:Ev->R (List U×Ev)):Ev->R (U×Ev):=λρ=>if live ρ i=true then (ga ρ).bind λx=>match x.2[i]? with
 |some (some u0)=>(B5 n f (u0::x.1)).bind λz=>.ok (z.1,x.2.set i (some z.2))
 |_=>.stk
 else .stk
theorem eU {y:Str}{p2:Pos}{f:List U->R (U×U)}(F:Fn X.prog X.w X.K X.mg X.base x k ps (GF X.K n f))(hr:gE k X.A)(ha:DA X G es b1 false ga)(hN:X.N[i]? = some y:=by rfl)(hv:Ku X.env.scope y:=by first|exact Or.inl rfl|exact Or.inr (Or.inl rfl)|exact Or.inr (Or.inr rfl))(c:G.is i=true:=by rfl)(hd:(y==("__debug__":Str))=false:=by decide)(vX:(y==("__classdict__":Str))=false:=by decide)(hs:ZX (.Name y p2::es) X.env=(false,acP (.Name y p2) X.env)::ZX es X.env:=by rfl)(hg:Gl X x:=by rfl)(De:(x==("__debug__":Str))=false:=by decide)(sJ:(abL pos (ZX es X.env)).any (·.1)=false:=by rfl):DE X G (.Call (.Name x p1) (.Name y p2::es) [] pos) true .S (xn n i f ga):=⟨(zW F hr (eN (oJ hN hv hd vX) ha.un hs) hg De hs sJ).to λσ H Q h=>by
 obtain⟨Z,A,ρ,q,f⟩:=h;unfold xn at f;split at f
 ·rename_i hl;obtain⟨u00,hu0⟩:=DK hl;obtain⟨a0,h0,_⟩:=q.own c hu0;obtain⟨⟨us,ρ1⟩,e1,f⟩:=f.bind;dsimp only at f;split at f
  ·rename_i u0 hu;obtain⟨⟨z,w⟩,e2,f⟩:=f.bind;refine⟨.ref a0,h0,Z,A,ρ,q,?_⟩;rw[e1];intro vs H1 q1 x1 s1 tW;obtain⟨a0',k1,k2,_,_,k3⟩:=q1.own c hu;rw[h0] at k1;cases k1;show GF _ _ _ _ _ _ _;rw[aad];refine⟨u0,us,a0,vs,A,rfl,k2,k3,tW.rps,q1.mu,?_⟩;rw[e2];intro v H' em tp rp;exact f v H' (q1.put c hu h0 em tp) (x1.trans λb o nb z=>em b o (λy=>nb (y▸k2)) z) (λz=>nomatch z) rp
  ·exact f.elim
 ·exact f.elim⟩
def HG (K:ZD)(T:String)(r:V->List V->Hp->VK->Prop)(p:U->List U->R (U×U)):Prop:=∀A H a u vs us z w Q,mB K H A u a->A a->aO K H A us vs->(∀a,A a->Mu (H a))->p u us=.ok (z,w)->
 (∀v H',(∀b o,b≠a->H b=some o->H' b=some o)->mB K H' A w a->Rp K H' A z v->Q v H')->r (.ref a) vs H Q
noncomputable def Fw:U->String->Bool
 | .lst _,T=>T=="list"
 |_,_=>false
theorem Pn {u:U}{a:ZY}(h:mB K H A u a)(t:Fw u T=true):U_ K T (.ref a) H:=by
 cases u<;>(unfold Fw at t;unfold mB at h)
 case lst us=>
  obtain⟨xs,q,_⟩:=h;exact .inl ⟨by simpa using t,xs,.inl (.inl q)⟩
 all_goals cases t
noncomputable def gM (T:String)(i:Nat)(p:U->List U->R (U×U))(ga:Ev->R (List U×Ev)):Ev->R (U×Ev):=λρ=>match ρ[i]? with
 |some (some u1)=>if Fw u1 T=true then (ga ρ).bind λx=>match x.2[i]? with
  |some (some u0)=>(p u0 x.1).bind λz=>.ok (z.1,x.2.set i (some z.2))
  |_=>.stk
  else .stk
 |_=>.stk
theorem HH {r:V->List V->Hp->VK->Prop}{p:U->List U->R (U×U)}(hp:HG X.K T r p)(c:G.is i=true){Q:VK}(h:tD X.K G true .S (gM T i p ga) σ H Q) :
  WD X.K T r (OJ i) (Vd X.K G b1 false ga) σ H Q:=by
 obtain⟨Z,A,ρ,q,f⟩:=h;unfold gM at f;split at f
 ·rename_i u1 iZ;split at f
  ·rename_i ht;obtain⟨a0,h0,_,_,_,t0⟩:=q.own c iZ;obtain⟨⟨us,ρ1⟩,e1,f⟩:=f.bind;dsimp only at f;split at f
   ·rename_i u0 hu;obtain⟨⟨z,w⟩,e2,f⟩:=f.bind;refine⟨.ref a0,h0,Pn t0 ht,Z,A,ρ,q,?_⟩;rw[e1];intro vs H1 q1 x1 s1 tW;obtain⟨a0',k1,k2,_,_,k3⟩:=q1.own c hu;rw[h0] at k1;cases k1;exact hp A H1 a0 u0 vs us z w Q k3 k2 tW.rps q1.mu e2 λv H' em tp rp=>f v H' (q1.put c hu h0 em tp) (x1.trans λb o nb z=>em b o (λy=>nb (y▸k2)) z) (λz=>nomatch z) rp
   ·exact f.elim
  ·exact f.elim
 ·exact f.elim
def kE {id:String}{y name:Str}{p2 jc:Pos}{r:V->List V->Hp->VK->Prop}{p:U->List U->R (U×U)}(pa:PlainAttrs T)(slot:Slot T name id)(VR:typeOf (.builtin id)=pure (.type "method_descriptor"))(hm:MT X id r)(hp:HG X.K T r p)(ha:DA X G (e::es) b1 false ga)(hN:X.N[i]? = some y:=by rfl)(hv:Ku X.env.scope y:=by first|exact Or.inl rfl|exact Or.inr (Or.inl rfl)|exact Or.inr (Or.inr rfl))(c:G.is i=true:=by rfl)(hd:(y==("__debug__":Str))=false:=by decide)(vX:(y==("__classdict__":Str))=false:=by decide)(Bz:ac9 (.Name y p2) name X.env (acP (.Name y p2) X.env)=acP (.Name y p2) X.env:=by rfl)(Kj:((abL pos (ZX (e::es) X.env)).all (λx=> !x.1)&&(backToKw pos (ad6 [] X.env)).all (λx=>x.1.isSome)
   && decide ((e::es).length+([]:List adH).length+(if ([]:List adH).isEmpty then 0 else 1)<30))=true:=by rfl)(BA:(jc.endLine==pos.line)=true:=by rfl)(hs:ZX (e::es) X.env=(false,acP e X.env)::ZX es X.env:=by rfl)(vY:(abL pos (ZX es X.env)).any (·.1)=false:=by rfl) :
  DE X G (.Call (.Attribute (.Name y p2) name jc) (e::es) [] pos) true .S (gM T i p ga):=⟨(MU pa slot VR hm (oJ hN hv hd vX) ha.un Bz Kj BA hs vY).to λ_ _ _=>HH hp c⟩
def HJ (K:ZD)(r:V->Option Int->Option Int->Hp->VK->Prop)(m:Md)(p:U->Option Int->Option Int->R U):Prop:=∀A H x u lo hi z Q,Pk K H A u x->(∀a,A a->Mu (H a))->p u lo hi=.ok z->(∀v H',aR H H'->DH K m A H H' z v->Q v H')->r x lo hi H Q
def Ve (K:ZD)(G:Gm)(Z:Pkg)(A:ZY->Prop)(b:Bool)(ρ:Ev)(σ:St)(H:Hp):R (Option Int×Ev)->(Option Int->Hp->Prop)->Prop
 | .ok (c,ρ'),Q=>∀H',cS K G Z A ρ' σ H'->fB A H H'->(b=false->ρ'=ρ/\aR H H')->Q c H'
 |_,_=>False
def Xy (K:ZD)(G:Gm)(b:Bool)(g:Ev->R (Option Int×Ev)):TO:=λσ H Q=>∃Z A ρ,cS K G Z A ρ σ H/\Ve K G Z A b ρ σ H (g ρ) Q
structure DO (X:Cx)(G:Gm)(e:Option abd)(b:Bool)(g:Ev->R (Option Int×Ev)):Prop where
 un:PO X e (Xy X.K G b g)
noncomputable def i6:Ev->R (Option Int×Ev):=λρ=>.ok (none,ρ)
noncomputable def iy (g:Ev->R (U×Ev)):Ev->R (Option Int×Ev):=λρ=>(g ρ).bind λx=>match x.1 with
 | .int i=>.ok (some i,x.2)
 |_=>.stk
def PO.to {e:Option abd}{t t':TO}(h:PO X e t)(i:∀σ H Q,t' σ H Q->t σ H Q):PO X e t':=λpins s σ H Q I q=>h pins s σ H Q I (i _ _ _ q)
def ju:DO X G none false i6:=⟨K5.to λσ H Q ⟨Z,A,ρ,q,f⟩=>f H q fB.refl λ_=>⟨rfl,aR.refl _⟩⟩
theorem jv (h:DE X G e b1 m1 g1):DO X G (some e) b1 (iy g1):=⟨(K6 h.un).to λσ H Q h00=>by
 obtain⟨Z,A,ρ,q,f⟩:=h00;refine⟨Z,A,ρ,q,?_⟩;unfold iy at f;cases e1:g1 ρ with
 |stk=>rw[e1] at f;exact f.elim
 |exc=>rw[e1] at f;exact f.elim
 |ok x=>
  obtain⟨u,ρ1⟩:=x;rw[e1] at f;intro v H1 q1 x1 s1 vm;cases u with
  |int c=>exact⟨c,vm.pk.int,f H1 q1 x1 s1⟩
  |_=>exact f.elim⟩
noncomputable def z9 (p:U->Option Int->Option Int->R U)(g:Ev->R (U×Ev))(lo hi:Ev->R (Option Int×Ev)):Ev->R (U×Ev):=λρ=>(g ρ).bind λx=>(lo x.2).bind λl=>(hi l.2).bind λh=>(p x.1 l.1 h.1).bind λz=>.ok (z,h.2)
theorem gI {r:V->Option Int->Option Int->Hp->VK->Prop}{p:U->Option Int->Option Int->R U}{lo hi:Option abd}{p2:Pos}{gl gh:Ev->R (Option Int×Ev)}(hr:G7 X r)(hp:HJ X.K r mr p)(he:DE X G e b1 m1 g1)(hl:DO X G lo b2 gl)(hu:DO X G hi b3 gh)
  (hm:m1=.P->(b2||b3)=false:=by first|exact λ_=>rfl|exact λh=>nomatch h):DE X G (.Subscript e (.Slice lo hi none p2) pos) (b1||(b2||b3)) mr (z9 p g1 gl gh):=⟨(G8 hr he.un hl.un hu.un).to λσ H Q h=>by
 obtain⟨Z,A,ρ,q,f⟩:=h;obtain⟨⟨u,ρ1⟩,e1,f⟩:=f.bind;obtain⟨⟨l,ρ2⟩,e2,f⟩:=f.bind;obtain⟨⟨h,ρ3⟩,e3,f⟩:=f.bind;obtain⟨z,e4,f⟩:=f.bind;dsimp only at e2 e3 e4 f;refine⟨Z,A,ρ,q,?_⟩;rw[e1];intro v1 H1 q1 x1 s1 tW;refine⟨Z,A,ρ1,q1,?_⟩;rw[e2];intro H2 q2 x2 s2;refine⟨Z,A,ρ2,q2,?_⟩;rw[e3];intro H3 q3 x3 s3;exact hp A H3 v1 u l h z Q (tW.later q1 (x2.trans x3) (two s2 s3) hm) q3.mu e4 λv H' sm vm=>f v H' (q3.same sm) ((x1.trans (x2.trans x3)).trans (fB.same sm)) (pJ (two s1 (two s2 s3)) sm) (vm.e q3 sm)⟩
end
end L2
namespace L2
def Vf (K:ZD)(G:Gm)(sg:U->Ev->R Ev):TG:=λv σ H Q=>∃Z A ρ u,cS K G Z A ρ σ H/\Rp K H A u v/\match sg u ρ with
 | .ok ρ'=>∀σ',cS K G Z A ρ' σ' H->(∀i,G.is i=true->σ'[i]? = σ[i]?)->Q σ' H
 |_=>False
structure DG (X:Cx)(G:Gm)(tg:abd)(sg:U->Ev->R Ev):Prop where
 un:PG X tg (Vf X.K G sg)
def Vg (K:ZD)(G:Gm)(sg:List U->Ev->R Ev):KQ:=λvs σ H Q=>∃Z A ρ us,cS K G Z A ρ σ H/\aO K H A us vs/\match sg us ρ with
 | .ok ρ'=>∀σ',cS K G Z A ρ' σ' H->(∀i,G.is i=true->σ'[i]? = σ[i]?)->Q σ' H
 |_=>False
structure Uj (X:Cx)(G:Gm)(tgs:List abd)(sg:List U->Ev->R Ev):Prop where
 un:MP X tgs (Vg X.K G sg)
noncomputable def bL (i:Nat):U->Ev->R Ev:=λu ρ=>.ok (ρ.set i (some u))
noncomputable def dQ:List U->Ev->R Ev:=λus ρ=>match us with
 | []=>.ok ρ
 |_=>.stk
noncomputable def aM (s:U->Ev->R Ev)(t:List U->Ev->R Ev):List U->Ev->R Ev:=λus ρ=>match us with
 |u::r=>(s u ρ).bind λρ1=>t r ρ1
 |_=>.stk
noncomputable def dR (n:Nat)(t:List U->Ev->R Ev):U->Ev->R Ev:=λu ρ=>match u with
 | .tup us=>if us.length=n then t us ρ else .stk
 |_=>.stk
def MP.to {es:List abd}{t t':KQ}(h:MP X es t)(i:∀v σ H Q,t' v σ H Q->t v σ H Q):MP X es t':=λpins s σ H v u Q I r q=>h pins s σ H v u Q I r (i _ _ _ _ q)
theorem ay (hN:X.N.Nodup)(hi:X.N[i]? = some x:=by rfl)(hx:GN X.env.scope x:=by first|exact Or.inl rfl|exact Or.inr rfl)(c:G.is i=false:=by rfl)(hf:X.fn x=true\/X.env.scope.names.lookup x=some .local:=by first|exact .inl rfl|exact .inr rfl|assumption):DG X G (.Name x pos) (bL i):=⟨(KR hN hi hx hf).to λv σ H Q ⟨Z,A,ρ,u,q,r,f⟩=>f _ (q.set c r) λj cj=>by
  have:i≠j:=λz=>by subst z;rw[c] at cj;cases cj
  rw[Z_ this]⟩
theorem dZ:Uj X G [] dQ:=⟨KS.to λvs σ H Q h00=>by
 obtain⟨Z,A,ρ,us,q,r,f⟩:=h00;unfold dQ at f;cases us with
 |nil=>unfold aO at r;exact⟨r,f σ q λ_ _=>rfl⟩
 |cons=>exact f.elim⟩
theorem aQ {e:abd}{es:List abd}{s:U->Ev->R Ev}{t:List U->Ev->R Ev}(h1:DG X G e s)(h2:Uj X G es t)
  (hs:(abY (e::es) X.env).map (·.2)=assign e X.env::(abY es X.env).map (·.2):=by rfl):Uj X G (e::es) (aM s t):=⟨(GQ h1.un h2.un hs).to λvs σ H Q h00=>by
 obtain⟨Z,A,ρ,us,q,r,f⟩:=h00;unfold aM at f;cases us with
 |nil=>exact f.elim
 |cons u us=>
  unfold aO at r;obtain⟨v,vr,rfl,r1,r2⟩:=r;dsimp only at f;refine⟨v,vr,rfl,Z,A,ρ,u,q,r1,?_⟩;cases e1:s u ρ with
  |ok ρ1=>
   rw[e1] at f;simp only[R.bind] at f;intro σ1 q1 o1;refine⟨Z,A,ρ1,us,q1,r2,?_⟩;cases e2:t us ρ1 with
   |ok ρ2=>rw[e2] at f;exact λσ2 q2 o2=>f σ2 q2 λi c=>(o2 i c).trans (o1 i c)
   |exc=>rw[e2] at f;exact f.elim
   |stk=>rw[e2] at f;exact f.elim
  |exc=>rw[e1] at f;exact f.elim
  |stk=>rw[e1] at f;exact f.elim⟩
theorem fS {es:List abd}{t:List U->Ev->R Ev}(hc:X.calm=true)(h:Uj X G es t)(hn:(abY es X.env).length=n:=by rfl)(VN:(abY es X.env).findIdx? (·.1)=none:=by rfl):DG X G (.Tuple es k pos) (dR n t):=⟨(OU hc h.un hn VN).to λv σ H Q h00=>by
 obtain⟨Z,A,ρ,u,q,r,f⟩:=h00;unfold dR at f;cases u with
 |tup us=>
  unfold Rp at r;obtain⟨a,xs,rfl,sq,l,rs⟩:=r;dsimp only at f;by_cases hl:us.length=n
  ·rw[hV hl] at f;exact⟨a,xs,rfl,jj.of sq,by rw[←rs.length];exact hl,Z,A,ρ,us,q,rs,f⟩
  ·rw[hU hl] at f;exact f.elim
 |_=>exact f.elim⟩
def Xz (K:ZD)(Z:Pkg)(m:Md)(H:Hp)(u:U)(v:V):Prop:=match m with
 | .S=>Rp K H Z.A0 u v
 | .O=>∃a,v=.ref a/\Z.B a=none/\¬Z.A0 a/\mB K H (λb=>Z.A0 b\/b=a) u a
 | .P=>False
def ux (K:ZD)(G:Gm)(Z:Pkg)(m:Md):SR->oI->Prop
 | .nx ρ',D=>∀A' σ' H',cS K G Z A' ρ' σ' H'->D.nx σ' H'
 | .bk ρ',D=>∀A' σ' H',cS K G Z A' ρ' σ' H'->D.bk σ' H'
 | .ct ρ',D=>∀A' σ' H',cS K G Z A' ρ' σ' H'->D.ct σ' H'
 | .rt u ρ',D=>∀A' σ' H' v,cS K G Z A' ρ' σ' H'->Xz K Z m H' u v->D.rt v H'
 | .exc _ _,_=>∀H',(∀a o,Z.B a=some o->H' a=some o)->G.W H'
 | .stk,_=>False
def QW (K:ZD)(G:Gm)(m:Md)(g:Ev->SR):TS:=λD σ H=>∃Z A ρ,cS K G Z A ρ σ H/\ux K G Z m (g ρ) D
structure DS (X:Cx)(G:Gm)(m:Md)(st:aca)(g:Ev->SR):Prop where
 un:PS X st (QW X.K G m g)
structure B6 (X:Cx)(G:Gm)(m:Md)(st:List aca)(g:Ev->SR):Prop where
 un:wc X st (QW X.K G m g)
noncomputable def a9:Ev->SR:=.nx
noncomputable def aB (g1 g2:Ev->SR):Ev->SR:=λρ=>match g1 ρ with
 | .nx ρ'=>g2 ρ'
 |r=>r
noncomputable def SR.of {α:Type}:R α->(α->SR)->SR
 | .ok a,f=>f a
 |_,_=>.stk
section
variable {m:Md}{α:Type}
theorem ux.of {x:R α}{k:α->SR}{D:oI}(f:ux K G Z m (SR.of x k) D):∃a,x=.ok a/\ux K G Z m (k a) D:=by
 cases x with
 |ok a=>exact⟨a,rfl,f⟩
 |exc=>exact f.elim
 |stk=>exact f.elim
end
section
variable {e a b:abd}{st:aca}{TQ rest:List aca}{es:List abd}{p1:Pos}{b1 b2 b3:Bool}{m m1 m2 m3 mr:Md}{g1 g2 g3:Ev->R (U×Ev)}{h1 h2:Ev->R (Bool×Ev)}{ga:Ev->R (List U×Ev)}{s1 s2:Ev->SR}
def aL:B6 X G m [] a9:=⟨Dm.to λD σ H ⟨Z,A,ρ,q,f⟩=>f A σ H q⟩
def ar (h:DS X G m st s1):B6 X G m [st] s1:=⟨Dn h.un⟩
theorem ak (ha:DS X G m st s1)(hb:B6 X G m rest s2):B6 X G m (st::rest) (aB s1 s2):=⟨(GP ha.un hb.un).to λD σ H h00=>by
 obtain⟨Z,A,ρ,q,f⟩:=h00;refine⟨Z,A,ρ,q,?_⟩;unfold aB at f;cases e:s1 ρ with
 |nx ρ1=>rw[e] at f;exact λA1 σ1 H1 q1=>⟨Z,A1,ρ1,q1,f⟩
 |rt=>rw[e] at f;exact f
 |bk=>rw[e] at f;exact f
 |ct=>rw[e] at f;exact f
 |exc=>rw[e] at f;exact f
 |stk=>rw[e] at f;exact f⟩
noncomputable def Po:Ev->SR:=.bk
noncomputable def RS:Ev->SR:=.ct
noncomputable def kW (g:Ev->R (U×Ev)):Ev->SR:=λρ=>SR.of (g ρ) λx=>.nx x.2
theorem jw (h:DE X G e b1 m1 g1)(hs:ad3 e none pos.line X.env=pure false:=by rfl):DS X G m (.Expr e pos) (kW g1):=⟨(Dq h.un hs).to λD σ H h00=>by
 obtain⟨Z,A,ρ,q,f⟩:=h00;obtain⟨⟨u,ρ1⟩,e1,f⟩:=f.of;refine⟨Z,A,ρ,q,?_⟩;rw[e1];exact λv H1 q1 _ _ _=>f A σ H1 q1⟩
noncomputable def aV (g:Ev->R (U×Ev)):Ev->SR:=λρ=>SR.of (g ρ) λx=>.rt x.1 x.2
theorem aF (h:DE X G e b1 m1 g1)(hn:m1≠.P:=by decide):DS X G .S (.Return (some e) pos) (aV g1):=⟨(BJ h.un).to λD σ H h00=>by
 obtain⟨Z,A,ρ,q,f⟩:=h00;obtain⟨⟨u,ρ1⟩,e1,f⟩:=f.of;refine⟨Z,A,ρ,q,?_⟩;rw[e1];exact λv H1 q1 _ _ vm=>f A σ H1 v q1 ((vm.rp hn).mono q1.sup)⟩
theorem pM (h:DE X G e b1 .O g1):DS X G .O (.Return (some e) pos) (aV g1):=⟨(BJ h.un).to λD σ H h00=>by
 obtain⟨Z,A,ρ,q,f⟩:=h00;obtain⟨⟨u,ρ1⟩,e1,f⟩:=f.of;refine⟨Z,A,ρ,q,?_⟩;rw[e1];intro v H1 q1 _ _ vm;obtain⟨a,rfl,na,nb,_,t⟩:=vm;exact f A σ H1 _ q1 ⟨a,rfl,nb,λz=>na (q1.sup a z),t.mono λb z=>z.imp (q1.sup b) id⟩⟩
theorem yd (hm:m≠.P:=by decide)(hi:G.io=true->i≠0)(hN:X.N[i]? = some x:=by rfl)(hv:Ku X.env.scope x:=by first|exact Or.inl rfl|exact Or.inr (Or.inl rfl)|exact Or.inr (Or.inr rfl))(hd:(x==("__debug__":Str))=false:=by decide)(vX:(x==("__classdict__":Str))=false:=by decide)(c:G.is i=true:=by rfl):DS X G m (.Return (some (.Name x p1)) pos) (aV (ag i)):=⟨(BJ (oJ hN hv hd vX)).to λD σ H h00=>by
 obtain⟨Z,A,ρ,q,f⟩:=h00;obtain⟨⟨u,ρ1⟩,e1,f⟩:=f.of;unfold ag at e1;split at e1
 ·rename_i u' hu;cases e1;obtain⟨a,h1,h2,h3,h4,h5⟩:=q.own c hu;have na:¬Z.A0 a:=by
   lia
  refine⟨.ref a,h1,f A σ H _ q ?_⟩;cases m with
  |S=>exact h5.rp q.sup na
  |O=>exact⟨a,rfl,h3,na,h5.mono λb z=>by
    rcases z with z|z
    ·exact q.sup b z
    lia⟩
  |P=>lia
 lia⟩
noncomputable def aY (i:Nat)(g:Ev->R (U×Ev)):Ev->SR:=λρ=>SR.of (g ρ) λx=>.nx (x.2.set i (some x.1))
theorem z_ (c:G.is i=false)(hn:m1≠.P)(hi:∀σ H Q,tD X.K G b1 m1 g1 σ H Q->te σ H Q){D:oI}(h:QW X.K G m (aY i g1) D σ H):GR te (zG i) D σ H:=by
 obtain⟨Z,A,ρ,q,f⟩:=h;obtain⟨⟨u,ρ1⟩,e1,f⟩:=f.of;refine hi _ _ _ ⟨Z,A,ρ,q,?_⟩;rw[e1];exact λv H1 q1 _ _ vm=>f A _ H1 (q1.set c (vm.rp hn))
theorem Fx (c:G.is i=true)(h0:G.io=true->i≠0)(hi:∀σ H Q,tD X.K G b1 .O g1 σ H Q->te σ H Q){D:oI}(h:QW X.K G m (aY i g1) D σ H):GR te (zG i) D σ H:=by
 obtain⟨Z,A,ρ,q,f⟩:=h;obtain⟨⟨u,ρ1⟩,e1,f⟩:=f.of;refine hi _ _ _ ⟨Z,A,ρ,q,?_⟩;rw[e1];intro v H1 q1 _ _ vm;obtain⟨a,rfl,na,nb,r,t⟩:=vm;exact f _ _ H1 (q1.setO c h0 na nb r t)
def aT (hN:X.N.Nodup)(h:DE X G e b1 m1 g1)(hi:X.N[i]? = some x:=by rfl)(hx:GN X.env.scope x:=by first|exact Or.inl rfl|exact Or.inr rfl)(c:G.is i=false:=by rfl)(hn:m1≠.P:=by decide)(hs:ad3 e (some (.Name x p1)) pos.line X.env=pure false:=by rfl)(hf:X.fn x=true\/X.env.scope.names.lookup x=some .local:=by first|exact .inl rfl|exact .inr rfl|assumption):DS X G m (.Assign [.Name x p1] e pos) (aY i g1):=⟨(GV hN hi hx h.un hs hf).to λ_ _ _=>z_ c hn λ_ _ _ h=>h⟩
def ft (hN:X.N.Nodup)(h:DE X G e b1 .O g1)(h0:G.io=true->i≠0:=by decide)(hi:X.N[i]? = some x:=by rfl)(hx:GN X.env.scope x:=by first|exact Or.inl rfl|exact Or.inr rfl)(c:G.is i=true:=by rfl)(hs:ad3 e (some (.Name x p1)) pos.line X.env=pure false:=by rfl)(hf:X.fn x=true\/X.env.scope.names.lookup x=some .local:=by first|exact .inl rfl|exact .inr rfl|assumption):DS X G m (.Assign [.Name x p1] e pos) (aY i g1):=⟨(GV hN hi hx h.un hs hf).to λ_ _ _=>Fx c h0 λ_ _ _ h=>h⟩
noncomputable def RT (i j:Nat):Ev->SR:=λρ=>match ρ[j]? with
 |some (some u)=>.nx ((ρ.set j none).set i (some u))
 |_=>.stk
noncomputable def Fy (sg:U->Ev->R Ev)(g:Ev->R (U×Ev)):Ev->SR:=λρ=>SR.of (g ρ) λx=>SR.of (sg x.1 x.2) .nx
theorem HK (h:DE X G e b1 m1 g1)(hg:DG X G tg sg)(hn:m1≠.P:=by decide)(hs:adS [tg] e pos.line X.env=pure false:=by rfl)(hw:adT [tg] e X.env=pure none:=by rfl)(h1:(abY [tg] X.env).map (·.2)=[assign tg X.env]:=by rfl):DS X G m (.Assign [tg] e pos) (Fy sg g1):=⟨(GU h.un hg.un hs hw h1).to λD σ H h00=>by
 obtain⟨Z,A,ρ,q,f⟩:=h00;obtain⟨⟨u,ρ1⟩,e1,f⟩:=f.of;obtain⟨ρ2,e2,f⟩:=f.of;refine⟨Z,A,ρ,q,?_⟩;rw[e1];intro v H1 q1 _ _ vm;refine⟨Z,A,ρ1,u,q1,vm.rp hn,?_⟩;dsimp only at e2;rw[e2];exact λσ' q' _=>f A σ' H1 q'⟩
noncomputable def Pp (i j:Nat)(ga:Ev->R (List U×Ev)):Ev->SR:=λρ=>SR.of (ga ρ) λx=>match x.1 with
 | [u,w]=>.nx ((x.2.set i (some u)).set j (some w))
 |_=>.stk
theorem Pq {y:Str}{a b:abd}{px py pt:Pos}{kt k2 pt2}(hc:X.calm=true)(hN:X.N.Nodup)(ha:DA X G [a,b] b1 false ga)(hi:X.N[i]? = some x:=by rfl)(hj:X.N[j]? = some y:=by rfl)(zp:i≠j:=by decide)(hx:X.env.scope.names.lookup x=some .local:=by rfl)(hy:X.env.scope.names.lookup y=some .local:=by rfl)(ci:G.is i=false:=by rfl)(cj:G.is j=false:=by rfl)(hw:adT [.Tuple [.Name x px,.Name y py] kt pt] (.Tuple [a,b] k2 pt2) X.env=pure (some [x,y]):=by rfl)(hs:adS [.Tuple [.Name x px,.Name y py] kt pt] (.Tuple [a,b] k2 pt2) pos.line X.env=pure false:=by rfl) :
  DS X G m (.Assign [.Tuple [.Name x px,.Name y py] kt pt] (.Tuple [a,b] k2 pt2) pos) (Pp i j ga):=⟨(OW hc hN hi hj zp hx hy ha.un hw hs).to λD σ H h00=>by
 obtain⟨Z,A,ρ,q,f⟩:=h00;obtain⟨⟨us,ρ1⟩,e1,f⟩:=f.of;refine⟨Z,A,ρ,q,?_⟩;rw[e1];intro vs H1 q1 _ _ vm;dsimp only at f;split at f
 ·rename_i u w;have r:=vm.rps;unfold aO at r;obtain⟨v,vr,rfl,r1,r2⟩:=r;unfold aO at r2;obtain⟨v2,vr2,rfl,r3,r4⟩:=r2;unfold aO at r4;subst r4;exact⟨v,v2,rfl,f A _ H1 ((q1.set ci r1).set cj r3)⟩
 ·exact f.elim⟩
noncomputable def gJ (h:Ev->R (Bool×Ev))(s1 s2:Ev->SR):Ev->SR:=λρ=>SR.of (h ρ) λx=>if x.1=true then s1 x.2 else s2 x.2
theorem bB {a b:List aca}(hc:DT X G c b1 h1)(ha:B6 X G m a s1)(hb:B6 X G m b s2):DS X G m (.If c a b pos) (gJ h1 s1 s2):=⟨(MO hc.un ha.un hb.un).to λD σ H h00=>by
 obtain⟨Z,A,ρ,q,f⟩:=h00;obtain⟨⟨k,ρ1⟩,e1,f⟩:=f.of;refine⟨Z,A,ρ,q,?_⟩;rw[e1];intro H1 q1 _ _;cases k with
 |true=>rw[hV rfl] at f ⊢;exact⟨Z,A,ρ1,q1,f⟩
 |false=>rw[hU ZE] at f ⊢;exact⟨Z,A,ρ1,q1,f⟩⟩
noncomputable def iD (h:Ev->R (Bool×Ev))(s:Ev->SR):Nat->Ev->SR
 |0,_=>.stk
 |n+1,ρ=>SR.of (h ρ) λx=>if x.1=true then match s x.2 with
   | .nx ρ2=>iD h s n ρ2
   | .ct ρ2=>iD h s n ρ2
   | .bk ρ2=>.nx ρ2
   |r=>r
  else .nx x.2
theorem Aa (hp:aeP (Z8 X.prog X.w) X.A X.env X.xe)(hc:DT X G c b1 h1)(hb:B6 X G m body s1):DS X G m (.While c body [] pos) (iD h1 s1 n):=⟨(GW hp hc.un hb.un).to λD σ H h00=>by
 obtain⟨Z,A,ρ,q,f⟩:=h00;refine⟨λk σ H=>∃A ρ,cS X.K G Z A ρ σ H/\ux X.K G Z m (iD h1 s1 k ρ) D,⟨n,A,ρ,q,f⟩,?_⟩;rintro k σ H ⟨A,ρ,q,f⟩;cases k with
 |zero=>exact f.elim
 |succ k=>
  unfold iD at f;obtain⟨⟨t,ρ1⟩,e1,f⟩:=f.of;refine⟨Z,A,ρ,q,?_⟩;rw[e1];intro H1 q1 _ _;cases t with
  |false=>rw[hU ZE] at f ⊢;exact f A σ H1 q1
  |true=>
   rw[hV rfl] at f ⊢;refine⟨λσ H=>∃A ρ,cS X.K G Z A ρ σ H/\ux X.K G Z m (iD h1 s1 k ρ) D,λσ' H' z=>⟨k,adJ k,z⟩,Z,A,ρ1,q1,?_⟩;dsimp only at f;cases e2:s1 ρ1 with
   |nx ρ2=>rw[e2] at f;exact λA2 σ2 H2 q2=>⟨A2,ρ2,q2,f⟩
   |ct ρ2=>rw[e2] at f;exact λA2 σ2 H2 q2=>⟨A2,ρ2,q2,f⟩
   |bk ρ2=>rw[e2] at f;exact f
   |rt=>rw[e2] at f;exact f
   |exc=>rw[e2] at f;exact f
   |stk=>rw[e2] at f;exact f⟩
end
end L2
namespace L2
def Wk (K:ZD)(p:Bool)(A:ZY->Prop)(us:List U)(J:It)(H1:Hp):Prop:=us.length<=ZH/\
 ∀H A',(if p=true then aR H1 H else fB A H1 H)->(∀b,A' b->A b\/H1 b=none)->(∀(i:Nat) (u:U),us[i]? = some u->J.go i H/\∀x H',J.yld i H x H'->aR H H'/\Rp K H' A' u x)/\J.stop us.length H
def Vh (K:ZD)(G:Gm)(b p:Bool)(gi:Ev->R (List U×Ev)):TI:=λσ H R=>∃Z A ρ,cS K G Z A ρ σ H/\match gi ρ with
 | .ok (us,ρ')=>∀J H1,cS K G Z A ρ' σ H1->fB A H H1->(b=false->ρ'=ρ/\aR H H1)->Wk K p A us J H1->R J H1
 |_=>False
structure DI (X:Cx)(G:Gm)(tg iter:abd)(b p:Bool)(gi:Ev->R (List U×Ev)):Prop where
 un:PI X tg iter (Vh X.K G b p gi)
section
variable {e a b:abd}{es:List abd}{p1:Pos}{b1 b2 b3:Bool}{m m1 m2 m3 mr:Md}{g1 g2 g3:Ev->R (U×Ev)}{h1 h2:Ev->R (Bool×Ev)}{ga:Ev->R (List U×Ev)}{s1 s2:Ev->SR}
def PI.to {t t':TI}(h:PI X tg e t)(i:∀σ H Q,t' σ H Q->t σ H Q):PI X tg e t':=λpins s σ H Q I q=>h pins s σ H Q I (i _ _ _ q)
theorem PI.or {t t':TI}(h:PI X tg e t)(h':PI X tg e t'):PI X tg e (λσ H R=>t σ H R\/t' σ H R):=λpins s σ H Q I q=>by
 rcases q with q|q
 ·exact h pins s σ H Q I q
 ·exact h' pins s σ H Q I q
noncomputable def RU:Md->Bool
 | .P=>true
 |_=>false
noncomputable def cC (g:Ev->R (U×Ev)):Ev->R (List U×Ev):=λρ=>(g ρ).bind λx=>match x.1 with
 | .lst us=>.ok (us,x.2)
 | .tup us=>.ok (us,x.2)
 | .scr us=>.ok (us,x.2)
 |_=>.stk
theorem Lq (q:cS K G Z A ρ σ H1)(h:xl K G Z m1 A ρ σ H1 (.lst us) v):∃a,v=.ref a/\(∃xs,gD K H1 a xs)/\Wk K (RU m1) A us (Uc K a) H1:=by
 have hp:=h.pk;unfold Pk at hp;obtain⟨a,xs,rfl,rd,l,rs⟩:=hp;refine⟨a,rfl,⟨xs,gD.of rd⟩,l,λH A' hs ha=>?_⟩;have st:H a=some (.lst xs)/\∀(i:Nat) (u:U),us[i]? = some u->∃x,xs[i]? = some x/\Rp K H A' u x:=by
  cases hm:RU m1 with
  |true=>
   rw[hm,hV rfl] at hs;refine⟨hs a _ rd,λi u hu=>?_⟩;obtain⟨x,h1,h2⟩:=rs.get hu;exact⟨x,h1,h2.re q.mu (fB.same hs) ha⟩
  |false=>
   rw[hm,hU ZE] at hs;have hn:m1≠.P:=λz=>by subst z;cases hm
   have hr:=h.rp hn;unfold Rp at hr;obtain⟨a',xs',e,na,rd',_,rs'⟩:=hr;cases e;refine⟨hs a _ na rd,λi u hu=>?_⟩;obtain⟨x,h1,h2⟩:=rs.get hu;exact⟨x,h1,h2.re q.mu hs ha⟩
 obtain⟨rd2,get⟩:=st;refine⟨λi u hu=>?_,⟨xs,gD.of rd2,by rw[←rs.length];exact ZP _⟩⟩;obtain⟨x,h1,h2⟩:=get i u hu;refine⟨⟨xs,x,gD.of rd2,h1⟩,λy H' yl=>?_⟩;obtain⟨e,yl⟩:=yl;have e2:=yl xs (gD.of rd2);rw[h1] at e2;cases e2;subst e;exact⟨aR.refl _,h2⟩
theorem Pt {p:Bool}(q:cS K G Z A ρ σ H1)(h:Pk K H1 A (.tup us) v):∃a,v=.ref a/\(∃xs,jj K H1 a xs)/\Wk K p A us (U1 K a) H1:=by
 unfold Pk at h;obtain⟨a,xs,rfl,sq,l,rs⟩:=h;refine⟨a,rfl,⟨xs,jj.of sq⟩,l,λH A' hs ha=>?_⟩;have ex:fB A H1 H:=by
  cases p with
  |true=>rw[hV rfl] at hs;exact fB.same hs
  |false=>rw[hU ZE] at hs;exact hs
 have QM:jj K H a xs:=jj.of (ex a _ (λz=>by have:=q.mu a z;rw[sq] at this;exact this) sq);refine⟨λi u hu=>?_,⟨xs,QM,by rw[←rs.length];exact ZP _⟩⟩;obtain⟨x,h1,h2⟩:=rs.get hu;refine⟨⟨xs,x,QM,h1⟩,λy H' yl=>?_⟩;obtain⟨e,yl⟩:=yl;have e2:=yl xs QM;rw[h1] at e2;cases e2;subst e;exact⟨aR.refl _,h2.re q.mu ex ha⟩
theorem Pu {p:Bool}(q:cS K G Z A ρ σ H1)(h:Pk K H1 A (.scr us) v):∃a,v=.ref a/\(∃xs,gD K H1 a xs)/\Wk K p A us (Uc K a) H1:=by
 unfold Pk at h;obtain⟨a,xs,rfl,sq,l,rs⟩:=h;refine⟨a,rfl,⟨xs,sq.sq⟩,l,λH A' hs ha=>?_⟩;have ex:fB A H1 H:=by
  cases p with
  |true=>rw[hV rfl] at hs;exact fB.same hs
  |false=>rw[hU ZE] at hs;exact hs
 have QM:gD K H a xs:=(sq.to λo y w=>ex a _ (λz=>by have:=q.mu a z;rw[w] at this;exact this) w).sq;refine⟨λi u hu=>?_,⟨xs,QM,by rw[←rs.length];exact ZP _⟩⟩;obtain⟨x,h1,h2⟩:=rs.get hu;refine⟨⟨xs,x,QM,h1⟩,λy H' yl=>?_⟩;obtain⟨e,yl⟩:=yl;have e2:=yl xs QM;rw[h1] at e2;cases e2;subst e;exact⟨aR.refl _,h2.re q.mu ex ha⟩
theorem bj (h:DE X G e b1 m1 g1):DI X G tg e b1 (RU m1) (cC g1):=⟨((KU h.un).or (O0 h.un)).to λσ H RR h00=>by
 obtain⟨Z,A,ρ,q,f⟩:=h00;unfold cC at f;cases e1:g1 ρ with
 |stk=>rw[e1] at f;exact f.elim
 |exc=>rw[e1] at f;exact f.elim
 |ok y=>
  obtain⟨u,ρ1⟩:=y;rw[e1] at f;cases u with
  |lst us=>
   refine .inl ⟨Z,A,ρ,q,?_⟩;rw[e1];intro v H1 q1 x1 s1 vm;obtain⟨a,e,l,wk⟩:=Lq q1 vm;exact⟨a,e,l,f _ H1 q1 x1 s1 wk⟩
  |tup us=>
   refine .inr ⟨Z,A,ρ,q,?_⟩;rw[e1];intro v H1 q1 x1 s1 vm;obtain⟨a,e,l,wk⟩:=Pt (p:=RU m1) q1 vm.pk;exact⟨a,e,l,f _ H1 q1 x1 s1 wk⟩
  |scr us=>
   refine .inl ⟨Z,A,ρ,q,?_⟩;rw[e1];intro v H1 q1 x1 s1 vm;obtain⟨a,e,l,wk⟩:=Pu (p:=RU m1) q1 vm.pk;exact⟨a,e,l,f _ H1 q1 x1 s1 wk⟩
  |_=>exact f.elim⟩
noncomputable def bY (lo:Int)(n:Nat):List U:=(aas n).map λi=>.int (lo+(i:Nat))
theorem HL {lo:Int}{p:Bool}(h:n<=ZH):Wk K p A (bY lo n) (Ud lo n) H1:=by
 have hl:(bY lo n).length=n:=by unfold bY;rw[Zz,aaX]
 refine⟨by rw[hl];exact h,λH A' _ _=>⟨λi u hu=>?_,by rw[hl];exact ZP _⟩⟩;unfold bY at hu;rw[Z2] at hu;cases e:(aas n)[i]? with
 |none=>rw[e] at hu;cases hu
 |some j=>
  rw[e] at hu;obtain⟨l1,l2⟩:=ZN.mp e;rw[aaX] at l1;rw[List.getElem_range] at l2;subst l2;cases hu;refine⟨l1,λx H' y=>?_⟩;obtain⟨rfl,rfl⟩:=y;exact⟨aR.refl _,dE⟩
noncomputable def pN (ga:Ev->R (List U×Ev)):Ev->R (List U×Ev):=λρ=>(ga ρ).bind λx=>match x.1 with
 | [.int j]=>if -1000000<=j/\j<=1000000 then .ok (bY 0 j.toNat,x.2) else .stk
 |_=>.stk
theorem kX {a:abd}(ha:DA X G [a] b1 false ga)(hm:X.mg "range"=none)(hg:Gl X "range":=by rfl)(hs:ZX [a] X.env=[(false,acP a X.env)]:=by rfl):DI X G tg (.Call (.Name "range" p1) [a] [] pos) b1 false (pN ga):=⟨(Fd hg hm ha.un hs).to λσ H RR h00=>by
 obtain⟨Z,A,ρ,q,f⟩:=h00;unfold pN at f;cases e1:ga ρ with
 |stk=>rw[e1] at f;exact f.elim
 |exc=>rw[e1] at f;exact f.elim
 |ok y=>
  obtain⟨us,ρ1⟩:=y;rw[e1] at f;dsimp only[L2.R.bind] at f;refine⟨Z,A,ρ,q,?_⟩;rw[e1];intro vs H1 q1 x1 s1 vm;split at f
  ·rename_i X9 ρ' e2;split at e2
   ·rename_i j;split at e2
    ·rename_i hl;cases e2;have r:=vm.rps;unfold aO at r;obtain⟨v,vr,rfl,r1,r2⟩:=r;unfold aO at r2;subst r2;unfold Rp at r1;subst r1;exact⟨j,rfl,(by lia),(by lia),f _ H1 q1 x1 s1 (HL (by have:ZH=16777216:=rfl;lia))⟩
    ·cases e2
   ·cases e2
  ·exact f.elim⟩
noncomputable def f9 (sg:U->Ev->R Ev)(s:Ev->SR):List U->Ev->SR
 | [],ρ=>.nx ρ
 |u::us,ρ=>SR.of (sg u ρ) λρ1=>match s ρ1 with
   | .nx ρ2=>f9 sg s us ρ2
   | .ct ρ2=>f9 sg s us ρ2
   | .bk ρ2=>.nx ρ2
   |r=>r
noncomputable def jx (gi:Ev->R (List U×Ev))(sg:U->Ev->R Ev)(s:Ev->SR):Ev->SR:=λρ=>SR.of (gi ρ) λx=>f9 sg s x.1 x.2
open Classical in
noncomputable def Pkg.lp (Z:Pkg)(A:ZY->Prop)(H:Hp):Pkg:={Z with B:=λb=>if A b/\Z.B b=none then none else H b}
def nG {b:ZY}(h1:A b)(h2:Z.B b=none):(Z.lp A H).B b=none:=by
 unfold Pkg.lp;dsimp only;exact hV ⟨h1,h2⟩
theorem kn {b:ZY}(h:¬(A b/\Z.B b=none)):(Z.lp A H).B b=H b:=by
 simp_all[Pkg.lp,hU]
def uy {b:ZY}(h:(Z.lp A H).B b=none):(A b/\Z.B b=none)\/H b=none:=by
 by_cases c:A b/\Z.B b=none
 ·exact .inl c
 ·rw[kn c] at h;exact .inr h
theorem cS.lp (q:cS K G Z A ρ σ H):cS K G (Z.lp A H) A ρ σ H where
 slot:=λi u h=>by
  obtain⟨v,h1,h2⟩:=q.slot i u h;refine⟨v,h1,?_⟩;by_cases c:G.is i=true
  ·rw[hV c] at h2 ⊢;obtain⟨a,e1,e2,e3,e4,e5⟩:=h2;exact⟨a,e1,e2,nG e2 e3,e4,e5⟩
  ·rw[hU c] at h2 ⊢;exact h2
 dis:=q.dis
 mu:=q.mu
 sup:=q.sup
 out:=λa h=>(q.out a h).imp id λz=>nG h z
 bas:=λa o h=>by
  by_cases c:A a/\Z.B a=none
  ·rw[nG c.1 c.2] at h;cases h
  ·rw[kn c] at h;exact h
 io0:=q.io0
 len:=q.len
theorem cS.unlp {A':ZY->Prop}{ρ':Ev}{σ':St}(q:cS K G Z A ρ σ H)(q':cS K G (Z.lp A H) A' ρ' σ' H'):cS K G Z A' ρ' σ' H':=by
 have sub:∀a,(Z.lp A H).B a=none->Z.B a=none:=λa h=>by
  rcases uy h with z|h
  ·exact z.2
  ·cases e:Z.B a with
   |none=>rfl
   |some o=>rw[q.bas a o e] at h;cases h
 exact {
  slot:=λi u h=>by
   obtain⟨v,h1,h2⟩:=q'.slot i u h;refine⟨v,h1,?_⟩;by_cases c:G.is i=true
   ·rw[hV c] at h2 ⊢;obtain⟨a,e1,e2,e3,e4,e5⟩:=h2;exact⟨a,e1,e2,sub a e3,e4,e5⟩
   ·rw[hU c] at h2 ⊢;exact h2
  dis:=q'.dis
  mu:=q'.mu
  sup:=q'.sup
  out:=λa h=>(q'.out a h).imp id (sub a)
  bas:=λa o h=>q'.bas a o (by
   rw[kn (λz=>by lia)];exact q.bas a o h)
  io0:=q'.io0
  len:=q'.len}
theorem ux.lp {r:SR}{D:oI}(q:cS K G Z A ρ σ H)(f:ux K G Z m r D):ux K G (Z.lp A H) m r D:=by
 cases r with
 |nx=>exact λA' σ' H' q'=>f A' σ' H' (q.unlp q')
 |bk=>exact λA' σ' H' q'=>f A' σ' H' (q.unlp q')
 |ct=>exact λA' σ' H' q'=>f A' σ' H' (q.unlp q')
 |rt u ρ'=>
  intro A' σ' H' v q' vm;refine f A' σ' H' v (q.unlp q') ?_;cases m with
  |S=>exact vm
  |P=>exact vm
  |O=>
   obtain⟨a,e,nb,na,t⟩:=vm;refine⟨a,e,?_,na,t⟩;rcases uy nb with z|h
   ·exact z.2
   ·cases e:Z.B a with
    |none=>rfl
    |some o=>rw[q.bas a o e] at h;cases h
 |exc=>exact λH' hb=>f H' λa o h=>hb a o (by
   rw[kn (λz=>by rw[h] at z;exact nomatch z.2)];exact q.bas a o h)
 |stk=>exact f.elim
theorem eL {gi:Ev->R (List U×Ev)}(hp:aeP (Z8 X.prog X.w) X.A X.env X.xe)(hc:X.calm=true)(hi:DI X G tg iter b1 false gi)(hg:DG X G tg sg)(hb:B6 X G m body s1)(hs:∀x,aa8 iter X.env x=pure x:=by intro _;rfl):DS X G m (.For tg iter body [] pos) (jx gi sg s1):=⟨(DF hp hc hi.un hg.un hb.un hs).to λD σ H h00=>by
 obtain⟨Z,A,ρ,q,f⟩:=h00;obtain⟨⟨us,ρ1⟩,e1,f⟩:=f.of;refine⟨Z,A,ρ,q,?_⟩;rw[e1];intro J H1 q1 x1 BC wk;dsimp only at f;obtain⟨hz,wk⟩:=wk;refine⟨λi k σ H=>i+k=us.length/\∃A' ρ',cS X.K G (Z.lp A H1) A' ρ' σ H/\ux X.K G (Z.lp A H1) m (f9 sg s1 (us.drop i) ρ') D,⟨us.length,(by lia),A,ρ1,q1.lp,by rw[acv];exact f.lp q1⟩,?_⟩;rintro i k σ H ⟨hk,A',ρ',q',f'⟩;have ex:fB A H1 H:=λb o nb z=>q'.bas b o (by
  rw[kn (λy=>nb y.1)];exact z)
 have nw:∀b,A' b->A b\/H1 b=none:=λb z=>by
  rcases q'.out b z with y|y
  ·exact .inl (q1.sup b y)
  ·rcases uy y with w|h
   ·exact .inl w.1
   ·exact .inr h
 obtain⟨w1,w2⟩:=wk H A' (by rw[hU ZE];exact ex) nw;by_cases wY:i<us.length
 ·have eu:us[i]? = some us[i]:=Zw wY;obtain⟨go,yl⟩:=w1 i _ eu;rw[aa4 wY] at f';unfold f9 at f';obtain⟨ρ2,e2,f2⟩:=f'.of;refine .inr ⟨go,λσ H=>∃A' ρ',cS X.K G (Z.lp A H1) A' ρ' σ H/\ux X.K G (Z.lp A H1) m (f9 sg s1 (us.drop (i+1)) ρ') D,λσ' H' z=>⟨k-1,(by lia),(by lia),z⟩,λx H' y=>?_⟩;obtain⟨sm,rp⟩:=yl x H' y;refine⟨Z.lp A H1,A',ρ',us[i],q'.same sm,rp,?_⟩;rw[e2];intro σ2 q2 _;refine⟨Z.lp A H1,A',ρ2,q2,?_⟩;cases e3:s1 ρ2 with
  |nx ρ3=>rw[e3] at f2;exact λA3 σ3 H3 q3=>⟨A3,ρ3,q3,f2⟩
  |ct ρ3=>rw[e3] at f2;exact λA3 σ3 H3 q3=>⟨A3,ρ3,q3,f2⟩
  |bk ρ3=>rw[e3] at f2;exact f2
  |rt=>rw[e3] at f2;exact f2
  |exc=>rw[e3] at f2;exact f2
  |stk=>rw[e3] at f2;exact f2
 ·have e:i=us.length:=(by lia)
  subst e;rw[aco] at f';exact .inl ⟨w2,f' A' σ H q'⟩⟩
end
end L2
namespace L2
noncomputable def lE (js:List (Option Nat))(ρ:Ev):Ev:=js.map λo=>match o with
 |none=>none
 |some j=>match ρ[j]? with
  |some v=>v
  |none=>none
noncomputable def v_ (G:Gm)(js:List (Option Nat)):Gm:=⟨js.map λo=>match o with
 |none=>false
 |some j=>G.is j,false,λ_=>False⟩
noncomputable def qK:List (Option Nat)->Bool
 | []=>true
 |none::r=>qK r
 |some j::r=> !(r.contains (some j))&&qK r
theorem uz:∀{js:List (Option Nat)} {i k j:Nat},qK js=true->js[i]? = some (some j)->js[k]? = some (some j)->i=k
 | [],_,_,_,_,h,_=>by simp at h
 |none::r,i,k,j,ok,h1,h2=>by
  unfold qK at ok;cases i with
  |zero=>simp at h1
  |succ i=>
   cases k with
   |zero=>simp at h2
   |succ k=>exact congrArg (·+1) (uz (j:=j) ok (by simpa using h1) (by simpa using h2))
 |some j'::r,i,k,j,ok,h1,h2=>by
  unfold qK at ok;rw[Z3] at ok;have nm:∀n:Nat,r[n]? ≠ some (some j'):=λn h=>by
   have:=aan h;simp at ok;exact ok.1 this
  cases i with
  |zero=>
   grind
  |succ i=>
   cases k with
   |zero=>grind
   |succ k=>exact congrArg (·+1) (uz (j:=j) ok.2 (by simpa using h1) (by simpa using h2))
theorem pO {u:U}(h:(lE js ρ)[i]? = some (some u)):∃j,js[i]? = some (some j)/\ρ[j]? = some (some u):=by
 unfold lE at h;rw[Z2] at h;cases e:js[i]? with
 |none=>rw[e] at h;cases h
 |some o=>
  rw[e] at h;cases o with
  |none=>cases h
  |some j=>
   refine⟨j,rfl,?_⟩;have h:=Z0 h;dsimp only at h;split at h
   ·rename_i v hv;rw[hv,h]
   ·cases h
def pP (h:js[i]? = some (some j))(hv:σ[j]? = some (some v)):(xj js σ)[i]? = some (some v):=by
 unfold xj;rw[Z2,h];dsimp only[Option.map];rw[hv]
theorem uA (h:js[i]? = some (some j)):(v_ G js).is i=G.is j:=by
 grind[v_,Gm.is,acU,Z2]
def DL (js:List (Option Nat))(ρ:Ev)(σ:St):(lE js ρ).length=(xj js σ).length:=by
 unfold lE xj;rw[Zz,Zz]
section
variable {ρi:Ev}
theorem DM (q:cS K G Z A ρ σ H)(ok:qK js=true):cS K (v_ G js) ⟨λ_=>False,λ_=>none,0⟩ A (lE js ρ) (xj js σ) H where
 slot:=λi u h=>by
  obtain⟨j,h1,h2⟩:=pO h;obtain⟨v,h3,h4⟩:=q.slot j u h2;refine⟨v,pP h1 h3,?_⟩;rw[uA h1];by_cases c:G.is j=true
  ·rw[hV c] at h4 ⊢;obtain⟨a,e1,e2,_,_,e5⟩:=h4;exact⟨a,e1,e2,rfl,.inl id,e5⟩
  ·rw[hU c] at h4 ⊢;exact h4
 dis:=λi k u w a ci ck ne hi hk si sk=>by
  obtain⟨j,h1,h2⟩:=pO hi;obtain⟨j',TL,Oy⟩:=pO hk;rw[uA h1] at ci;rw[uA TL] at ck;obtain⟨b,e1,_⟩:=q.own ci h2;obtain⟨b',BD,_⟩:=q.own ck Oy;rw[pP h1 e1] at si;rw[pP TL BD] at sk;cases si;cases sk;exact q.dis j j' u w a ci ck (λz=>ne (by subst z;exact uz ok h1 TL)) h2 Oy e1 BD
 mu:=q.mu
 sup:=λ_ h=>h.elim
 out:=λ_ _=>.inr rfl
 bas:=λ_ _ h=>by cases h
 io0:=λh=>by cases h
 len:=DL js ρ σ
def Lr (G:Gm)(js:List (Option Nat))(ρ:Ev)(σ:St)(a:ZY):Prop:=∃(i j:Nat) (u:U),js[i]? = some (some j)/\G.is j=true/\ρ[j]? = some (some u)/\σ[j]? = some (some (.ref a))
open Classical in
noncomputable def Pw (G:Gm)(js:List (Option Nat))(A:ZY->Prop)(ρ:Ev)(σ:St)(H:Hp):Pkg:=⟨λa=>A a/\¬Lr G js ρ σ a,λa=>if Lr G js ρ σ a then none else H a,0⟩
theorem uB (h:Lr G js ρ σ a):(Pw G js A ρ σ H).B a=none:=by
 unfold Pw;dsimp only;exact hV h
theorem pQ (h:¬Lr G js ρ σ a):(Pw G js A ρ σ H).B a=H a:=by
 unfold Pw;dsimp only;exact hU h
theorem Px (q:cS K G Z A ρ σ H)(ok:qK js=true):cS K (v_ G js) (Pw G js A ρ σ H) A (lE js ρ) (xj js σ) H where
 slot:=λi u h=>by
  obtain⟨j,h1,h2⟩:=pO h;obtain⟨v,h3,h4⟩:=q.slot j u h2;refine⟨v,pP h1 h3,?_⟩;rw[uA h1];by_cases c:G.is j=true
  ·rw[hV c] at h4 ⊢;obtain⟨a,e1,e2,_,_,e5⟩:=h4;subst e1;have cp:Lr G js ρ σ a:=⟨i,j,u,h1,c,h2,h3⟩;exact⟨a,rfl,e2,uB cp,.inl λz=>z.2 cp,e5⟩
  ·rw[hU c] at h4 ⊢;exact h4
 dis:=(DM q ok).dis
 mu:=q.mu
 sup:=λ_ h=>h.1
 out:=λa h=>by
  by_cases c:Lr G js ρ σ a
  ·exact .inr (uB c)
  ·exact .inl ⟨h,c⟩
 bas:=λa o h=>by
  grind[Lr,uB,pQ]
 io0:=λh=>by cases h
 len:=DL js ρ σ
noncomputable def mE:List (Option Nat)->Nat->Option Nat
 | [],_=>none
 |o::r,j=>if o=some j then some 0 else (mE r j).map (·+1)
theorem xo:∀{js:List (Option Nat)} {i j:Nat},mE js j=some i->js[i]? = some (some j)
 | [],_,_,h=>by cases h
 |o::r,i,j,h=>by
  unfold mE at h;split at h
  ·rename_i e;cases h;rw[e];rfl
  ·cases e:mE r j with
   |none=>rw[e] at h;cases h
   |some k=>
    rw[e] at h;cases h;rw[aax];exact xo e
theorem uC:∀{js:List (Option Nat)} {i j:Nat},mE js j=none->js[i]? ≠ some (some j)
 | [],_,_,_=>by simp
 |o::r,i,j,h=>by
  unfold mE at h;split at h
  ·cases h
  ·rename_i ne;cases e:mE r j with
   |some k=>rw[e] at h;cases h
   |none=>
    cases i with
    |zero=>intro z;exact ne (Z0 z)
    |succ i=>rw[aax];exact uC e
noncomputable def wb (G:Gm)(js:List (Option Nat))(ρi ρ:Ev):Ev:=ρ.mapIdx λj x=>if (G.is j&&x.isSome)=true then (match mE js j with
 |some i=>(ρi[i]?).getD none
 |none=>x) else x
theorem B7 {u:U}(h:(wb G js ρi ρ)[j]? = some (some u)):∃u0,ρ[j]? = some (some u0)/\((G.is j=true/\∃i,mE js j=some i/\ρi[i]? = some (some u))\/(u0=u/\(G.is j=false\/mE js j=none))):=by
 unfold wb at h;rw[List.getElem?_mapIdx] at h;cases e:ρ[j]? with
 |none=>rw[e] at h;cases h
 |some x=>
  rw[e] at h;have h:=Z0 h;cases x with
  |none=>simp at h
  |some u0=>
   refine⟨u0,rfl,?_⟩;dsimp only at h;by_cases c:G.is j=true
   ·rw[hV (by rw[c];rfl)] at h;split at h
    ·rename_i i hi;refine .inl ⟨c,i,hi,?_⟩;cases e2:ρi[i]? with
     |none=>rw[e2] at h;cases h
     |some y=>rw[e2] at h;simp at h;rw[h]
    ·rename_i hi;exact .inr ⟨Z0 h,.inr hi⟩
   ·have c:G.is j=false:=acL.mpr c;rw[hU (by rw[c];exact ZE)] at h;exact .inr ⟨Z0 h,.inl c⟩
theorem cS.wb {σ4:St}(q:cS K G Z A ρ σ H)(ok:qK js=true)(q':cS K (v_ G js) (Pw G js A ρ σ H) A ρi σ4 H')(ho:∀i,(v_ G js).is i=true->σ4[i]? = (xj js σ)[i]?):cS K G Z A (L2.wb G js ρi ρ) σ H'/\fB A H H':=by
 have TM:∀a,Lr G js ρ σ a->A a/\Z.B a=none:=λa h00=>by
  obtain⟨i,j,u,h1,h2,h3,h4⟩:=h00;obtain⟨b,e1,e2,e3,_⟩:=q.own h2 h3;lia
 have ex:fB A H H':=λb o nb z=>q'.bas b o (by rw[pQ λc=>nb (TM b c).1];exact z);refine⟨{
  slot:=λj u h=>?_
  dis:=λi k u w a ci ck ne hi hk si sk=>by
   obtain⟨u1,h1,_⟩:=B7 hi;obtain⟨u2,h2,_⟩:=B7 hk;exact q.dis i k u1 u2 a ci ck ne h1 h2 si sk
  mu:=q'.mu
  sup:=q.sup
  out:=q.out
  bas:=λa o h=>q'.bas a o (by
   rw[pQ λc=>by rw[(TM a c).2] at h;cases h];exact q.bas a o h)
  io0:=q.io0
  len:=by unfold L2.wb;rw[List.length_mapIdx];exact q.len},ex⟩
 obtain⟨u0,h0,hh⟩:=B7 h;rcases hh with⟨c,i,hi,hu⟩|⟨rfl,hc⟩
 ·have hj:=xo hi;obtain⟨a,e1,e2,e3,e4,_⟩:=q.own c h0;have ci:(v_ G js).is i=true:=by rw[uA hj];exact c
  obtain⟨a',k1,k2,_,_,k5⟩:=q'.own ci hu;rw[ho i ci,pP hj e1] at k1;cases k1;refine⟨.ref a,e1,?_⟩;rw[hV c];exact⟨a,rfl,e2,e3,e4,k5⟩
 ·obtain⟨v,h1,h2⟩:=q.slot j u0 h0;refine⟨v,h1,?_⟩;by_cases c:G.is j=true
  ·rw[hV c] at h2 ⊢;obtain⟨a,rfl,e2,e3,e4,e5⟩:=h2;have hc:mE js j=none:=by
    lia
   have nc:¬Lr G js ρ σ a:=λh00=>by
    obtain⟨i,j',u,z1,z2,z3,z4⟩:=h00;have ne:j≠j':=λz=>by subst z;exact uC hc z1
    exact q.dis j j' u0 u a c z2 ne h0 z3 h1 z4
   exact⟨a,rfl,e2,e3,e4,e5.re q.mu ex (λb z=>.inl z) λo z=>q'.bas a o (by rw[pQ nc];exact z)⟩
  ·rw[hU c] at h2 ⊢;exact h2.re q.mu ex λb z=>.inl z
end
noncomputable def ko (f:U->R (Option U)):List U->R (List U)
 | []=>.ok []
 |u::us=>(f u).bind λo=>(ko f us).bind λr=>.ok (match o with
  |some y=>y::r
  |none=>r)
noncomputable def xp (js:List (Option Nat))(sg:U->Ev->R Ev)(gt:Ev->R (Bool×Ev))(ge:Ev->R (U×Ev))(ρ:Ev)(u:U):R (Option U):=
 (sg u (lE js ρ)).bind λρi=>(gt ρi).bind λc=>if c.1=true then (ge ρi).bind λy=>.ok (some y.1) else .ok none
noncomputable def eO (gi:Ev->R (List U×Ev))(js:List (Option Nat))(sg:U->Ev->R Ev)(gt:Ev->R (Bool×Ev))(ge:Ev->R (U×Ev)):Ev->R (U×Ev):=λρ=>
 (gi ρ).bind λx=>(ko (xp js sg gt ge x.2) x.1).bind λys=>.ok (.lst ys,x.2)
noncomputable def sQ (G:Gm)(js:List (Option Nat))(sg:U->Ev->R Ev)(gt:Ev->R (Bool×Ev))(ge:Ev->R (U×Ev)):List U->Ev->R (List U×Ev)
 | [],ρ=>.ok ([],ρ)
 |u::us,ρ=>(sg u (lE js ρ)).bind λρi=>(gt ρi).bind λc=>if c.1=true then (ge c.2).bind λy=>(sQ G js sg gt ge us (wb G js y.2 ρ)).bind λr=>.ok (y.1::r.1,r.2) else sQ G js sg gt ge us (wb G js c.2 ρ)
noncomputable def Ls (G:Gm)(gi:Ev->R (List U×Ev))(js:List (Option Nat))(sg:U->Ev->R Ev)(gt:Ev->R (Bool×Ev))(ge:Ev->R (U×Ev)):Ev->R (U×Ev):=λρ=>
 (gi ρ).bind λx=>(sQ G js sg gt ge x.1 x.2).bind λy=>.ok (.lst y.1,y.2)
theorem R.bind_ok {α β:Type}{x:R α}{k:α->R β}{b:β}(h:x.bind k=.ok b):∃a,x=.ok a/\k a=.ok b:=by
 cases x with
 |ok a=>exact⟨a,rfl,h⟩
 |exc=>cases h
 |stk=>cases h
section
variable {e:abd}{b1 b2 b3 p:Bool}{m me:Md}{gi:Ev->R (List U×Ev)}{gt:Ev->R (Bool×Ev)}{ge:Ev->R (U×Ev)}
theorem Ab (ok:qK js=true)(hn:me≠.P){Q:VK}(h:tD X.K G b1 .O (eO gi js sg gt ge) σ H Q) :
  Ui (Vh X.K G b1 p gi) js (λ_=>Vf X.K (v_ G js) sg) (λ_=>GD X.K (v_ G js) false gt) (λ_=>tD X.K (v_ G js) false me ge) σ H Q:=by
 obtain⟨Z,A,ρ,q,f⟩:=h;obtain⟨⟨us,ρ1⟩,e1,f⟩:=f.bind;obtain⟨all,e2,f⟩:=f.bind;refine⟨Z,A,ρ,q,?_⟩;rw[e1];intro J H1 q1 x1 s1 ⟨hz,wk⟩ Y;dsimp only at e2 f;refine⟨λi k ys H2=>i+k=us.length/\aR H1 H2/\∃done rest,ko (xp js sg gt ge ρ1) (us.drop i)=.ok rest/\done++rest=all/\aO X.K H2 A done ys/\done.length<=i,
  ⟨us.length,(by lia),aR.refl _,[],all,by rw[acv];exact e2,rfl,aO.nil,ZP _⟩,?_⟩
 rintro i k ys H2 ⟨hk,sm,done,rest,e3,e4,rs,hd⟩;have q2:=q1.same sm;obtain⟨w1,w2⟩:=wk H2 A (by split;exact sm;exact fB.same sm) λb z=>.inl z;by_cases wY:i<us.length
 ·have eu:us[i]? = some us[i]:=Zw wY;obtain⟨go,yl⟩:=w1 i _ eu;rw[aa4 wY] at e3;unfold ko at e3;obtain⟨o,e5,e3⟩:=R.bind_ok e3;obtain⟨r,e6,e3⟩:=R.bind_ok e3;unfold xp at e5;obtain⟨ρi,e7,e5⟩:=R.bind_ok e5;obtain⟨⟨c,ρc⟩,e8,e5⟩:=R.bind_ok e5;refine .inr ⟨go,by rw[←rs.length];lia,λOA H'=>aR H1 H'/\∃done,done++r=all/\aO X.K H' A done OA/\done.length<=i+1,λOA H' ⟨z1,dn,z2,z3,z4⟩=>⟨k-1,(by lia),(by lia),z1,dn,r,e6,z2,z3,z4⟩,λx H3 y=>?_⟩;obtain⟨sm3,rp⟩:=yl x H3 y;refine⟨_,A,lE js ρ1,us[i],(DM (q2.same sm3) ok),rp,?_⟩;rw[e7];intro σ4 q4 _;refine⟨_,A,ρi,q4,?_⟩;rw[e8];intro H5 q5 x5 s5;obtain⟨rfl,Oz⟩:=s5 rfl;cases c with
  |false=>
   rw[hU ZE] at e5 ⊢;cases e5;cases e3;exact⟨(sm.trans sm3).trans Oz,done,e4,(rs.same sm3).same Oz,(by lia)⟩
  |true=>
   rw[hV rfl] at e5 ⊢;obtain⟨⟨y1,ρy⟩,e9,e5⟩:=R.bind_ok e5;cases e5;cases e3;refine⟨_,A,ρc,q5,?_⟩;rw[e9];intro v H6 q6 x6 s6 vm;obtain⟨rfl,sm6⟩:=s6 rfl;have Xb:=sm3.trans (Oz.trans sm6);exact⟨sm.trans Xb,done++[y1],by rw[aac];exact e4,(rs.same Xb).append (aO.cons (vm.rp hn) aO.nil),by rw[ZJ];simp;lia⟩
 ·have e:i=us.length:=(by lia)
  subst e;rw[aco] at e3;cases e3;rw[aad] at e4;subst e4;refine .inl ⟨w2,λa na=>?_⟩;have sn:=cN na (.lst ys);exact f _ _ (q2.same sn) ((x1.trans (fB.same sm)).trans (fB.same sn)) (pJ (pJ s1 sm) sn) (DH.e q2 sn ⟨a,rfl,na,cq q2.mu rs na (by lia)⟩)
theorem HM (ok:qK js=true)(hn:me≠.P){Q:VK}(h:tD X.K G true .O (Ls G gi js sg gt ge) σ H Q) :
  Ui (Vh X.K G b1 false gi) js (λ_=>Vf X.K (v_ G js) sg) (λ_=>GD X.K (v_ G js) b2 gt) (λ_=>tD X.K (v_ G js) b3 me ge) σ H Q:=by
 obtain⟨Z,A,ρ,q,f⟩:=h;obtain⟨⟨us,ρ1⟩,e1,f⟩:=f.bind;obtain⟨⟨all,ρe⟩,e2,f⟩:=f.bind;refine⟨Z,A,ρ,q,?_⟩;rw[e1];intro J H1 q1 x1 s1 ⟨hz,wk⟩ Y;dsimp only at e2 f;refine⟨λi k ys H2=>i+k=us.length/\fB A H1 H2/\∃ρ2 done rest,cS X.K G Z A ρ2 σ H2/\sQ G js sg gt ge (us.drop i) ρ2=.ok (rest,ρe)/\done++rest=all/\aO X.K H2 A done ys/\done.length<=i,
  ⟨us.length,(by lia),fB.refl,ρ1,[],all,q1,by rw[acv];exact e2,rfl,aO.nil,ZP _⟩,?_⟩
 rintro i k ys H2 ⟨hk,ex,ρ2,done,rest,q2,e3,e4,rs,hd⟩;obtain⟨w1,w2⟩:=wk H2 A (by rw[hU ZE];exact ex) λb z=>.inl z;by_cases wY:i<us.length
 ·have eu:us[i]? = some us[i]:=Zw wY;obtain⟨go,yl⟩:=w1 i _ eu;rw[aa4 wY] at e3;unfold sQ at e3;obtain⟨ρi,e7,e3⟩:=R.bind_ok e3;obtain⟨⟨c,ρc⟩,e8,e3⟩:=R.bind_ok e3;refine .inr ⟨go,by rw[←rs.length];lia,λOA H'=>fB A H1 H'/\∃ρ2 done rest,cS X.K G Z A ρ2 σ H'/\sQ G js sg gt ge (us.drop (i+1)) ρ2=.ok (rest,ρe)/\done++rest=all/\aO X.K H' A done OA/\done.length<=i+1,λOA H' z=>⟨k-1,(by lia),(by lia),z⟩,λx H3 y=>?_⟩;obtain⟨sm3,rp⟩:=yl x H3 y;have q3:=q2.same sm3;refine⟨Pw G js A ρ2 σ H3,A,lE js ρ2,us[i],Px q3 ok,rp,?_⟩;rw[e7];intro σ4 q4 o4;refine⟨_,A,ρi,q4,?_⟩;rw[e8];intro H5 q5 x5 s5;dsimp only at e3;cases c with
  |false=>
   rw[hU ZE] at e3 ⊢;obtain⟨q6,x6⟩:=q3.wb ok q5 o4;exact⟨ex.trans ((fB.same sm3).trans x6),_,done,rest,q6,e3,e4,(rs.same sm3).re q3.mu x6 (λb z=>.inl z),(by lia)⟩
  |true=>
   rw[hV rfl] at e3 ⊢;obtain⟨⟨y1,ρy⟩,e9,e3⟩:=R.bind_ok e3;obtain⟨⟨r,ρr⟩,e10,e3⟩:=R.bind_ok e3;cases e3;refine⟨_,A,ρc,q5,?_⟩;rw[e9];intro v H6 q6 x6 s6 vm;obtain⟨q7,x7⟩:=q3.wb ok q6 o4;exact⟨ex.trans ((fB.same sm3).trans x7),_,done++[y1],r,q7,e10,by rw[aac];exact e4,((rs.same sm3).re q3.mu x7 (λb z=>.inl z)).append (aO.cons (vm.rp hn) aO.nil),by rw[ZJ];simp;lia⟩
 ·have e:i=us.length:=(by lia)
  subst e;rw[aco] at e3;cases e3;rw[aad] at e4;subst e4;refine .inl ⟨w2,λa na=>?_⟩;have sn:=cN na (.lst ys);exact f _ _ (q2.same sn) ((x1.trans ex).trans (fB.same sn)) (λz=>nomatch z) (DH.e q2 sn ⟨a,rfl,na,cq q2.mu rs na (by lia)⟩)
structure HN (X:Cx)(G:Gm)(v7:List abd)(b:Bool)(h:Ev->R (Bool×Ev)):Prop where
 un:Fq X v7 (GD X.K G b h)
noncomputable def fT:Ev->R (Bool×Ev):=λρ=>.ok (true,ρ)
def bM:HN X G [] false fT:=⟨λpins s σ H Q I ⟨Z,A,ρ,q,f⟩=>Hj pins s σ H Q I (f H q fB.refl λ_=>⟨rfl,aR.refl _⟩)⟩
def gK {h:Ev->R (Bool×Ev)}(hc:DT X G e b1 h):HN X G [e] b1 h:=⟨Hk hc.un⟩
def dF (nY:aeD)(NX N:List Str)(js:List (Option Nat))(hc:X.calm=true)(hi:DI X G tg iter b1 p gi)(zq:∀Y:tM,DG (fI X scope N Y) (v_ G js) tg sg/\HN (fI X scope N Y) (v_ G js) v7 false gt/\DE (fI X scope N Y) (v_ G js) elt false me ge)(hn:me≠.P:=by decide)(ok:qK js=true:=by rfl)(og:X.env.scope=nY:=by rfl)(MG:X.N=NX:=by rfl)(hS:wj nY NX scope N js=true:=by decide+kernel)(hs:∀x,aa8 iter X.env x=pure x:=by intro _;rfl):DE X G (.ListComp elt [⟨tg,iter,v7,0⟩] scope pos) b1 .O (eO gi js sg gt ge):=⟨(MW nY NX N js hc hi.un (λY=>⟨(zq Y).1.un,(zq Y).2.1.un,(zq Y).2.2.un⟩) og MG hS hs).to λ_ _ _=>Ab ok hn⟩
def Py (nY:aeD)(NX N:List Str)(js:List (Option Nat))(hc:X.calm=true)(hi:DI X G tg iter b1 false gi)(zq:∀Y:tM,DG (fI X scope N Y) (v_ G js) tg sg/\HN (fI X scope N Y) (v_ G js) v7 b2 gt/\DE (fI X scope N Y) (v_ G js) elt b3 me ge)(hn:me≠.P:=by decide)(ok:qK js=true:=by rfl)(og:X.env.scope=nY:=by rfl)(MG:X.N=NX:=by rfl)(hS:wj nY NX scope N js=true:=by decide+kernel)(hs:∀x,aa8 iter X.env x=pure x:=by intro _;rfl):DE X G (.ListComp elt [⟨tg,iter,v7,0⟩] scope pos) true .O (Ls G gi js sg gt ge):=⟨(MW nY NX N js hc hi.un (λY=>⟨(zq Y).1.un,(zq Y).2.1.un,(zq Y).2.2.un⟩) og MG hS hs).to λ_ _ _=>HM ok hn⟩
variable {nv oh:Pos}
def gb (nY:aeD)(NX N:List Str)(js:List (Option Nat))(hN:X.N.Nodup)(hc:X.calm=true)(hi:DI X G tg iter b1 p gi)(zq:∀Y:tM,DG (fI X scope N Y) (v_ G js) tg sg/\HN (fI X scope N Y) (v_ G js) v7 false gt/\DE (fI X scope N Y) (v_ G js) elt false me ge)(hx:X.N[i]? = some x:=by rfl)(hl:GN X.env.scope x:=by first|exact Or.inl rfl|exact Or.inr rfl)(c:G.is i=false:=by rfl)(hn:me≠.P:=by decide)(ok:qK js=true:=by rfl)(og:X.env.scope=nY:=by rfl)(MG:X.N=NX:=by rfl)(hS:wj nY NX scope N js=true:=by decide+kernel)(hw:ad3 (.ListComp elt [⟨tg,iter,v7,0⟩] scope oh) (some (.Name x nv)) pos.line X.env=pure true:=by rfl)(hf:X.fn x=true\/X.env.scope.names.lookup x=some .local:=by first|exact .inl rfl|exact .inr rfl|assumption)(hs:∀x,aa8 iter X.env x=pure x:=by intro _;rfl):DS X G m (.Assign [.Name x nv] (.ListComp elt [⟨tg,iter,v7,0⟩] scope oh) pos) (aY i (eO gi js sg gt ge)):=⟨(Hl nY NX N js hN hx hl hc hi.un (λY=>⟨(zq Y).1.un,(zq Y).2.1.un,(zq Y).2.2.un⟩) og MG hS hw hf hs).to λ_ _ _=>z_ (b1:=b1) c (by decide) λ_ _ _=>Ab ok hn⟩
end
end L2
namespace L2
noncomputable def cb (n:Nat)(us:List U):Ev:=us.map some++acu (n-us.length) none
noncomputable def bO (m:Md)(n:Nat)(s:Ev->SR):List U->R U:=λus=>match s (cb n us) with
 | .rt u _=>.ok u
 | .nx _=>if m=.S then .ok .non else .stk
 | .exc c u=>.exc c u
 |_=>.stk
noncomputable def Ac (n:Nat)(s:Ev->SR):List U->R (U×U):=λus=>match s (cb n us) with
 | .rt u ρ=>match ρ[0]? with
  |some (some w)=>.ok (u,w)
  |_=>.stk
 | .nx ρ=>match ρ[0]? with
  |some (some w)=>.ok (.non,w)
  |_=>.stk
 | .exc c u=>.exc c u
 |_=>.stk
theorem pR {u:U}(h:(cb n us)[i]? = some (some u)):us[i]? = some u:=by
 unfold cb at h;by_cases c:i<(us.map some).length
 ·rw[aa1 c,Z2] at h;cases e:us[i]? with
  |none=>rw[e] at h;cases h
  |some w=>rw[e] at h;simp at h;rw[h]
 ·rw[aaG (by lia),List.getElem?_replicate] at h;split at h
  ·cases h
  ·cases h
def nH (h:vs[i]? = some v):(ac4 N vs)[i]? = some (some v):=by
 unfold ac4;have c:i<(vs.map some).length:=by rw[Zz];exact (ZN.mp h).1
 rw[aa1 c,Z2,h];rfl
def DP (h:us.length=vs.length):(cb N.length us).length=(ac4 N vs).length:=by
 unfold cb ac4;rw[ZJ,ZJ,Zz,Zz,acB,acB,h]
section
variable {base:abT}
theorem ye {st:aca}(G:Gm)(m:Md)(s:Ev->SR)(KI:G.io=false)(tH:∀i,i<ps.length->G.is i=false)(j6:∀(f:ZY) (cc:ZF) (A:aar) (outer:List Env) (s0:ZT) (H:Hp) (E:XK),gE k (A.deeper (aeo x (aq st) s0.heap.objs.size f cc))->
   B6 (sN zM P w K mg base N x (aq st) f cc A outer s0 H E).nox G m (cJ st) s) :
  (∀vs H Q E,dz K ps.length (bO m N.length s) m vs H Q E->vs.length=ps.length)/\∀(f:ZY) (cc:ZF) (A:aar) (outer:List Env) (s0:ZT) (H:Hp) (vs:List V) (Q:VK) (E:XK),gE k (A.deeper (aeo x (aq st) s0.heap.objs.size f cc))->dz K ps.length (bO m N.length s) m vs H Q E->
   ∃t,wc (sN zM P w K mg base N x (aq st) f cc A outer s0 H E).nox (cJ st) t/\t {nx:=λ_ H'=>Q .non H',rt:=Q} (ac4 N vs) H:=by
 have hl:∀(us:List U) (A:ZY->Prop) (H:Hp) (Q:VK),RQ K m A H (B5 ps.length (bO m N.length s) us) Q->us.length=ps.length:=λus A H Q h=>by
  unfold B5 at h;split at h
  ·assumption
  ·exact h.elim
 refine⟨λvs H Q E ⟨us,A,r,_,h⟩=>by rw[←r.length];exact hl us A H Q h,λf cc A outer s0 H vs Q E hr ⟨us,A0,r,mu,h⟩=>⟨_,(j6 f cc A outer s0 H E hr).un,?_⟩⟩;have l:=hl us A0 H Q h;unfold B5 at h;rw[hV l] at h;refine⟨⟨A0,H,0⟩,A0,cb N.length us,?_,?_⟩
 ·exact {
   slot:=λi u hu=>by
    have hu:=pR hu;obtain⟨v,h1,h2⟩:=r.get hu;refine⟨v,nH h1,?_⟩;rw[hU (by rw[tH i (by rw[←l];exact (ZN.mp hu).1)];exact ZE)];exact h2
   dis:=λi j u w a ci cj ne hi hj si sj=>by
    rw[tH i (by rw[←l];exact (ZN.mp (pR hi)).1)] at ci;cases ci
   mu:=mu
   sup:=λa h=>h
   out:=λa h=>.inl h
   bas:=λa o h=>h
   io0:=λh=>by rw[KI] at h;cases h
   len:=DP r.length}
 ·unfold bO at h;cases e:s (cb N.length us) with
  |nx ρ'=>
   rw[e] at h;dsimp only at h;intro A' σ' H' q;split at h
   ·rename_i hm;subst hm;exact h _ H' q.bas (show Rp K H' A0 .non .non from uu)
   ·exact h.elim
  |rt u ρ'=>
   rw[e] at h;intro A' σ' H' v q vm;refine h v H' q.bas ?_;cases m with
   |S=>exact vm
   |P=>exact vm.elim
   |O=>
    obtain⟨a,e1,e2,e3,e4⟩:=vm;exact⟨a,e1,e2,e4⟩
  |bk=>rw[e] at h;exact h.elim
  |ct=>rw[e] at h;exact h.elim
  |exc=>rw[e] at h;exact h.elim
  |stk=>rw[e] at h;exact h.elim
def Df.fnD {st:aca}(G:Gm)(m:Md)(s:Ev->SR)(d:Df K mg x st)(S:aK N ps (aq st))(hb:∀(kV qB pm:ZF) (an:Option ZY) (cc ct:ZF) (us:List ZF),us.length=ps.length->bindArgs (abi x x (gF st) (cJ st) (aq st) .none kV qB pm an cc ct) ⟨us,[]⟩=pure (ps.zip us))(KI:G.io=false)(tH:∀i,i<ps.length->G.is i=false)(j6:∀(f:ZY) (cc:ZF) (A:aar) (outer:List Env) (s0:ZT) (H:Hp) (E:XK),gE k (A.deeper (aeo x (aq st) s0.heap.objs.size f cc))->
   B6 (sN zM P w K mg base N x (aq st) f cc A outer s0 H E).nox G m (cJ st) s):Fn P w K mg base x (k+1) ps (dz K ps.length (bO m N.length s) m):=
 d.fn S hb (ye G m s KI tH j6).1 (ye G m s KI tH j6).2
theorem Kw.okD {st:aca}{f:ZY}(G:Gm)(m:Md)(s:Ev->SR)(F:Kw K x x st f fd)(S:aK N ps (aq st))(KI:G.io=false)(tH:∀i,i<ps.length->G.is i=false)(j6:∀(f:ZY) (cc:ZF) (A:aar) (outer:List Env) (s0:ZT) (H:Hp) (E:XK),gE k (A.deeper (aeo x (aq st) s0.heap.objs.size f cc))->
   B6 (sN zM P w K mg base N x (aq st) f cc A outer s0 H E).nox G m (cJ st) s):nZ P w K mg base zM (k+1) f fd ps (dz K ps.length (bO m N.length s) m):=
 F.ok S (ye G m s KI tH j6).1 ((ye G m s KI tH j6).2 f)
def Ad (K:ZD):Sp:=λvs H Q _=>∃(a:ZY) (ns:List Int),vs=[.ref a]/\Lh K H a (ns.map V.int)/\ns.length<=63/\∀H',Q (.bl true) H'
theorem Pz (hO:La H)(h:gD K H a xs):Lh K H a xs:=by
 rcases h with (h|h)|h
 ·rcases hO a with z|⟨o,ys,z⟩
  ·rw[h] at z;cases z
  ·rw[h] at z;cases z
 ·exact .inl h
 ·exact .inr h
theorem Ae {H:Hp}{A:ZY->Prop}:∀(ns:List Int),aO K H A (ns.map .int) (ns.map V.int)
 | []=>aO.nil
 |n::ns=>aO.cons dE (Ae ns)
theorem PB {f:List U->R U}{fa:ZY}(F:nZ P w K mg base zM k fa fd ["script"] (dz K 1 f .S))(h:∀ns:List Int,ns.length<=63->f [.scr (ns.map .int)]=.ok (.bl true)):nZ P w K mg base zM k fa fd ["script"] (Ad K):=by
 refine F.imp λvs H Q E ⟨a,ns,e,sc,l,q⟩=>?_;subst e;have hl:(ns.map U.int).length<=ZH:=by rw[Zz];have:ZH=16777216:=rfl;lia
 refine⟨[.scr (ns.map .int)],λ_=>False,aO.cons ?_ aO.nil,λ_ h=>h.elim,?_⟩
 ·unfold Rp;exact⟨a,_,rfl,sc,hl,Ae ns⟩
 ·have e:B5 1 f [.scr (ns.map .int)]=.ok (.bl true):=(hV rfl).trans (h ns l);rw[e];intro v H' sm vm;have vm:Rp K H' (λ_=>False) (.bl true) v:=vm;unfold Rp at vm;subst vm;exact q H'
theorem Df.fnI {st:aca}(G:Gm)(s:Ev->SR)(d:Df K mg x st)(S:aK N ps (aq st))(hb:∀(kV qB pm:ZF) (an:Option ZY) (cc ct:ZF) (us:List ZF),us.length=ps.length->bindArgs (abi x x (gF st) (cJ st) (aq st) .none kV qB pm an cc ct) ⟨us,[]⟩=pure (ps.zip us))(KI:G.io=true)(h0:G.is 0=true)(tH:∀i,i<ps.length->i≠0->G.is i=false)(j6:∀(f:ZY) (cc:ZF) (A:aar) (outer:List Env) (s0:ZT) (H:Hp) (E:XK),gE k (A.deeper (aeo x (aq st) s0.heap.objs.size f cc))->
   B6 (sN zM P w K mg base N x (aq st) f cc A outer s0 H E).nox G .S (cJ st) s):Fn P w K mg base x (k+1) ps (GF K ps.length (Ac N.length s)):=by
 refine d.fn S hb ?_ ?_
 ·rintro vs H Q E ⟨u0,us,a0,vs',A,rfl,_,_,r,_,h⟩;unfold B5 at h;split at h
  ·rename_i e;split at e
   ·rename_i l;rw[ZM,←r.length,←l];rfl
   ·cases e
  ·exact h.elim
 ·rintro f cc A outer s0 H vs Q E hr ⟨u0,us,a0,vs',A0,rfl,ha,t0,r,mu,h⟩;refine⟨_,(j6 f cc A outer s0 H E hr).un,?_⟩;have l:(u0::us).length=ps.length:=by
   unfold B5 at h;by_cases c:(u0::us).length=ps.length
   ·exact c
   ·rw[hU c] at h;exact h.elim
  unfold B5 at h;rw[hV l] at h
  let Z:Pkg:=⟨A0,λb=>if b=a0 then none else H b,a0⟩
  have zb:∀b o,b≠a0->H b=some o->Z.B b=some o:=λb o nb z=>by
   show (if b=a0 then none else H b)=some o;rw[hU nb];exact z
  have rel:cS K G Z A0 (cb N.length (u0::us)) (ac4 N (.ref a0::vs')) H:={
   slot:=λi u hu=>by
    have hu:=pR hu;cases i with
    |zero=>
     simp at hu;subst hu;refine⟨.ref a0,nH (by simp),?_⟩;rw[hV h0];exact⟨a0,rfl,ha,by show (if a0=a0 then none else H a0)=none;rw[hV rfl],.inr ⟨KI,rfl⟩,t0⟩
    |succ i=>
     have hl:=(ZN.mp hu).1;rw[aax] at hu;obtain⟨v,h1,h2⟩:=r.get hu;refine⟨v,nH (by rw[aax];exact h1),?_⟩;rw[hU (by rw[tH (i+1) (by rw[←l];exact hl) (by lia)];exact ZE)];exact h2
   dis:=λi j u w a ci cj ne hi hj si sj=>by
    have hi:=(ZN.mp (pR hi)).1;have hj:=(ZN.mp (pR hj)).1;by_cases e:i=0
    ·rw[tH j (by rw[←l];exact hj) (by lia)] at cj;cases cj
    ·rw[tH i (by rw[←l];exact hi) e] at ci;cases ci
   mu:=mu
   sup:=λa h=>h
   out:=λa h=>.inl h
   bas:=λa o h=>by
    by_cases c:a=a0
    ·have h:(if a=a0 then none else H a)=some o:=h;rw[hV c] at h;cases h
    ·have h:(if a=a0 then none else H a)=some o:=h;rw[hU c] at h;exact h
   io0:=λ_=>⟨nH (vs:=.ref a0::vs') (i:=0) (v:=.ref a0) rfl,h0⟩
   len:=DP (by rw[ZM,ZM,r.length])}
  have fin:∀(A':ZY->Prop) (ρ':Ev) (σ':St) (H':Hp) (w:U),cS K G Z A' ρ' σ' H'->ρ'[0]? = some (some w)->(∀b o,b≠a0->H b=some o->H' b=some o)/\mB K H' A0 w a0:=λA' ρ' σ' H' w q hw=>by
   obtain⟨a,e1,e2,e3,e4,e5⟩:=q.own h0 hw;rw[(q.io0 KI).1] at e1;cases e1;exact⟨λb o nb z=>q.bas b o (zb b o nb z),e5.mono q.sup⟩
  refine⟨Z,A0,_,rel,?_⟩;unfold Ac at h;cases e:s (cb N.length (u0::us)) with
  |nx ρ'=>
   rw[e] at h;dsimp only at h;intro A' σ' H' q;split at h
   ·rename_i hm;split at hm
    ·rename_i w hw;cases hm;obtain⟨z1,z2⟩:=fin A' ρ' σ' H' _ q hw;exact h _ H' z1 z2 uu
    ·cases hm
   ·exact h.elim
  |rt u ρ'=>
   rw[e] at h;dsimp only at h;intro A' σ' H' v q vm;split at h
   ·rename_i hm;split at hm
    ·rename_i w hw;cases hm;obtain⟨z1,z2⟩:=fin A' ρ' σ' H' _ q hw;exact h _ H' z1 z2 vm
    ·cases hm
   ·exact h.elim
  |bk=>rw[e] at h;exact h.elim
  |ct=>rw[e] at h;exact h.elim
  |exc=>rw[e] at h;exact h.elim
  |stk=>rw[e] at h;exact h.elim
end
section
variable {e e2:abd}{p1 p2:Pos}{y:Str}{b1 b2:Bool}{m m1 m2:Md}{g1 g2:Ev->R (U×Ev)}
noncomputable def uD (i:Nat)(gv gk:Ev->R (U×Ev)):Ev->SR:=λρ=>SR.of (gv ρ) λx=>if live x.2 i=true then SR.of (gk x.2) λy=>match y.1 with
 | .int k=>match y.2[i]? with
  |some (some (.lst us))=>match zK us.length k with
   |some j=>.nx (y.2.set i (some (.lst (us.set j x.1))))
   |none=>.stk
  |_=>.stk
 |_=>.stk
 else .stk
theorem yf (he:DE X G e b1 m1 g1)(hk:DE X G e2 b2 m2 g2)(hn:m1≠.P:=by decide)(hN:X.N[i]? = some y:=by rfl)(hv:Ku X.env.scope y:=by first|exact Or.inl rfl|exact Or.inr (Or.inl rfl)|exact Or.inr (Or.inr rfl))(c:G.is i=true:=by rfl)(hd:(y==("__debug__":Str))=false:=by decide)(vX:(y==("__classdict__":Str))=false:=by decide)(ha:∀v,assign (.Subscript (.Name y p1) e2 p2) X.env v=(do
   let ov ←holding [v] (acP (.Name y p1) X.env)
   let iv ←holding [v,ov] (acP e2 X.env)
   standAt p2
   holding [v,ov,iv] (setItem ov iv v)
   release [v,ov,iv] []):=by intro _;rfl)(hs:adS [.Subscript (.Name y p1) e2 p2] e pos.line X.env=pure false:=by rfl)(hw:adT [.Subscript (.Name y p1) e2 p2] e X.env=pure none:=by rfl)(h1:(abY [.Subscript (.Name y p1) e2 p2] X.env).map (·.2)=[assign (.Subscript (.Name y p1) e2 p2) X.env]:=by rfl):DS X G m (.Assign [.Subscript (.Name y p1) e2 p2] e pos) (uD i g1 g2):=⟨(GU he.un (OV (oJ hN hv hd vX) hk.un G9 ha) hs hw h1).to λD σ H h00=>by
 obtain⟨Z,A,ρ,q,f⟩:=h00;obtain⟨⟨u,ρ1⟩,e1,f⟩:=f.of;refine⟨Z,A,ρ,q,?_⟩;rw[e1];intro v H1 q1 x1 s1 vm;dsimp only at f;split at f
 ·rename_i hl;obtain⟨u00,hu0⟩:=DK hl;obtain⟨a0,h0,_⟩:=q1.own c hu0;obtain⟨⟨k,ρ2⟩,e2,f⟩:=f.of;refine⟨.ref a0,h0,Z,A,ρ1,q1,?_⟩;rw[e2];intro v2 H2 q2 x2 s2 wa;dsimp only at f;cases k with
  |int kk=>
   dsimp only at f;split at f
   ·rename_i us hu;split at f
    ·rename_i j hj;obtain⟨a0',k1,k2,_,_,k5⟩:=q2.own c hu;rw[h0] at k1;cases k1;obtain⟨xs,t1,t2,t3⟩:=k5;refine⟨a0,xs,kk,j,rfl,wa.pk.int,t1,by rw[←t3.length];exact hj,?_⟩;have em:∀b o,b≠a0->H2 b=some o->cE H2 a0 (.lst (xs.set j v)) b=some o:=λb o nb z=>by rw[bq nb];exact z
     have ex:fB A H2 (cE H2 a0 (.lst (xs.set j v))):=λb o nb z=>em b o (λy=>nb (y▸k2)) z;refine f A σ _ (q2.put c hu h0 em ⟨xs.set j v,bC,by rw[aaF];exact t2,?_⟩);exact (t3.re q2.mu ex λb z=>.inl z).set j (((vm.rp hn).re q1.mu x2 λb z=>.inl z).re q2.mu ex λb z=>.inl z)
    ·exact f.elim
   ·exact f.elim
  |_=>exact f.elim
 ·exact f.elim⟩
noncomputable def HP (i:Nat)(p:U->U->R U)(g:Ev->R (U×Ev)):Ev->SR:=λρ=>match ρ[i]? with
 |some (some u)=>SR.of (g ρ) λy=>SR.of (p u y.1) λz=>.nx (y.2.set i (some z))
 |_=>.stk
noncomputable def RV (f:Int->Int->Int):U->U->R U:=λu w=>match u,w with
 | .int i,.int j=>.ok (.int (f i j))
 |_,_=>.stk
theorem PD {op:Operator}{f:Int->Int->Int}(ho:UU X op (Wx f))(hN:X.N.Nodup)(he:DE X G e b1 m1 g1)(hi:X.N[i]? = some x:=by rfl)(hx:GN X.env.scope x:=by first|exact Or.inl rfl|exact Or.inr rfl)(c:G.is i=false:=by rfl)(hf:X.fn x=true\/X.env.scope.names.lookup x=some .local:=by first|exact .inl rfl|exact .inr rfl|assumption):DS X G m (.AugAssign (.Name x p1) op e pos) (HP i (RV f) g1):=⟨(OX hN hi hx he.un ho hf).to λD σ H h00=>by
 obtain⟨Z,A,ρ,q,f⟩:=h00;unfold HP at f;split at f
 ·rename_i u hu;obtain⟨v,h1,h2⟩:=q.val c hu;obtain⟨⟨w,ρ1⟩,e1,f⟩:=f.of;obtain⟨z,e2,f⟩:=f.of;dsimp only at e2 f;refine⟨v,h1,Z,A,ρ,q,?_⟩;rw[e1];intro v2 H1 q1 x1 s1 vm;unfold RV at e2;split at e2
  ·cases e2;unfold Rp at h2;subst h2;exact⟨_,_,rfl,vm.pk.int,f A _ H1 (q1.set c dE)⟩
  ·cases e2
 ·exact f.elim⟩
end
end L2
namespace L2
def HQ:R2:=λx y H Q=>∃l b xs zs,x=.ref l/\y=.ref b/\H l=some (.lst xs)/\H b=some (.lst zs)/\xs.length+zs.length<=ZH/\∀p,H p=none->Q (.ref p) (cE H p (.lst (xs++zs)))
theorem Lu:l6 X (acX .Add) HQ:=by
 intro pins s σ H x y v u Q I rx ry h;obtain⟨l,b,xs,zs,rfl,rfl,hH,hB,hz,q⟩:=h;cases rx;cases ry;obtain⟨z,its,n,r,hl,e⟩:=I.lstM hH;obtain⟨z2,its2,n2,r2,QJ,e2⟩:=I.lstM hB;refine PySem.P.add_list e e2 ?_ (by rw[ZI,ZI];lia);have ea:its.toArray++its2.toArray=(its++its2).toArray:=by simp
 rw[ea];exact⟨.ref _,_,I.lnew (t':=s.toks) (r.append r2) (by rw[ZJ];lia),rfl,q _ I.fresh⟩
noncomputable def dO:U->U->R U:=λu w=>match u,w with
 | .int i,.int j=>.ok (.int (i+j))
 | .tup a,.tup b=>if a.length+b.length<=ZH then .ok (.tup (a++b)) else .stk
 | .lst a,.lst b=>if a.length+b.length<=ZH then .ok (.lst (a++b)) else .stk
 |_,_=>.stk
noncomputable def PF:U->U->R U:=λu w=>match u,w with
 | .lst a,.lst b=>if a.length+b.length<=ZH then .ok (.lst (a++b)) else .stk
 |_,_=>.stk
def MZ:R2:=λx y H Q=>(BM λi j=>.int (i+j)) x y H Q\/Hw x y H Q\/HQ x y H Q
def bc:l6 X (acX .Add) MZ:=O3.or (Hx.or Lu)
theorem Lv:gy K HQ .O PF:=λA H x y u w z Q hx hy mu e q=>by
 unfold PF at e;split at e
 ·split at e
  ·rename_i hl;cases e;unfold Pk at hx hy;obtain⟨a,xs,rfl,h1,l1,r1⟩:=hx;obtain⟨b,ys,rfl,h2,l2,r2⟩:=hy;exact⟨a,b,xs,ys,rfl,rfl,h1,h2,by rw[←r1.length,←r2.length];exact hl,λp hp=>q _ _ (cN hp _) ⟨p,rfl,hp,cq mu (r1.append r2) hp (by rw[ZJ];exact hl)⟩⟩
  ·cases e
 ·cases e
theorem bf:gy K MZ .S dO:=λA H x y u w z Q hx hy mu e q=>by
 unfold dO at e;split at e
 ·cases e;exact .inl ⟨_,_,hx.int,hy.int,q _ H (aR.refl _) (show Rp K H A _ _ from dE)⟩
 ·split at e
  ·rename_i hl;cases e;unfold Pk at hx hy;obtain⟨a,xs,rfl,h1,l1,r1⟩:=hx;obtain⟨b,ys,rfl,h2,l2,r2⟩:=hy;refine .inr (.inl ⟨a,b,xs,ys,rfl,rfl,h1,h2,by rw[←r1.length,←r2.length];exact hl,λr H' sm hr=>q _ H' sm (show Rp K H' A _ _ from ?_)⟩);unfold Rp;exact⟨r,_,rfl,hr,by rw[ZJ];exact hl,(r1.append r2).same sm⟩
  lia
 ·refine .inr (.inr (Lv A H x y _ _ z Q hx hy mu (show PF (.lst _) (.lst _)=_ from e) λv H' sm vm=>q v H' sm ?_));obtain⟨a,rfl,na,t⟩:=vm;exact t.rp (λb h=>.inl h) λh=>by have:=mu a h;rw[na] at this;exact this
 lia
noncomputable def pI (c:Int->Int->Bool)(f:Int->Int->Int):U->U->R U:=λu w=>match u,w with
 | .int i,.int j=>if c i j=true then .ok (.int (f i j)) else .stk
 |_,_=>.stk
theorem DQ {C:Int->Int->Prop}{c:Int->Int->Bool}{f:Int->Int->Int}(h:∀i j,c i j=true->C i j):gy K (rI C λi j=>.int (f i j)) .S (pI c f):=λA H x y u w z Q hx hy mu e q=>by
 unfold pI at e;split at e
 ·rename_i i j;split at e
  ·rename_i hc;cases e;exact⟨i,j,hx.int,hy.int,h i j hc,q _ H (aR.refl _) (show Rp K H A _ _ from dE)⟩
  ·cases e
 ·cases e
noncomputable def uE:U->U->R U:=λu w=>match u,w with
 | .int i,.int j=>.ok (.int (i-j))
 |_,_=>.stk
theorem lF:gy K (BM λi j=>.int (i-j)) .S uE:=λA H x y u w z Q hx hy mu e q=>by
 unfold uE at e;split at e
 ·cases e;exact⟨_,_,hx.int,hy.int,q _ H (aR.refl _) (show Rp K H A _ _ from dE)⟩
 ·cases e
noncomputable def oQ (i j:Int):Bool:=(decide (-(2 ^ 64)<i)&&decide (i<2 ^ 64))||(decide (-(2 ^ 64)<j)&&decide (j<2 ^ 64))
noncomputable def gL:U->U->R U:=pI oQ (·*·)
def cX:gy K (rI KY λi j=>.int (i*j)) .S gL:=DQ λi j h=>by
 unfold oQ at h;simp only[ab6,Z3,decide_eq_true_eq] at h;exact h
noncomputable def Fz (_ j:Int):Bool:=decide (0<j)&&decide (j<18446744073709551616)
noncomputable def xq:U->U->R U:=pI Fz (· / ·)
def pS:gy K (rI Ho λi j=>.int (i / j)) .S xq:=DQ λi j h=>by
 unfold Fz at h;simp only[Z3,decide_eq_true_eq] at h;exact h
noncomputable def yg:U->U->R U:=pI (λ_ j=>decide (0<j)) (· % ·)
def lG:gy K (rI (λ_ j=>0<j) λi j=>.int (i % j)) .S yg:=DQ λi j h=>of_decide_eq_true h
noncomputable def Lw (i j:Int):Bool:=decide (0<=j)&&decide (j<=1000000)&&decide (i.natAbs<2 ^ 64)
noncomputable def Lx:U->U->R U:=pI Lw λi j=>i ^ j.toNat
def DR:gy K (rI Rn λi j=>.int (i ^ j.toNat)) .S Lx:=DQ λi j h=>by
 unfold Lw at h;simp only[Z3,decide_eq_true_eq] at h;exact⟨h.1.1,h.1.2,h.2⟩
noncomputable def yh:U->R U:=λu=>match u with
 | .int i=>.ok (.int (-i))
 |_=>.stk
theorem yi:Pm K (rU λi=>.int (-i)) .S yh:=λA H x u z Q hx mu e q=>by
 unfold yh at e;split at e
 ·cases e;exact⟨_,hx.int,q _ H (aR.refl _) (show Rp K H A _ _ from dE)⟩
 ·cases e
noncomputable def pC (f:Int->Int->Bool):U->U->R U:=λu w=>match u,w with
 | .int i,.int j=>.ok (.bl (f i j))
 |_,_=>.stk
theorem DU {f:Int->Int->Bool}:gy K (BM λi j=>.bl (f i j)) .S (pC f):=λA H x y u w z Q hx hy mu e q=>by
 unfold pC at e;split at e
 ·cases e;exact⟨_,_,hx.int,hy.int,q _ H (aR.refl _) (show Rp K H A _ _ from iw)⟩
 ·cases e
noncomputable def PH:U->U->R U:=pC λi j=>decide (i<j)
noncomputable def Ly:U->U->R U:=pC λi j=>decide (i<=j)
noncomputable def FA:U->U->R U:=pC λi j=>decide (j<i)
noncomputable def Vi:U->U->R U:=pC λi j=>decide (j<=i)
mutual
noncomputable def fP:U->Option D
 | .non=>some .non
 | .bl b=>some (.bl b)
 | .int i=>some (.int i)
 | .str x=>some (.str x)
 | .tup us=>(fU us).map .tup
 | .lst us=>(fU us).map .lst
 | .dct _ _=>none
 | .scr _=>none
noncomputable def fU:List U->Option (List D)
 | []=>some []
 |u::us=>(fP u).bind λd=>(fU us).map λds=>d::ds
end
mutual
theorem B8 {H:Hp}{A:ZY->Prop}:∀{u:U} {v:V} {d:D},Rp K H A u v->fP u=some d->a7 K H d v
 | .non,v,d,h,e=>by unfold fP at e;cases e;unfold Rp at h;unfold a7;exact h
 | .bl b,v,d,h,e=>by unfold fP at e;cases e;unfold Rp at h;unfold a7;exact h
 | .int b,v,d,h,e=>by unfold fP at e;cases e;unfold Rp at h;unfold a7;exact h
 | .str b,v,d,h,e=>by unfold fP at e;cases e;unfold Rp at h;unfold a7;exact h
 | .tup us,v,d,h,e=>by
  unfold fP at e;cases e2:fU us with
  |none=>rw[e2] at e;cases e
  |some ds=>
   rw[e2] at e;cases e;unfold Rp at h;unfold a7;obtain⟨a,xs,r,q,l,z⟩:=h;exact⟨a,xs,r,jj.of q,nI z e2⟩
 | .lst us,v,d,h,e=>by
  unfold fP at e;cases e2:fU us with
  |none=>rw[e2] at e;cases e
  |some ds=>
   rw[e2] at e;cases e;unfold Rp at h;unfold a7;obtain⟨a,xs,r,_,q,l,z⟩:=h;exact⟨a,xs,r,gD.of q,nI z e2⟩
 | .dct _ _,v,d,h,e=>by unfold fP at e;cases e
 | .scr _,v,d,h,e=>by unfold fP at e;cases e
theorem nI {H:Hp}{A:ZY->Prop}:∀{us:List U} {vs:List V} {ds:List D},aO K H A us vs->fU us=some ds->ir K H ds vs
 | [],vs,ds,h,e=>by unfold fU at e;cases e;unfold aO at h;unfold ir;exact h
 |u::us,vs,ds,h,e=>by
  unfold fU at e;cases e1:fP u with
  |none=>rw[e1] at e;cases e
  |some d=>
   cases e2:fU us with
   |none=>rw[e1,e2] at e;cases e
   |some ds'=>
    rw[e1,e2] at e;cases e;unfold aO at h;unfold ir;obtain⟨x,r,q,p,z⟩:=h;exact⟨x,r,q,B8 p e1,nI z e2⟩
end
theorem yj {u:U}{d:D}(h:Pk K H A u v)(e:fP u=some d):a7 K H d v:=by
 cases u with
 |lst us=>
  unfold fP at e;cases e2:fU us with
  |none=>rw[e2] at e;cases e
  |some ds=>
   rw[e2] at e;cases e;unfold Pk at h;unfold a7;obtain⟨a,xs,r,q,l,z⟩:=h;exact⟨a,xs,r,gD.of q,nI z e2⟩
 |dct=>unfold fP at e;cases e
 |scr=>unfold fP at e;cases e
 |tup us=>exact B8 (A:=A) (by unfold Pk at h;unfold Rp;exact h) e
 |_=>exact B8 (A:=A) (by unfold Pk at h;unfold Rp;exact h) e
noncomputable def jO (u w:U):R Bool:=match fP u,fP w with
 |some d,some d'=>if cB d<=30 then .ok (iu d d') else .stk
 |_,_=>.stk
noncomputable def gc (f:Bool->Bool):U->U->R U:=λu w=>(jO u w).bind λb=>.ok (.bl (f b))
theorem a6 {f:Bool->Bool}:gy K (Pe K f) .S (gc f):=λA H x y u w z Q hx hy mu e q=>by
 unfold gc jO at e;obtain⟨b,e1,e2⟩:=R.bind_ok e;split at e1
 ·rename_i d d' h1 h2;split at e1
  ·rename_i hd;cases e1;cases e2;exact⟨d,d',yj hx h1,yj hy h2,hd,q _ H (aR.refl _) (show Rp K H A _ _ from iw)⟩
  ·cases e1
 ·cases e1
noncomputable def DV:U->Bool
 | .non=>true
 |_=>false
theorem Af {u:U}(h:Pk K H A u v):decide (v=.non)=DV u:=by
 cases u<;>unfold Pk at h
 case non=>subst h;rfl
 case tup=>obtain⟨a,xs,rfl,_⟩:=h;rfl
 case lst=>obtain⟨a,xs,rfl,_⟩:=h;rfl
 case dct=>obtain⟨a,xs,rfl,_⟩:=h;rfl
 case scr=>obtain⟨a,xs,rfl,_⟩:=h;rfl
 all_goals (subst h;rfl)
noncomputable def sR (f:Bool->Bool):U->U->R U:=λu w=>match w with
 | .non=>.ok (.bl (f (DV u)))
 |_=>.stk
theorem yk:gy K (λx y H Q=>y=.non/\Q (.bl (decide (x=.non))) H) .S (sR id):=λA H x y u w z Q hx hy mu e q=>by
 unfold sR at e;split at e
 ·cases e;refine⟨by unfold Pk at hy;exact hy,q _ H (aR.refl _) ?_⟩;rw[Af hx];rfl
 lia
theorem Ag:gy K (λx y H Q=>y=.non/\Q (.bl (!decide (x=.non))) H) .S (sR not):=λA H x y u w z Q hx hy mu e q=>by
 unfold sR at e;split at e
 ·cases e;refine⟨by unfold Pk at hy;exact hy,q _ H (aR.refl _) ?_⟩;rw[Af hx];exact (show Rp K H A _ _ from iw)
 ·cases e
noncomputable def Vj (f:Bool->Bool):U->U->R U:=λu w=>match u,w with
 | .bl a,.bl b=>.ok (.bl (f (decide (a=b))))
 |_,_=>.stk
theorem B9 {i:Int}(r:aO K H A us xs)(e:mx us i=some z):∃v,mx xs i=some v/\Rp K H A z v:=by
 unfold mx at e ⊢;rw[←r.length];cases h:zK us.length i with
 |none=>rw[h] at e;cases e
 |some j=>
  rw[h] at e;obtain⟨v,h1,h2⟩:=r.get (show us[j]? = some z from e);exact⟨v,h1,h2⟩
noncomputable def bD:U->U->R U:=λu w=>match u,w with
 | .lst us,.int i=>match mx us i with
  |some z=>.ok z
  |none=>.stk
 | .tup us,.int i=>match mx us i with
  |some z=>.ok z
  |none=>.stk
 | .scr us,.int i=>match mx us i with
  |some z=>.ok z
  |none=>.stk
 | .str x,.int i=>match mx x.cps.toList i with
  |some c=>if x.length<=ZH then .ok (.str ⟨(List.toArray [c])⟩) else .stk
  |none=>.stk
 |_,_=>.stk
noncomputable abbrev zqb (i:Nat)(n:Int):Ev->R (U×Ev):=aD bD (ag i) (zqc n)
theorem aw:gy K (WC K) .S bD:=λA H x y u w z Q hx hy mu e q=>by
 unfold bD at e;split at e
 ·split at e
  ·rename_i z' hz;cases e;unfold Pk at hx;obtain⟨a,xs,rfl,h1,l1,r1⟩:=hx;obtain⟨v,h2,h3⟩:=B9 r1 hz;exact .inl ⟨a,xs,_,v,rfl,hy.int,gD.of h1,h2,q _ H (aR.refl _) h3⟩
  ·cases e
 ·split at e
  ·rename_i z' hz;cases e;unfold Pk at hx;obtain⟨a,xs,rfl,h1,l1,r1⟩:=hx;obtain⟨v,h2,h3⟩:=B9 r1 hz;exact .inr (.inl ⟨a,xs,_,v,rfl,hy.int,jj.of h1,h2,q _ H (aR.refl _) h3⟩)
  ·cases e
 ·split at e
  ·rename_i z' hz;cases e;unfold Pk at hx;obtain⟨a,xs,rfl,h1,l1,r1⟩:=hx;obtain⟨v,h2,h3⟩:=B9 r1 hz;exact .inl ⟨a,xs,_,v,rfl,hy.int,h1.sq,h2,q _ H (aR.refl _) h3⟩
  ·cases e
 ·split at e
  ·rename_i z' hz;split at e
   ·rename_i hl;cases e;exact .inr (.inr ⟨_,_,z',hx.str,hy.int,hl,hz,q _ H (aR.refl _) (show Rp K H A _ _ from Pl)⟩)
   ·cases e
  ·cases e
 ·cases e
def zqa {X G x pos k j p q}(i:Nat)(hN:X.N[i]? = some x:=by rfl)(hv:Ku X.env.scope x:=by first|exact Or.inl rfl|exact Or.inr (Or.inl rfl)|exact Or.inr (Or.inr rfl))(hd:(x==("__debug__":Str))=false:=by decide)(vX:(x==("__classdict__":Str))=false:=by decide) (c:G.is i=false:=by rfl):DE X G (.Subscript (.Name x pos) (.Constant (.int k) j p) q) false .S (zqb i k):=az au aw (ai i hN hv hd vX c) aj λ_ _=>rfl
noncomputable def kF {α:Type}(xs:List α)(lo hi:Option Int):List α:=(xs.drop (HT.sIx xs.length 0 lo)).take (HT.sIx xs.length xs.length hi-HT.sIx xs.length 0 lo)
theorem mF {α:Type}(xs:List α)(lo hi:Option Int):(kF xs lo hi).length<=xs.length:=by
 unfold kF;rw[abx,acm];lia
def ym (r:aO K H A us xs)(lo hi:Option Int):aO K H A (kF us lo hi) (t_ xs lo hi):=by
 unfold kF t_;rw[←r.length];exact (r.drop _).take _
def gN:G7 X (λx lo hi H Q=>K9 X.K x lo hi H Q\/Hv X.K x lo hi H Q):=K_.or Lf
noncomputable def xr:U->Option Int->Option Int->R U:=λu lo hi=>match u with
 | .lst us=>.ok (.lst (kF us lo hi))
 | .scr us=>.ok (.lst (kF us lo hi))
 | .tup us=>.ok (.tup (kF us lo hi))
 |_=>.stk
noncomputable def RW:U->Option Int->Option Int->R U:=λu lo hi=>match u with
 | .lst us=>.ok (.lst (kF us lo hi))
 | .scr us=>.ok (.lst (kF us lo hi))
 |_=>.stk
theorem DX:HJ K (K9 K) .O RW:=λA H x u lo hi z Q hx mu e q=>by
 unfold RW at e;split at e
 ·cases e;unfold Pk at hx;obtain⟨a,xs,rfl,h1,l1,r1⟩:=hx;exact⟨a,xs,rfl,gD.of h1,λp hp=>q _ _ (cN hp _) ⟨p,rfl,hp,cq mu (ym r1 lo hi) hp (aaz (mF _ _ _) l1)⟩⟩
 ·cases e;unfold Pk at hx;obtain⟨a,xs,rfl,h1,l1,r1⟩:=hx;exact⟨a,xs,rfl,h1.sq,λp hp=>q _ _ (cN hp _) ⟨p,rfl,hp,cq mu (ym r1 lo hi) hp (aaz (mF _ _ _) l1)⟩⟩
 lia
theorem M5 {u:U}(mu:∀a,A a->Mu (H a))(vm:DH K .O A H H' u v):Rp K H' A u v:=by
 obtain⟨a,rfl,na,t⟩:=vm;exact t.rp (λb h=>.inl h) λh=>by have:=mu a h;rw[na] at this;exact this
theorem lH:HJ K (λx lo hi H Q=>K9 K x lo hi H Q\/Hv K x lo hi H Q) .S xr:=λA H x u lo hi z Q hx mu e q=>by
 unfold xr at e;split at e
 ·cases e;exact .inl (DX A H x _ lo hi _ Q hx mu rfl λv H' sm vm=>q v H' sm (M5 mu vm))
 ·cases e;exact .inl (DX A H x _ lo hi _ Q hx mu rfl λv H' sm vm=>q v H' sm (M5 mu vm))
 ·cases e;unfold Pk at hx;obtain⟨a,xs,rfl,h1,l1,r1⟩:=hx;refine .inr ⟨a,xs,rfl,h1,λr H' sm hr=>q _ H' sm (show Rp K H' A _ _ from ?_)⟩;unfold Rp;exact⟨r,_,rfl,hr,aaz (mF _ _ _) l1,(ym r1 lo hi).same sm⟩
 ·cases e
end L2
namespace L2
section
theorem B3.one {u:U}(h:B3 K H A [u] vs):∃v,vs=[v]/\Pk K H A u v:=by
 unfold B3 at h;obtain⟨x,r,rfl,p,q⟩:=h;unfold B3 at q;subst q;exact⟨x,rfl,p⟩
theorem B3.two {u w:U}(h:B3 K H A [u,w] vs):∃v v',vs=[v,v']/\Pk K H A u v/\Pk K H A w v':=by
 unfold B3 at h;obtain⟨x,r,rfl,p,q⟩:=h;obtain⟨v,rfl,q'⟩:=B3.one q;exact⟨x,v,rfl,p,q'⟩
noncomputable def cD:List U->R U:=λus=>match us with
 | [.lst xs]=>.ok (.int xs.length)
 | [.tup xs]=>.ok (.int xs.length)
 | [.scr xs]=>.ok (.int xs.length)
 | [.str x]=>if x.length<=ZH then .ok (.int x.length) else .stk
 |_=>.stk
theorem bg:mj K (λxs H Q=>∃x n,xs=[x]/\Rr K x H n/\Q (.int n) H) .S cD:=λA H vs us z Q h mu e q=>by
 unfold cD at e;split at e
 ·rename_i xs;cases e;obtain⟨v,rfl,p⟩:=h.one;unfold Pk at p;obtain⟨a,ys,rfl,h1,l1,r1⟩:=p;exact⟨_,xs.length,rfl,.inl ⟨ys,gD.of h1,r1.length⟩,q _ H (aR.refl _) (show Rp K H A _ _ from dE)⟩
 ·rename_i xs;cases e;obtain⟨v,rfl,p⟩:=h.one;unfold Pk at p;obtain⟨a,ys,rfl,h1,l1,r1⟩:=p;exact⟨_,xs.length,rfl,.inr ⟨ys,jj.of h1,r1.length⟩,q _ H (aR.refl _) (show Rp K H A _ _ from dE)⟩
 ·rename_i xs;cases e;obtain⟨v,rfl,p⟩:=h.one;unfold Pk at p;obtain⟨a,ys,rfl,h1,l1,r1⟩:=p;exact⟨_,xs.length,rfl,.inl ⟨ys,h1.sq,r1.length⟩,q _ H (aR.refl _) (show Rp K H A _ _ from dE)⟩
 ·rename_i x;split at e
  ·rename_i hl;cases e;obtain⟨v,rfl,p⟩:=h.one;have:=p.str;subst this;exact⟨_,x.length,rfl,⟨hl,rfl⟩,q _ H (aR.refl _) (show Rp K H A _ _ from dE)⟩
  lia
 lia
noncomputable def M6:List U->R U:=λus=>match us with
 | [.lst xs]=>.ok (.lst xs)
 | [.tup xs]=>.ok (.lst xs)
 |_=>.stk
noncomputable def jP:List U->R U:=λus=>match us with
 | [.lst xs]=>.ok (.tup xs)
 | [.tup xs]=>.ok (.tup xs)
 |_=>.stk
theorem iE:mj K (λxs H Q=>∃p ys,xs=[.ref p]/\((gD K H p ys/\∀l,H l=none->Q (.ref l) (cE H l (.tup ys)))\/(jj K H p ys/\Q (.ref p) H))) .S jP:=λA H vs us z Q h mu e q=>by
 unfold jP at e;split at e
 ·rename_i xs;cases e;obtain⟨v,rfl,p⟩:=h.one;unfold Pk at p;obtain⟨a,ys,rfl,h1,l1,r1⟩:=p;exact⟨a,ys,rfl,.inl ⟨gD.of h1,λl hl=>q _ _ (cN hl _) (xm r1 hl l1)⟩⟩
 ·rename_i xs;cases e;obtain⟨v,rfl,p⟩:=h.one;have p':=p;unfold Pk at p;obtain⟨a,ys,rfl,h1,l1,r1⟩:=p;refine⟨a,ys,rfl,.inr ⟨jj.of h1,q _ H (aR.refl _) (show Rp K H A _ _ from ?_)⟩⟩;unfold Rp;unfold Pk at p';exact p'
 lia
noncomputable def Lz:List U->R U:=λus=>match us with
 | [.int i]=>.ok (.int (if i<0 then -i else i))
 |_=>.stk
theorem DY:mj K (λxs H Q=>∃i,xs=[.int i]/\Q (.int (if i<0 then -i else i)) H) .S Lz:=λA H vs us z Q h mu e q=>by
 unfold Lz at e;split at e
 ·cases e;obtain⟨v,rfl,p⟩:=h.one;exact⟨_,by rw[p.int],q _ H (aR.refl _) (show Rp K H A _ _ from dE)⟩
 ·cases e
noncomputable def DZ:List U->R U:=λus=>match us with
 | [.int i,.int j]=>.ok (.int (if j>i then j else i))
 |_=>.stk
theorem HU:mj K (λxs H Q=>∃i j,xs=[.int i,.int j]/\Q (.int (if j>i then j else i)) H) .S DZ:=λA H vs us z Q h mu e q=>by
 unfold DZ at e;split at e
 ·cases e;obtain⟨v,w,rfl,p,p'⟩:=h.two;exact⟨_,_,by rw[p.int,p'.int],q _ H (aR.refl _) (show Rp K H A _ _ from dE)⟩
 ·cases e
noncomputable def D0:List U->R U:=λus=>match us with
 | [.int i,.int j]=>.ok (.int (if j<i then j else i))
 |_=>.stk
theorem HV:mj K (λxs H Q=>∃i j,xs=[.int i,.int j]/\Q (.int (if j<i then j else i)) H) .S D0:=λA H vs us z Q h mu e q=>by
 unfold D0 at e;split at e
 ·cases e;obtain⟨v,w,rfl,p,p'⟩:=h.two;exact⟨_,_,by rw[p.int,p'.int],q _ H (aR.refl _) (show Rp K H A _ _ from dE)⟩
 lia
noncomputable def PJ:List U->R U:=λus=>match us with
 | [.int i]=>.ok (.int i)
 | [.bl k]=>.ok (.int (if k then 1 else 0))
 |_=>.stk
theorem LA:mj K (λxs H Q=>(∃i,xs=[.int i]/\Q (.int i) H)\/∃k,xs=[.bl k]/\Q (.int (if k then 1 else 0)) H) .S PJ:=λA H vs us z Q h mu e q=>by
 unfold PJ at e;split at e
 ·cases e;obtain⟨v,rfl,p⟩:=h.one;exact .inl ⟨_,by rw[p.int],q _ H (aR.refl _) (show Rp K H A _ _ from dE)⟩
 ·cases e;obtain⟨v,rfl,p⟩:=h.one;exact .inr ⟨_,by rw[p.bl],q _ H (aR.refl _) (show Rp K H A _ _ from dE)⟩
 ·cases e
noncomputable def jq:List U->Option (List Int)
 | []=>some []
 | .int i::us=>(jq us).map (i::·)
 |_::_=>none
noncomputable def mG:List U->Option (List Bool)
 | []=>some []
 | .bl i::us=>(mG us).map (i::·)
 |_::_=>none
theorem kq:∀{us:List U} {ns:List Int},jq us=some ns->us=ns.map .int
 | [],ns,h=>by unfold jq at h;cases h;rfl
 |u::us,ns,h=>by
  cases u<;>unfold jq at h<;>try cases h
  rename_i i;cases e:jq us with
  |none=>rw[e] at h;cases h
  |some ms=>rw[e] at h;cases h;rw[kq e];rfl
theorem Ah:∀{us:List U} {ns:List Bool},mG us=some ns->us=ns.map .bl
 | [],ns,h=>by grind[mG]
 |u::us,ns,h=>by
  cases u<;>unfold mG at h<;>try cases h
  rename_i i;cases e:mG us with
  |none=>rw[e] at h;cases h
  |some ms=>rw[e] at h;cases h;rw[Ah e];rfl
theorem aO.toI {H:Hp}{A:ZY->Prop}:∀{ns:List Int} {vs:List V},aO K H A (ns.map .int) vs->vs=ns.map V.int
 | [],vs,h=>by rw[abj] at h;unfold aO at h;exact h
 |n::ns,vs,h=>by
  rw[ZR] at h;unfold aO at h;obtain⟨x,r,rfl,p,q⟩:=h;unfold Rp at p;rw[p,aO.toI q];rfl
theorem aO.toB {H:Hp}{A:ZY->Prop}:∀{ns:List Bool} {vs:List V},aO K H A (ns.map .bl) vs->vs=ns.map V.bl
 | [],vs,h=>by rw[abj] at h;unfold aO at h;exact h
 |n::ns,vs,h=>by
  rw[ZR] at h;unfold aO at h;obtain⟨x,r,rfl,p,q⟩:=h;unfold Rp at p;rw[p,aO.toB q];rfl
theorem mH {H:Hp}{A:ZY->Prop}:∀(ns:List Int),aO K H A (ns.map .int) (ns.map V.int)
 | []=>aO.nil
 |n::ns=>aO.cons dE (mH ns)
noncomputable def B_:List U->R U:=λus=>match us with
 | [.lst xs]=>match mG xs with
  |some bs=>.ok (.bl (bs.all id))
  |none=>.stk
 |_=>.stk
theorem D1:mj K (λxs H Q=>∃(p:ZY) (bs:List Bool),xs=[.ref p]/\gD K H p (bs.map V.bl)/\Q (.bl (bs.all id)) H) .S B_:=λA H vs us z Q h mu e q=>by
 unfold B_ at e;split at e
 ·rename_i xs;split at e
  ·rename_i bs hb;cases e;obtain⟨v,rfl,p⟩:=h.one;unfold Pk at p;obtain⟨a,ys,rfl,h1,l1,r1⟩:=p;rw[Ah hb] at r1;rw[r1.toB] at h1;exact⟨a,bs,rfl,gD.of h1,q _ H (aR.refl _) (show Rp K H A _ _ from iw)⟩
  ·cases e
 ·cases e
noncomputable def FC (x:Int):List Int->List Int
 | []=>[x]
 |y::r=>if y<x then y::FC x r else x::y::r
noncomputable def kr (ns:List Int):List Int:=ns.foldr FC []
theorem qL (x:Int):∀l,(FC x l).Perm (x::l)
 | []=>.refl _
 |y::r=>by
  unfold FC;split
  ·exact ((qL x r).cons y).trans (.swap x y r)
  ·exact .refl _
theorem fV:∀ns:List Int,(kr ns).Perm ns
 | []=>.refl _
 |x::l=>(qL x _).trans ((fV l).cons x)
theorem D2 (x:Int):∀{l:List Int},l.Pairwise (·<=·)->(FC x l).Pairwise (·<=·)
 | [],_=>aaA _ _
 |y::r,h=>by
  obtain⟨h1,h2⟩:=aaa.mp h;unfold FC;split
  ·refine aaa.mpr ⟨λz hz=>?_,D2 x h2⟩;rcases ZK.mp ((qL x r).mem_iff.mp hz) with rfl|hz
   ·lia
   ·exact h1 z hz
  ·refine aaa.mpr ⟨λz hz=>?_,h⟩;rcases ZK.mp hz with rfl|hz
   ·lia
   ·have:=h1 z hz;lia
theorem uF:∀ns:List Int,(kr ns).Pairwise (·<=·)
 | []=>List.Pairwise.nil
 |x::l=>D2 x (uF l)
noncomputable def kG:List U->R U:=λus=>match us with
 | [.lst xs]=>match jq xs with
  |some ns=>if ns.length<64 then .ok (.lst ((kr ns).map .int)) else .stk
  |none=>.stk
 | [.tup xs]=>match jq xs with
  |some ns=>if ns.length<64 then .ok (.lst ((kr ns).map .int)) else .stk
  |none=>.stk
 |_=>.stk
theorem qM:mj K (λxs H Q=>∃(p:ZY) (ns:List Int),xs=[.ref p]/\(gD K H p (ns.map V.int)\/jj K H p (ns.map V.int))/\ns.length<64/\
  ∀(l:ZY) (rF:List Int),H l=none->rF.Perm ns->rF.Pairwise (·<=·)->Q (.ref l) (cE H l (.lst (rF.map V.int)))) .O kG:=λA H vs us z Q h mu e q=>by
 have fin:∀(ns:List Int),ns.length<64->z=.lst ((kr ns).map .int)->∀(l:ZY) (rF:List Int),H l=none->rF.Perm ns->rF.Pairwise (·<=·)->Q (.ref l) (cE H l (.lst (rF.map V.int))):=λns hl hz l rF hn hp hw=>by
  have e:rF=kr ns:=PySem.W.ksm_same (hp.trans (fV ns).symm) hw (uF ns);subst e hz;refine q _ _ (cN hn _) ⟨l,rfl,hn,cq mu (mH _) hn ?_⟩;have:ZH=16777216:=rfl;rw[Zz,(fV ns).length_eq];lia
 unfold kG at e;split at e
 ·rename_i xs;split at e
  ·rename_i ns hb;split at e
   ·rename_i hl;cases e;obtain⟨v,rfl,p⟩:=h.one;unfold Pk at p;obtain⟨a,ys,rfl,h1,l1,r1⟩:=p;rw[kq hb] at r1;rw[r1.toI] at h1;exact⟨a,ns,rfl,.inl (gD.of h1),hl,fin ns hl rfl⟩
   ·cases e
  ·cases e
 ·rename_i xs;split at e
  ·rename_i ns hb;split at e
   ·rename_i hl;cases e;obtain⟨v,rfl,p⟩:=h.one;unfold Pk at p;obtain⟨a,ys,rfl,h1,l1,r1⟩:=p;rw[kq hb] at r1;rw[r1.toI] at h1;exact⟨a,ns,rfl,.inr (jj.of h1),hl,fin ns hl rfl⟩
   ·cases e
  ·cases e
 ·cases e
noncomputable def Vk (ks:List U):String:=match ks with
 | .tup _::_=>"script"
 |_=>"dict"
noncomputable def Kx:U->String
 | .non=>"NoneType"
 | .bl _=>"bool"
 | .int _=>"int"
 | .str _=>"str"
 | .tup _=>"tuple"
 | .lst _=>"list"
 | .dct ks _=>Vk ks
 | .scr _=>"script"
theorem M7 {u:U}(h:Pk K H A u v)(hs:Kx u≠"script"):wm K H v (Kx u):=by
 cases u<;>unfold Pk at h
 case scr=>exact absurd rfl hs
 case non=>subst h;exact .non
 case bl=>subst h;exact .bl _
 case int=>subst h;exact .int _
 case str=>subst h;exact .str _
 case tup=>obtain⟨a,xs,rfl,h1,_⟩:=h;exact .tup h1
 case lst=>
  obtain⟨a,xs,rfl,h1,_⟩:=h;exact .lst h1
 case dct=>
  obtain⟨a,xs,rfl,h1,_⟩:=h;rcases h1 with⟨k,h1,e,_⟩|⟨k,n,h1,e,_⟩
  ·have:Vk (k.map λp=>kU p.1)="dict":=by
    cases k with
    |nil=>rfl
    |cons p k=>
     obtain⟨p1,p2⟩:=p;cases p1<;>rfl
   show wm K H _ (Vk _);rw[e,this];exact .dK h1
  ·refine absurd e λe=>?_;cases k with
   |nil=>exact n rfl
   |cons p k=>rw[e] at hs;exact hs rfl
variable {e:abd}{p1 p2:Pos}{b1:Bool}{m1:Md}{g1:Ev->R (U×Ev)}
noncomputable def jQ (T:String)(g:Ev->R (U×Ev)):Ev->R (U×Ev):=λρ=>(g ρ).bind λx=>if Kx x.1="script" then .stk else .ok (.bl (iU (Kx x.1) T),x.2)
theorem gO (hT:T∈["bool","int","str","list","tuple","dict"])(he:DE X G e b1 m1 g1)(zi:X.mg "isinstance"=none)(zt:X.mg x=none)(bt:aai x=some (.type T))(hg:Gl X "isinstance":=by rfl)(ht:Gl X x:=by rfl)(hn:x≠"__name__":=by decide)(hd:(x==("__debug__":Str))=false:=by decide)(hs:ZX [e,.Name x p2] X.env=(false,acP e X.env)::ZX [.Name x p2] X.env:=by rfl)(cV:ZX [.Name x p2] X.env=(false,acP (.Name x p2) X.env)::ZX [] X.env:=by rfl)(sJ:(abL pos (ZX [.Name x p2] X.env)).any (·.1)=false:=by rfl) :
  DE X G (.Call (.Name "isinstance" p1) [e,.Name x p2] [] pos) b1 .S (jQ T g1):=⟨(mw (zT (m:=T) hT) hg zi oo (eN he.un (eN (xY (v:=.ty T) ht zt bt rfl hn hd) kD cV) hs) (by decide) (by decide) hs sJ).to λσ H Q h=>by
 obtain⟨Z,A,ρ,q,f⟩:=h;obtain⟨⟨u,ρ1⟩,e1,f⟩:=f.bind;refine⟨Z,A,ρ,q,?_⟩;rw[e1];intro v H1 q1 x1 s1 vm;dsimp only at f;split at f
 ·exact f.elim
 ·rename_i hn;exact⟨v,_,rfl,M7 vm.pk hn,f _ H1 q1 x1 s1 (xl.ofS iw)⟩⟩
noncomputable def Ca (i j:Int):Bool:=decide (-1000000<=i)&&decide (i<=1000000)&&decide (-1000000<=j)&&decide (j<=1000000)
noncomputable def mI (g:Ev->R (List U×Ev)):Ev->R (U×Ev):=λρ=>(g ρ).bind λx=>match x.1 with
 | [.int j]=>if Ca 0 j=true then .ok (.lst (bY 0 (j-0).toNat),x.2) else .stk
 |_=>.stk
noncomputable def RX (g:Ev->R (List U×Ev)):Ev->R (U×Ev):=λρ=>(g ρ).bind λx=>match x.1 with
 | [.int j]=>if Ca 0 j=true then .ok (.tup (bY 0 (j-0).toNat),x.2) else .stk
 |_=>.stk
def FD (lo:Int)(n:Nat):aO K H A (bY lo n) ((aas n).map λi=>V.int (lo+(i:Nat))):=by
 unfold bY;have e1:(aas n).map (λi=>U.int (lo+(i:Nat)))=((aas n).map λi=>lo+(i:Nat)).map U.int:=by rw[aaZ];rfl
 have e2:(aas n).map (λi=>V.int (lo+(i:Nat)))=((aas n).map λi=>lo+(i:Nat)).map V.int:=by rw[aaZ];rfl
 rw[e1,e2];exact mH _
def iF (lo:Int)(n:Nat):(bY lo n).length=n:=by unfold bY;simp
variable {ga:Ev->R (List U×Ev)}{a:abd}{p3 p4:Pos}
theorem nJ (hc:X.calm=true)(ha:DA X G [a] b1 false ga)(zl:X.mg "list"=none)(zr:X.mg "range"=none)(hg:Gl X "list":=by rfl)(TN:Gl X "range":=by rfl)
  (hs:ZX [.Call (.Name "range" p3) [a] [] p4] X.env=(false,acP (.Call (.Name "range" p3) [a] [] p4) X.env)::ZX [] X.env:=by rfl) (cV:ZX [a] X.env=(false,acP a X.env)::ZX [] X.env:=by rfl)
  (sJ:(abL pos (ZX [] X.env)).any (·.1)=false:=by rfl) (Kp:(abL p4 (ZX [] X.env)).any (·.1)=false:=by rfl):DE X G (.Call (.Name "list" p1) [.Call (.Name "range" p3) [a] [] p4] [] pos) b1 .O (mI ga):=⟨(kS (wq hc) hg zl tN (eN (kS zU TN zr Hr ha.un (by decide) (by decide) cV Kp) kD hs) (by decide) (by decide) hs sJ).to λσ H Q h=>by
 obtain⟨Z,A,ρ,q,f⟩:=h;obtain⟨⟨us,ρ1⟩,e1,f⟩:=f.bind;refine⟨Z,A,ρ,q,?_⟩;rw[e1];intro vs H1 q1 x1 s1 vm;dsimp only at f;split at f
 ·rename_i j;split at f
  ·rename_i hj;have r:=vm.rps;unfold aO at r;obtain⟨v,vr,rfl,r1,r2⟩:=r;unfold aO at r2;subst r2;unfold Rp at r1;subst r1;unfold Ca at hj;simp only[Z3,decide_eq_true_eq] at hj;refine⟨j,rfl,λp hp=>⟨p,0,j,rfl,bC,(by lia),(by lia),λl hl=>?_⟩⟩;have sp:=cN hp (.rng 0 j);have sl:=cN hl (.lst ((aas (j-0).toNat).map λi=>V.int (0+(i:Nat))));exact f _ _ ((q1.same sp).same sl) (x1.trans (fB.same (sp.trans sl))) (pJ s1 (sp.trans sl)) (DH.e (q1.same sp) sl ⟨l,rfl,hl,cq (q1.same sp).mu (FD 0 _) hl (by rw[iF];have:ZH=16777216:=rfl;lia)⟩)
  ·exact f.elim
 ·exact f.elim⟩
noncomputable def lJ:U->List U->R (U×U):=λu us=>match u,us with
 | .lst xs,[y]=>if xs.length<ZH then .ok (.non,.lst (xs++[y])) else .stk
 |_,_=>.stk
def qN {a:ZY}(o:HO):∀b u,b≠a->H b=some u->cE H a o b=some u:=λb u nb z=>by rw[bq nb];exact z
def tQ {a:ZY}(mu:∀a,A a->Mu (H a))(ha:A a)(r:aO K H A us xs)(l:us.length<=ZH):mB K (cE H a (.lst xs)) A (.lst us) a:=
 ⟨xs,bC,l,r.re mu (λb o nb z=>qN _ b o (λy=>nb (y▸ha)) z) λb z=>.inl z⟩
theorem oR:HG K "list" Dy lJ:=λA H a u vs us z w Q t ha r mu e q=>by
 unfold lJ at e;split at e
 ·rename_i xs y;split at e
  ·rename_i hl;cases e;obtain⟨ys,h1,l1,r1⟩:=t;unfold aO at r;obtain⟨v,vr,rfl,p,r2⟩:=r;unfold aO at r2;subst r2;exact⟨a,ys,v,rfl,rfl,h1,by rw[←r1.length];exact hl,q _ _ (qN _) (tQ mu ha (r1.append (aO.cons p aO.nil)) (by rw[ZJ];exact hl)) uu⟩
  lia
 lia
def Ai:V->List V->Hp->VK->Prop:=λx vs H Q=>∃l b xs zs,x=.ref l/\vs=[.ref b]/\H l=some (.lst xs)/\H b=some (.lst zs)/\xs.length+zs.length<=ZH/\Q .non (cE H l (.lst (xs++zs)))
theorem Cb:MT X "list.extend" Ai:=by
 intro pins s σ H x vs v us Q I rx rv h;obtain⟨l,b,xs,zs,rfl,rfl,hH,hB,hz,q⟩:=h;cases rx;obtain⟨u,rfl,ru⟩:=rv.one;cases ru;obtain⟨z,its,n,r,hl,e⟩:=I.lstM hH;obtain⟨z2,its2,n2,r2,QJ,e2⟩:=I.lstM hB;have hsz:its.toArray.size+its2.toArray.size<=ZH:=by rw[ZI,ZI];lia
 have Ko:¬(!its.toArray.isEmpty&&ab3 (its.toArray.size+its2.toArray.size))=true:=by
  rw[zL hsz,adA];exact ZE
 refine call_meets F.slot_list_extend ⟨_,e,rfl⟩ F.entry_list_extend (F.args_list_extend_2 _ _)
  (PySem.AutoSeq1.list_extend_list_list_0 l its.toArray n b its2.toArray n2 Ko (by rw[ZI];lia) (by lia)) ⟨e,e2,?_⟩
 refine⟨.non,_,I.lset (its':=its++its2) hH e (by simp) (r.append r2) ?_,rfl,q⟩;rw[ZJ];lia
def M8:V->List V->Hp->VK->Prop:=λx vs H Q=>Ai x vs H Q\/zV x vs H Q
def nK:MT X "list.extend" M8:=Cb.or BY
noncomputable def gP:U->List U->R (U×U):=λu us=>match u,us with
 | .lst xs,[.lst ys]=>if xs.length+ys.length<=ZH then .ok (.non,.lst (xs++ys)) else .stk
 | .lst xs,[.tup ys]=>if xs.length+ys.length<=ZH then .ok (.non,.lst (xs++ys)) else .stk
 |_,_=>.stk
theorem iG:HG K "list" M8 gP:=λA H a u vs us z w Q t ha r mu e q=>by
 unfold gP at e;split at e
 ·rename_i xs ys;split at e
  ·rename_i hl;cases e;obtain⟨zs,h1,l1,r1⟩:=t;unfold aO at r;obtain⟨v,vr,rfl,p,r2⟩:=r;unfold aO at r2;subst r2;unfold Rp at p;obtain⟨b,ws,rfl,nb,h2,l2,r3⟩:=p;exact .inl ⟨a,b,zs,ws,rfl,rfl,h1,h2,by rw[←r1.length,←r3.length];exact hl,q _ _ (qN _) (tQ mu ha (r1.append r3) (by rw[ZJ];exact hl)) uu⟩
  lia
 ·rename_i xs ys;split at e
  ·rename_i hl;cases e;obtain⟨zs,h1,l1,r1⟩:=t;unfold aO at r;obtain⟨v,vr,rfl,p,r2⟩:=r;unfold aO at r2;subst r2;unfold Rp at p;obtain⟨b,ws,rfl,h2,l2,r3⟩:=p;exact .inr ⟨a,b,zs,ws,rfl,rfl,h1,h2,by rw[←r1.length,←r3.length];exact hl,q _ _ (qN _) (tQ mu ha (r1.append r3) (by rw[ZJ];exact hl)) uu⟩
  lia
 lia
noncomputable def qO:U->List U->R (U×U):=λu us=>match u,us with
 | .lst xs,[.int i]=>if -9223372036854775808<=i/\i<9223372036854775808 then (match aeG i xs.length with
  |some k=>match xs[k]? with
   |some y=>.ok (y,.lst (xs.eraseIdx k))
   |none=>.stk
  |none=>.stk) else .stk
 |_,_=>.stk
theorem aO.erase {H:Hp}{A:ZY->Prop}:∀{us:List U} {vs:List V} (n:Nat),aO K H A us vs->aO K H A (us.eraseIdx n) (vs.eraseIdx n)
 | [],vs,n,h=>by unfold aO at h;subst h;exact aO.nil
 |u::us,vs,0,h=>by
  unfold aO at h;obtain⟨x,r,rfl,p,q⟩:=h;exact q
 |u::us,vs,n+1,h=>by
  unfold aO at h;obtain⟨x,r,rfl,p,q⟩:=h;exact aO.cons p (aO.erase n q)
theorem FE:HG K "list" G_ qO:=λA H a u vs us z w Q t ha r mu e q=>by
 unfold qO at e;split at e
 ·rename_i xs i;split at e
  ·rename_i hi;split at e
   ·rename_i k hk;split at e
    ·rename_i y hy;cases e;obtain⟨zs,h1,l1,r1⟩:=t;unfold aO at r;obtain⟨v,vr,rfl,p,r2⟩:=r;unfold aO at r2;subst r2;unfold Rp at p;subst p;obtain⟨v,h2,h3⟩:=r1.get hy;exact⟨a,zs,i,k,v,rfl,rfl,h1,by lia,by lia,by rw[←r1.length];exact hk,h2,q _ _ (qN _) (tQ mu ha (r1.erase k) (aaz (List.length_eraseIdx_le _ _) l1)) (h3.re mu (λb o nb z=>qN _ b o (λy=>nb (y▸ha)) z) λb z=>.inl z)⟩
    lia
   lia
  lia
 lia
end
end L2
namespace L2
section
variable {m:Md}
def Cc:gy K (BM λi j=>.bl (decide (i<j))) .S PH:=DU
def yn:gy K (BM λi j=>.bl (decide (i<=j))) .S Ly:=DU
def mJ:gy K (BM λi j=>.bl (decide (j<i))) .S FA:=DU
def PL:gy K (BM λi j=>.bl (decide (j<=i))) .S Vi:=DU
theorem jy {TQ:List aca}:B6 X G m TQ (λ_=>.stk):=⟨λpins s σ H D I h=>by
 obtain⟨Z,A,ρ,q,f⟩:=h;exact f.elim⟩
noncomputable def Vl:Ev->R (U×Ev):=λρ=>.ok (.dct [] [],ρ)
theorem HW:DE X G (.Dict [] [] pos) false .O Vl:=⟨zP.to λσ H Q h=>by
 obtain⟨Z,A,ρ,q,f⟩:=h;intro a na;have sn:=cN na (.dK []);exact f _ _ (q.same sn) (fB.same sn) (λ_=>⟨rfl,sn⟩) (DH.e q sn ⟨a,rfl,na,[],.inl ⟨[],bC,rfl,rfl⟩,aaI _,aO.nil⟩)⟩
end
end L2
namespace L2
def RY (H:Hp)(a:ZY)(y:V)(o:Option V):Prop:=Lb H a y o\/∃es k b,gG H a es/\y=.ref b/\B1 H k b/\o=jk es k
def RZ (H:Hp)(a:ZY):Prop:=WE H a\/∃es,gG H a es
section
variable {d:V}{u r:ZF}{o:Option V}{A:aar}
theorem HX (I:aN X pins σ H s)(g:RY H a y o):s.TypeIs (.ref a) "dict":=by
 rcases g with g|⟨es,k,b,g,_⟩
 ·exact rN I g
 ·exact g.typeIs I
theorem R0 (I:aN X pins σ H s)(d:RZ H a):s.TypeIs (.ref a) "dict"/\(∀b,Value.ref a=.ref b->∃ob,s.heap.get? b=some ob/\ob.dict=none):=by
 rcases d with d|⟨es,d⟩
 ·obtain⟨x,y,_⟩:=Pc I d;exact⟨x,y⟩
 ·exact⟨d.typeIs I,d.noDict I⟩
theorem FF (hu:A.units+64<abn)(I:aN X pins σ H s)(g:RY H a y (some v))(ry:bA y u)(h:∀w' s',aN X pins σ H s'->bA v w'->Q w' s') :
  Z1 (Z8 X.prog X.w) A (ad5 (.ref a) u) Q E s:=by
 rcases g with g|⟨es,k,b,g,rfl,kb,e⟩
 ·exact xi (by lia) I g ry h
 ·cases ry;exact Fu hu I g kb e.symm h
end
def R1 (td ty:TE):TE:=λσ H Q=>td σ H λx H1=>ty σ H1 λy H2=>∃a v,x=.ref a/\RY H2 a y (some v)/\Q v H2
section
variable {o i e f value:abd}{nv jc cpos:Pos}{td ty tv tx:TE}
theorem LB (hu:X.A.units+64<abn)(ho:PE X o td)(hi:PE X i ty)(hs:Hi i):PE X (.Subscript o i pos) (R1 td ty):=by
 intro pins s σ H Q I h;refine DC PySem.F.slot_dict_getitem.lookup hs (eK (ho pins s σ H _ I h) λu s1 ⟨x,H1,I1,rx,q1⟩=>eK (hi pins s1 σ H1 _ I1 q1) λiv s2 ⟨y,H2,I2,ry,a,v,ex,g,q2⟩=>?_);subst ex;obtain rfl:u=Value.ref a:=rx;exact⟨HX I2 g,FF hu I2 g ry λw' s3 I3 BB=>⟨v,H2,I3,BB,q2⟩⟩
end
noncomputable def HY:U->Bool
 | .int _=>true
 | .str _=>true
 |_=>false
mutual
noncomputable def yo:U->Bool
 | .int _=>true
 | .tup us=>HZ us
 |_=>false
noncomputable def HZ:List U->Bool
 | []=>true
 |u::us=>yo u&&HZ us
end
noncomputable def H9:U->Bool
 | .tup us=>HZ us&&decide (BZ us<=6)
 |_=>false
noncomputable def H_:U->Bool
 | .tup _=>true
 |_=>false
noncomputable def Ia (ks:List U)(k:U):Bool:=(HY k&&ks.all HY)||(H9 k&&ks.all H_)
noncomputable def gQ:List U->List U->U->Option U
 |k'::ks,u::us,k=>if k'=k then some u else gQ ks us k
 |_,_,_=>none
noncomputable def l7 (ks us:List U)(k v:U):List U:=if k∈ks then aba (λk' u=>if k'=k then v else u) ks us else us++[v]
noncomputable def mK (ks:List U)(k:U):List U:=if k∈ks then ks else ks++[k]
mutual
theorem R3:∀{u:U} {v:V},yo u=true->Rp K H A u v->KH H u v
 | .int i,v,_,h=>by unfold Rp at h;unfold KH;exact h
 | .tup us,v,k,h=>by
  unfold yo at k;unfold Rp at h;unfold KH;obtain⟨a,xs,r,q,l,z⟩:=h;exact⟨a,xs,r,q,l,Cd k z⟩
 | .non,v,k,h=>by unfold yo at k;cases k
 | .bl _,v,k,h=>by unfold yo at k;cases k
 | .str _,v,k,h=>by unfold yo at k;cases k
 | .lst _,v,k,h=>by unfold yo at k;cases k
 | .dct _ _,v,k,h=>by unfold yo at k;cases k
 | .scr _,v,k,h=>by unfold yo at k;cases k
theorem Cd:∀{us:List U} {vs:List V},HZ us=true->aO K H A us vs->uo H us vs
 | [],vs,_,h=>by unfold aO at h;unfold uo;exact h
 |u::us,vs,k,h=>by
  unfold HZ at k;rw[Z3] at k;unfold aO at h;unfold uo;obtain⟨x,r,q,p,z⟩:=h;exact⟨x,r,q,R3 k.1 p,Cd k.2 z⟩
end
theorem Ib (k:H9 (.tup us)=true)(h:Rp K H A (.tup us) v):∃b,v=.ref b/\B1 H us b:=by
 unfold H9 at k;rw[Z3] at k;unfold Rp at h;obtain⟨a,xs,r,q,l,z⟩:=h;exact⟨a,r,of_decide_eq_true k.2,xs,q,l,Cd k.1 z⟩
theorem R4 {u:U}(k:HY u=true)(h:Rp K H A u v):∃q:Key,u=kU q/\v=kV q:=by
 cases u<;>first|(cases k;done)|skip
 ·unfold Rp at h;exact⟨.inl _,rfl,h⟩
 ·unfold Rp at h;exact⟨.inr _,rfl,h⟩
theorem PM {a b:Key}(h:kU a=kU b):a=b:=by
 cases a<;>cases b<;>unfold kU at h<;>first|(cases h;rfl)|cases h
theorem Ce {k:Key}:∀{bE:List (Key×V)} {us:List U},aO K H A us (bE.map (·.2))->(∀u,gQ (bE.map λp=>kU p.1) us (kU k)=some u->∃v,pD bE k=some v/\Rp K H A u v)/\(gQ (bE.map λp=>kU p.1) us (kU k)=none->pD bE k=none)
 | [],us,r=>⟨(λu h=>by unfold gQ at h;cases h),λ_=>rfl⟩
 |p::bE,us,r=>by
  cases us with
  |nil=>unfold aO at r;cases r
  |cons u us=>
   unfold aO at r;obtain⟨x,rr,e,h1,h2⟩:=r;cases e;rw[ZR];unfold gQ;by_cases c:p.1=k
   ·rw[hV (by rw[c]),uc c];exact⟨λw h=>by cases h;exact⟨_,rfl,h1⟩,λh=>by cases h⟩
   ·rw[hU (λz=>c (PM z)),ud c];exact Ce h2
theorem Cf {k:List U}:∀{es:List (List U×ZY×V)} {us:List U},aO K H A us (es.map (·.2.2))->(∀u,gQ (es.map λp=>.tup p.1) us (.tup k)=some u->∃v,jk es k=some v/\Rp K H A u v)/\(gQ (es.map λp=>.tup p.1) us (.tup k)=none->jk es k=none)
 | [],us,r=>⟨(λu h=>by unfold gQ at h;cases h),λ_=>rfl⟩
 |p::es,us,r=>by
  cases us with
  |nil=>unfold aO at r;cases r
  |cons u us=>
   unfold aO at r;obtain⟨x,rr,e,h1,h2⟩:=r;cases e;rw[ZR];unfold gQ jk;rw[aa2];by_cases c:p.1=k
   ·grind
   ·rw[hU (λz=>c (pH.mp z)),hJ c];exact Cf h2
theorem PN {k:U}(d:Fv H a ks xs)(r:aO K H A us xs)(f:Ia ks k=true)(hk:Rp K H A k y) :
  ∃o,RY H a y o/\(∀u,gQ ks us k=some u->∃v,o=some v/\Rp K H A u v)/\(gQ ks us k=none->o=none):=by
 unfold Ia at f;rw[ab6,Z3,Z3] at f;rcases d with⟨bE,h,e1,e2⟩|⟨es,n,h,e1,e2⟩
 ·rcases f with⟨f1,f2⟩|⟨f1,f2⟩
  ·obtain⟨q,rfl,rfl⟩:=R4 f1 hk;subst e1 e2;exact⟨_,.inl (.inl ⟨bE,q,.inl h,rfl,rfl⟩),(Ce r).1,(Ce r).2⟩
  ·cases bE with
   |nil=>
    subst e1 e2;cases k<;>first|(cases f1;done)|skip
    rename_i kk;obtain⟨b,rfl,kt⟩:=Ib f1 hk;exact⟨none,.inr ⟨[],kk,b,⟨.inr ⟨rfl,h⟩,adB,(λe he=>by cases he)⟩,rfl,kt,rfl⟩,(λu z=>by unfold gQ at z;cases z),λ_=>rfl⟩
   |cons p bE=>
    exfalso;subst e1;rw[ZR,ace,Z3] at f2;obtain⟨p1,p2⟩:=p;cases p1<;>cases f2.1
 ·rcases f with⟨f1,f2⟩|⟨f1,f2⟩
  ·exfalso;subst e1;cases es with
   |nil=>exact n rfl
   |cons p es=>rw[ZR,ace,Z3] at f2;cases f2.1
  ·subst e1 e2;cases k<;>first|(cases f1;done)|skip
   rename_i kk;obtain⟨b,rfl,kt⟩:=Ib f1 hk;exact⟨_,.inr ⟨es,kk,b,h,rfl,kt,rfl⟩,(Cf r).1,(Cf r).2⟩
end L2
namespace L2
def aO.snoc {u:U}(h:aO K H A us vs)(p:Rp K H A u v):aO K H A (us++[u]) (vs++[v]):=h.append (aO.cons p aO.nil)
section
variable {o i e f value:abd}{nv jc cpos p1 p2:Pos}{b1 b2 b3:Bool}{m m1 m2 m3:Md}{g1 g2 g3:Ev->R (U×Ev)}{y:Str}
noncomputable def FG:U->U->R U:=λu w=>match u with
 | .dct ks us=>if Ia ks w=true then (match gQ ks us w with
  |some z=>.ok z
  |none=>.stk) else .stk
 |_=>.stk
theorem R5 {u:U}(h:Pk K H A u v)(c:HY u=true\/H_ u=true):Rp K H A u v:=by
 cases u<;>first|(exfalso;rcases c with c|c<;>cases c;done)|(unfold Pk at h;unfold Rp;exact h)
theorem LC {k:U}(f:Ia ks k=true):HY k=true\/H_ k=true:=by
 unfold Ia at f;rw[ab6,Z3,Z3] at f;rcases f with⟨f,_⟩|⟨f,_⟩
 ·exact .inl f
 ·cases k<;>first|(cases f;done)|exact .inr rfl
theorem Cg (hu:X.A.units+64<abn)(ha:DE X G o b1 m1 g1)(hb:DE X G i b2 m2 g2)(hs:Hi i:=by intro _ _;rfl)(hm:m1=.P->b2=false:=by first|exact λ_=>rfl|exact λh=>nomatch h):DE X G (.Subscript o i pos) (b1||b2) .S (aD FG g1 g2):=⟨(LB hu ha.un hb.un hs).to λσ H Q h=>by
 have hp:gy X.K (λx y H Q=>∃a v,x=.ref a/\RY H a y (some v)/\Q v H) .S FG:=λA H x y u w z Q hx hy mu e q=>by
  unfold FG at e;split at e;rotate_left
  ·cases e
  split at e
  ·rename_i fk;split at e
   ·rename_i z' hz;cases e;unfold Pk at hx;obtain⟨a,xs,rfl,d,l,r⟩:=hx;obtain⟨ov,g,q1,_⟩:=PN d r fk (R5 hy (LC fk));obtain⟨v,rfl,rp⟩:=q1 _ hz;exact⟨a,v,rfl,g,q v H (aR.refl _) rp⟩
   ·cases e
  ·cases e
 exact pL hp hm h⟩
end
end L2
namespace Hc.Sx
open PySem.SetTable
noncomputable def jr:Nat->Nat
 |0=>0
 |n+1=>5*jr n+1
theorem D3 (n:Nat):5 ^ n=4*jr n+1:=by
 induction n with
 |zero=>rfl
 |succ n ih=>rw[abD,ih];show _=4*(5*jr n+1)+1;lia
theorem LD (m n:Nat):jr (m+n)=5 ^ n*jr m+jr n:=by
 induction n with
 |zero=>simp[jr]
 |succ n ih=>
  show 5*jr (m+n)+1=5 ^ (n+1)*jr m+(5*jr n+1);rw[ih,abD,abP (5 ^ n) 5,Nat.mul_add,abg];lia
theorem LF (n:Nat):jr n % 2=n % 2:=by
 induction n with
 |zero=>rfl
 |succ n ih=>unfold jr;lia
theorem LG (d:Nat):jr (d+d)=jr d*(2*(2*jr d+1)):=by
 rw[LD,D3];have:jr d*(2*(2*jr d+1))=4*(jr d*jr d)+2*jr d:=by
  rw[←abg,Nat.mul_add,abP (jr d) 2,Nat.mul_one];have:2*jr d*(2*jr d)=4*(jr d*jr d):=by
   rw[abg,adq (jr d) 2,←abg]
  rw[this]
 rw[this,Nat.add_mul,abg];lia
theorem WG (k q:Nat):Nat.Coprime (2 ^ k) (2*q+1):=by
 refine Nat.Coprime.pow_left k ?_;unfold Nat.Coprime;rw[Nat.gcd_rec,show (2*q+1) % 2=1 by lia];rfl
theorem D4:∀(k d:Nat),2 ^ k ∣ jr d->2 ^ k ∣ d
 |0,d,_=>⟨d,by simp⟩
 |k+1,d,h=>by
  have e:d % 2=0:=by
   rw[←LF];obtain⟨c,hc⟩:=h;grind
  obtain⟨d',rfl⟩:∃d',d=d'+d':=⟨d / 2,(by lia)⟩;rw[LG,abD,abP (2 ^ k) 2,adq (jr d') 2] at h;have h1:2 ^ k ∣ jr d'*(2*jr d'+1):=Nat.dvd_of_mul_dvd_mul_left (by decide) h;have h2:2 ^ k ∣ jr d':=adi (WG k _) h1;obtain⟨c,hc⟩:=D4 k d' h2;exact⟨c,by rw[abD,abg,adq,←hc];lia⟩
noncomputable def wt (M x:Nat):Nat->Nat
 |0=>x
 |n+1=>(wt M x n*5+1) % M
theorem D5 (M x:Nat):∀n,wt M x n % M=(5 ^ n*x+jr n) % M
 |0=>by simp[wt,jr]
 |n+1=>by
  unfold wt jr;rw[Nat.mod_mod,abD,abP (5 ^ n) 5,abg];have:=D5 M x n;rw[Nat.add_mod,Nat.mul_mod,this,←Nat.mul_mod,←Nat.add_mod];congr 1;rw[abP _ 5,Nat.mul_add];lia
theorem yp (M x m:Nat):∀n,wt M x (m+n)=wt M (wt M x m) n
 |0=>rfl
 |n+1=>by
  show (wt M x (m+n)*5+1) % M=_;rw[yp M x m n];rfl
theorem Ic {M x:Nat}(h:x<M):∀n,wt M x n<M
 |0=>h
 |n+1=>acN _ (by lia)
theorem Ie {x d:Nat}(hx:x<2 ^ k)(h:wt (2 ^ k) x d=x):2 ^ k ∣ d:=by
 have e:=D5 (2 ^ k) x d;rw[h,D3,Nat.add_mul,Nat.one_mul] at e;have h2:2 ^ k ∣ jr d*(2*(2*x)+1):=by
  have:jr d*(2*(2*x)+1)=4*jr d*x+jr d:=by
   rw[Nat.mul_add,Nat.mul_one,←abg,←abg,abg (jr d) 2 2,abP (jr d)]
  rw[this];have e2:(x+(4*jr d*x+jr d)) % 2 ^ k=x % 2 ^ k:=by rw[e];congr 1;lia
  have e3:((4*jr d*x+jr d)) % 2 ^ k=0:=by
   have:=(Nat.mod_eq_mod_iff (x:=x+(4*jr d*x+jr d)) (y:=x) (z:=2 ^ k)).mp e2;obtain⟨a,b,xU⟩:=this;have:4*jr d*x+jr d+2 ^ k*a=2 ^ k*b:=by rw[abP _ a,abP _ b];lia
   have h3:2 ^ k ∣ 4*jr d*x+jr d:=(Nat.dvd_add_right (Nat.dvd_mul_right (2 ^ k) a)).mp (by rw[Nat.add_comm,this];exact Nat.dvd_mul_right _ _);exact Nat.mod_eq_zero_of_dvd h3
  exact Nat.dvd_of_mod_eq_zero e3
 exact D4 k d (adi (WG k _) h2)
theorem LH {x a b:Nat}(hx:x<2 ^ k)(ha:a<2 ^ k)(hb:b<2 ^ k)(h:wt (2 ^ k) x a=wt (2 ^ k) x b):a=b:=by
 have key:∀a b,a<=b->b<2 ^ k->wt (2 ^ k) x a=wt (2 ^ k) x b->a=b:=λa b xU hb h=>by
  obtain⟨d,rfl⟩:∃d,b=a+d:=⟨b-a,(by lia)⟩;rw[yp] at h;have:=Ie (Ic hx a) h.symm;have:d=0:=Nat.eq_zero_of_dvd_of_lt this (by lia);lia
 rcases Nat.le_total a b with z|z
 ·exact key a b z hb h
 ·exact (key b a z ha h.symm).symm
theorem LJ {x y:Nat}(hx:x<2 ^ k)(hy:y<2 ^ k):∃n,n<2 ^ k/\wt (2 ^ k) x n=y:=by
 refine abV λhn=>?_;have nd:((aas (2 ^ k)).map (wt (2 ^ k) x)).Nodup:=by
  unfold aeQ;rw[aaO];refine abv (λ{a b} ha hb xU e=>?_) adK;exact xU (LH hx (aao.mp ha) (aao.mp hb) e)
 have:=acb (l₁:=y::(aas (2 ^ k)).map (wt (2 ^ k) x)) (l₂:=aas (2 ^ k))
  (aaS.mpr ⟨λh=>by
   obtain⟨n,h1,h2⟩:=aal.mp h;exact hn ⟨n,aao.mp h1,h2⟩,nd⟩)
  (λz hz=>by
   rcases ZK.mp hz with e|hz
   ·rw[e];exact aao.mpr hy
   ·obtain⟨n,_,rfl⟩:=aal.mp hz;exact aao.mpr (Ic hx n))
 rw[ZM,Zz,aaX] at this;lia
noncomputable def gR (mask:Nat):Nat->Nat×Nat->Nat×Nat
 |0,p=>p
 |n+1,p=>gR mask n (leap mask p.1 p.2)
theorem xt (mask m n:Nat)(p:Nat×Nat):gR mask (m+n) p=gR mask n (gR mask m p):=by
 induction m generalizing p with
 |zero=>rw[acD];rfl
 |succ m ih=>rw[Nat.succ_add];exact ih _
theorem xu (mask:Nat):∀(n i q:Nat),(gR mask n (i,q)).2=q / 32 ^ n
 |0,i,q=>by simp[gR]
 |n+1,i,q=>by
  show (gR mask n (leap mask i q)).2=_;unfold leap;rw[xu,Nat.div_div_eq_div_mul,abD,abP 32]
theorem Aj (mask:Nat):∀(n i q:Nat),i<=mask->(gR mask n (i,q)).1<=mask
 |0,i,q,h=>h
 |n+1,i,q,h=>Aj mask n _ _ (abG (acN _ (acE _)))
theorem uG (mask:Nat):∀(n i:Nat),gR mask n (i,0)=(wt (mask+1) i n,0)
 |0,i=>rfl
 |n+1,i=>by
  rw[Nat.add_comm n 1,xt];show gR mask n (leap mask i 0)=_;rw[show leap mask i 0=(wt (mask+1) i 1,0) by rfl,uG,yp]
theorem xv (hm:mask+1=2 ^ k){q y:Nat}(hi:i<=mask)(hq:q<2 ^ 64)(hy:y<=mask):∃n,n<mask+14/\(gR mask n (i,q)).1=y:=by
 have z:(gR mask 13 (i,q)).2=0:=by
  rw[xu];exact Nat.div_eq_of_lt (Nat.lt_trans hq (by decide))
 have e:gR mask 13 (i,q)=((gR mask 13 (i,q)).1,0):=by rw[←z]
 obtain⟨n,h1,h2⟩:=LJ (k:=k) (x:=(gR mask 13 (i,q)).1) (y:=y) (by rw[←hm];exact Nat.lt_succ_of_le (Aj mask 13 i q hi)) (by lia);refine⟨13+n,(by lia),?_⟩;rw[xt,e,uG,hm];exact h2
end Hc.Sx
namespace Hc.Sx
open PySem.SetTable
def R6 (xs:Array Nat):Prop:=∀i j (hi:i<xs.size) (hj:j<xs.size),i<j->xs[i]<xs[j]
theorem uH {xs:Array Nat}{j:Nat}(hr:R6 xs):∀(cI lo hi:Nat),lo<=hi->hi<=xs.size->hi-lo<=cI->(∀i (h:i<xs.size),i<lo->xs[i]<j)->(∀i (h:i<xs.size),hi<=i->j<=xs[i])->
  (∀i (h:i<xs.size),i<below.go xs j cI lo hi->xs[i]<j)/\(∀i (h:i<xs.size),below.go xs j cI lo hi<=i->j<=xs[i])/\below.go xs j cI lo hi<=xs.size
 |0,lo,hi,h1,h2,h3,a,b=>by
  have:lo=hi:=(by lia)
  subst this;exact⟨a,b,h2⟩
 |cI+1,lo,hi,h1,h2,h3,a,b=>by
  unfold below.go;by_cases c:lo<hi
  ·rw[hV c];dsimp only;have hm:(lo+hi) / 2<xs.size:=(by lia)
   have hd:xs.getD ((lo+hi) / 2) j=xs[(lo+hi) / 2]:=by simp[ads,hm]
   rw[hd];by_cases c2:xs[(lo+hi) / 2]<j
   ·rw[hV c2];refine uH hr cI _ hi (by lia) h2 (by lia) (λi h zu=>?_) b;rcases ac3 i ((lo+hi) / 2) with z|z
    ·exact Nat.lt_trans (hr _ _ h hm z) c2
    ·have:i=(lo+hi) / 2:=(by lia)
     subst this;exact c2
   ·rw[hU c2];refine uH hr cI lo _ (by lia) (by lia) (by lia) a (λi h zu=>?_);rcases ac3 ((lo+hi) / 2) i with z|z
    ·have:=hr _ _ hm h z;lia
    grind
  ·rw[hU c];have:lo=hi:=(by lia)
   subst this;exact⟨a,b,h2⟩
theorem pT {xs:Array Nat}(hr:R6 xs):(∀i (h:i<xs.size),i<below xs j->xs[i]<j)/\(∀i (h:i<xs.size),below xs j<=i->j<=xs[i])/\below xs j<=xs.size:=
 uH hr _ _ _ (aaI _) (ZP _) (by lia) (λi _ h=>(by lia)) (λi h h'=>(by lia))
theorem Ig {xs:Array Nat}(hr:R6 xs)(h:xs[i]? = some j):below xs j=i:=by
 obtain⟨hi,e⟩:=aay.mp h;obtain⟨a,b,c⟩:=pT (j:=j) hr;rcases adt (below xs j) i with z|z|z
 ·have h1:=b (below xs j) (by lia) (ZP _);have h2:=hr _ _ (by lia) hi z;lia
 ·exact z
 ·have:=a i hi z;lia
variable {V:Type}
structure D6 (t:aaY)(es:Array (Int×V))(C:Nat->Option (Int×V)):Prop where
 ris:R6 t.place
 sz:t.place.size=es.size
 dum:t.dummies=(List.toArray [])
 pow:∃k,t.mask+1=2 ^ k
 room:es.size<=t.mask
 top:∀(i j:Nat),t.place[i]? = some j->j<=t.mask
 con:∀(j:Nat) (e:Int×V),C j=some e↔∃i:Nat,t.place[i]? = some j/\es[i]? = some e
section
variable {t:aaY}{es:Array (Int×V)}{C:Nat->Option (Int×V)}
theorem Ak {xs:Array Nat}(h:xs=(List.toArray []))(j:Nat):has xs j=false:=by subst h;rfl
theorem D6.live (T:D6 t es C){e:Int×V}(h:C j=some e):∃i,t.slot j=.live i/\es[i]? = some e/\t.place[i]? = some j:=by
 obtain⟨i,h1,h2⟩:=(T.con j e).mp h;refine⟨i,?_,h2,h1⟩;unfold SetTable.slot;dsimp only;rw[Ig T.ris h1,h1];simp
theorem D6.empty (T:D6 t es C)(h:C j=none):t.slot j=.empty:=by
 unfold SetTable.slot;dsimp only;have n:(t.place[below t.place j]? == some j)=false:=by
  rw[acL];intro c;have c:t.place[below t.place j]? = some j:=by simpa using c
  have hi:=(aay.mp c).1;have OB:below t.place j<es.size:=by rw[←T.sz];exact hi
  have:es[below t.place j]? = some es[below t.place j]:=Z7 OB;rw[(T.con j _).mpr ⟨_,c,this⟩] at h;cases h
 rw[n,Ak T.dum];rfl
theorem D6.free (T:D6 t es C):∃y,y<=t.mask/\C y=none:=by
 refine abV λhn=>?_;have hs:=T.sz;have hr:=T.room;have:=acb (l₁:=aas (t.mask+1)) (l₂:=t.place.toList) adK (λy hy=>by
  have hy:=aao.mp hy;cases e:C y with
  |none=>exact absurd ⟨y,(by lia),e⟩ hn
  |some v=>
   obtain⟨i,h1,_⟩:=(T.con y v).mp e;have:=Array.mem_of_getElem? h1;simpa using this)
 rw[aaX,Z5] at this;lia
end
noncomputable def adv (mask:Nat)(p:Probe):Probe:=
 if p.more>0 then {p with j:=p.j+1,more:=p.more-1} else
 {p with j:=(leap mask p.i p.perturb).1,more:=runEnd mask (leap mask p.i p.perturb).1-(leap mask p.i p.perturb).1,i:=(leap mask p.i p.perturb).1,perturb:=(leap mask p.i p.perturb).2}
def Ih (t:aaY)(p:Probe):t.advance p=adv t.mask p:=by unfold SetTable.advance adv;rfl
noncomputable def advs (mask:Nat):Nat->Probe->Probe
 |0,p=>p
 |n+1,p=>advs mask n (adv mask p)
theorem jR (mask m n:Nat)(p:Probe):advs mask (m+n) p=advs mask n (advs mask m p):=by
 induction m generalizing p with
 |zero=>rw[acD];rfl
 |succ m ih=>rw[Nat.succ_add];exact ih _
def xw (mask n:Nat)(p:Probe):advs mask (n+1) p=adv mask (advs mask n p):=by rw[jR];rfl
structure mL (mask:Nat)(p:Probe):Prop where
 i:p.i<=mask
 q:p.perturb<2 ^ 64
 m:p.more<=9
 d:p.dummy=none
theorem qP (mask i:Nat):runEnd mask i-i<=9:=by unfold runEnd;split<;>lia
theorem mL.adv {p:Probe}(h:mL mask p):mL mask (adv mask p):=by
 unfold Hc.Sx.adv;split
 ·exact⟨h.i,h.q,by have:=h.m;dsimp only;lia,h.d⟩
 ·refine⟨abG (acN _ (acE _)),?_,qP _ _,h.d⟩;exact ac_ (Nat.div_le_self _ _) h.q
theorem mL.advs {mask:Nat}:∀(n:Nat) {p:Probe},mL mask p->mL mask (advs mask n p)
 |0,_,h=>h
 |n+1,_,h=>mL.advs n h.adv
theorem D7 (h:Int):bits h<2 ^ 64:=by
 grind[bits,abQ,acF]
def mL.start (t:aaY)(h:Int):mL t.mask (t.probeStart h):=
 ⟨abG (acN _ (acE _)),D7 h,qP _ _,rfl⟩
theorem uI {mask:Nat}:∀(n:Nat) {p:Probe},p.more=n->(advs mask (n+1) p).j=(leap mask p.i p.perturb).1/\(advs mask (n+1) p).i=(leap mask p.i p.perturb).1/\(advs mask (n+1) p).perturb=(leap mask p.i p.perturb).2/\(advs mask (n+1) p).more<=9
 |0,p,e=>by
  show (adv mask p).j=_/\(adv mask p).i=_/\(adv mask p).perturb=_/\(adv mask p).more<=9;unfold adv;rw[hU (by lia)];exact⟨rfl,rfl,rfl,qP _ _⟩
 |n+1,p,e=>by
  have:=uI (mask:=mask) n (p:=adv mask p) (by unfold adv;rw[hV (by lia)];show p.more-1=n;lia);have e1:(adv mask p).i=p.i/\(adv mask p).perturb=p.perturb:=by unfold adv;rw[hV (by lia)];exact⟨rfl,rfl⟩
  rw[e1.1,e1.2] at this;exact this
theorem rP {mask:Nat}:∀(n:Nat) {p:Probe},mL mask p->∃m,m<=10*(n+1)/\(advs mask m p).j=(gR mask (n+1) (p.i,p.perturb)).1
 |0,p,h=>by
  obtain⟨a,_⟩:=uI (mask:=mask) p.more (p:=p) rfl;exact⟨p.more+1,by have:=h.m;lia,a⟩
 |n+1,p,h=>by
  obtain⟨a,b,c,d⟩:=uI (mask:=mask) p.more (p:=p) rfl;obtain⟨m,h1,h2⟩:=rP n (mL.advs (p.more+1) h);refine⟨p.more+1+m,by have:=h.m;lia,?_⟩;rw[jR,h2,b,c];rfl
theorem xx (hm:mask+1=2 ^ k){p:Probe}(h:mL mask p){y:Nat}(hy:y<=mask):∃m,m<10*turns mask/\(advs mask m p).j=y:=by
 obtain⟨n,h1,h2⟩:=xv hm (i:=(leap mask p.i p.perturb).1) (q:=(leap mask p.i p.perturb).2) (y:=y) (abG (acN _ (acE _))) (ac_ (Nat.div_le_self _ _) h.q) hy;obtain⟨m,h3,h4⟩:=rP n h;refine⟨m,by unfold turns;lia,?_⟩;rw[h4];exact h2
section
variable {t:aaY}{es:Array (Int×V)}{C:Nat->Option (Int×V)}{hashAt:Nat->Int}
theorem D8 (T:D6 t es C)(hh:∀i e,es[i]? = some e->hashAt i=e.1)(h:Int):∀(m cI:Nat) (p:Probe),mL t.mask p->m<cI->C (advs t.mask m p).j=none->
    ∃m',m'<=m/\(∀a,a<m'->∃e,C (advs t.mask a p).j=some e/\e.1≠h)/\
      ((C (advs t.mask m' p).j=none/\probe.go t hashAt h cI p=some (.empty (advs t.mask m' p).j none)) \/
       ∃e i,C (advs t.mask m' p).j=some e/\e.1=h/\es[i]? = some e/\t.place[i]? = some (advs t.mask m' p).j/\probe.go t hashAt h cI p=some (.candidate (advs t.mask m' p).j i (advs t.mask (m'+1) p)))
  |m,0,p,_,hf,_=>by lia
  |m,cI+1,p,hp,hf,he=>by
    unfold probe.go;cases c:C p.j with
    |none=>
      refine⟨0,aaI _,λa ha=>(by lia),.inl ⟨c,?_⟩⟩;rw[T.empty c];dsimp only;rw[hp.d];rfl
    |some e=>
      obtain⟨i,h1,h2,h3⟩:=T.live c;rw[h1];dsimp only;rw[hh i e h2];by_cases q:e.1=h
      · refine⟨0,aaI _,λa ha=>(by lia),.inr ⟨e,i,c,q,h2,h3,?_⟩⟩;rw[hV (by rw[q];simp),Ih];rfl
      · rw[hU (by simpa using q),Ih];cases m with
        |zero=>rw[show advs t.mask 0 p=p from rfl,c] at he;cases he
        |succ m=>
          obtain⟨m',g1,g2,g3⟩:=D8 T hh h m cI (adv t.mask p) hp.adv (by lia) he;refine⟨m'+1,(by lia),λa ha=>?_,g3⟩;cases a with
          |zero=>exact⟨e,c,q⟩
          |succ a=>exact g2 a (by lia)
theorem Ci (T:D6 t es C)(hh:∀i e,es[i]? = some e->hashAt i=e.1)(h:Int){p:Probe}(hp:mL t.mask p) :
    ∃m',(∀a,a<m'->∃e,C (advs t.mask a p).j=some e/\e.1≠h)/\
      ((C (advs t.mask m' p).j=none/\t.probe hashAt h p=some (.empty (advs t.mask m' p).j none)) \/
       ∃e i,C (advs t.mask m' p).j=some e/\e.1=h/\es[i]? = some e/\t.place[i]? = some (advs t.mask m' p).j/\t.probe hashAt h p=some (.candidate (advs t.mask m' p).j i (advs t.mask (m'+1) p))):=by
  obtain⟨y,hy,hc⟩:=T.free;obtain⟨k,hk⟩:=T.pow;obtain⟨m,h1,h2⟩:=xx hk hp hy;obtain⟨m',_,g2,g3⟩:=D8 T hh h m _ p hp h1 (by rw[h2];exact hc);exact⟨m',g2,g3⟩
end
end Hc.Sx
namespace Hc.Sx
open PySem.SetTable
theorem kH {α:Type}(xs:Array α)(p:Nat)(x:α):(insertAt xs p x).toList=xs.toList.take p++x::xs.toList.drop p:=by
 unfold insertAt;simp[Array.toList_extract,List.extract_eq_drop_take];exact abJ (by simp)
theorem bU {α:Type}{xs:Array α}{p:Nat}{x:α}(h:p<=xs.size)(i:Nat):(insertAt xs p x)[i]? = if i<p then xs[i]? else if i=p then some x else xs[i-1]? := by
 rw[←Z4,kH];have lt:(xs.toList.take p).length=p:=by rw[abx,Z5];lia
 by_cases c:i<p
 ·rw[hV c,aa1 (by lia),aeF c,Z4]
 ·rw[hU c,aaG (by lia),lt];by_cases c2:i=p
  ·rw[hV c2,c2,Nat.sub_self];rfl
  ·rw[hU c2,show i-p=(i-p-1)+1 by lia,aax,List.getElem?_drop,Z4];congr 1;lia
theorem iV {α:Type}{xs:Array α}{p:Nat}{x:α}(h:p<=xs.size):(insertAt xs p x).size=xs.size+1:=by
 grind[Z5,kH,ZJ,ZM,abx,acm]
variable {V:Type}
noncomputable def PQ (C:Nat->Option (Int×V))(j:Nat)(e:Int×V):Nat->Option (Int×V):=λy=>if y=j then some e else C y
def M9 (mask:Nat)(st:Int->Probe)(C:Nat->Option (Int×V)):Prop:=∀(j:Nat) (e:Int×V),C j=some e->∃n,(advs mask n (st e.1)).j=j/\∀m,m<n->∃e',C (advs mask m (st e.1)).j=some e'
section
variable {t:aaY}{es:Array (Int×V)}{C:Nat->Option (Int×V)}
theorem D6.put (T:D6 t es C){e:Int×V}(hj:j<=t.mask)(hc:C j=none)(hr:es.size+1<=t.mask) :
  D6 (t.put j).1 (insertAt es (t.put j).2 e) (PQ C j e)/\(t.put j).1.mask=t.mask/\(t.put j).1.plain=t.plain/\(t.put j).1.led=t.led/\(t.put j).1.moves=t.moves/\(t.put j).1.finger=t.finger:=by
 obtain⟨a,b,c⟩:=pT (j:=j) T.ris;have nz:∀i,t.place[i]? ≠ some j:=λi h=>by
  have hi:=(aay.mp h).1;have OB:i<es.size:=by rw[←T.sz];exact hi
  rw[(T.con j es[i]).mpr ⟨i,h,Z7 OB⟩] at hc;cases hc
 have ep:(t.put j).1={t with place:=insertAt t.place (below t.place j) j}:=by
  unfold SetTable.put;dsimp only;rw[Ak T.dum];rfl
 have e2:(t.put j).2=below t.place j:=rfl;have c2:below t.place j<=es.size:=by rw[←T.sz];exact c
 rw[ep,e2];refine⟨⟨?_,?_,T.dum,T.pow,?_,?_,?_⟩,rfl,rfl,rfl,rfl,rfl⟩
 ·intro i i' hi zu lt;have g:=λx=>bU (x:=j) c x;dsimp only at hi zu ⊢;have e1:=g i;have BD:=g i';rw[Z7 hi] at e1;rw[Z7 zu] at BD;rw[iV c] at hi zu;have at_:∀x (hx:x<t.place.size),t.place[x]? = some t.place[x]:=λx hx=>Z7 hx;have X_:∀x (hx:x<t.place.size),t.place[x]≠j:=λx hx z=>nz x (by rw[at_ x hx,z]);by_cases q:i<below t.place j
  ·rw[hV q,at_ i (by lia)] at e1;have e1:=Z0 e1;rw[e1];by_cases q':i'<below t.place j
   ·rw[hV q',at_ i' (by lia)] at BD;rw[Z0 BD];exact T.ris _ _ _ _ lt
   grind
  ·rw[hU q] at e1;rw[hU (by lia),hU (by lia),at_ (i' - 1) (by lia)] at BD;rw[Z0 BD];by_cases r:i=below t.place j
   ·grind
   ·rw[hU r,at_ (i-1) (by lia)] at e1;rw[Z0 e1];exact T.ris _ _ _ _ (by lia)
 ·show (insertAt t.place _ j).size=_;rw[iV c,iV c2,T.sz]
 ·rw[iV c2];exact hr
 ·intro i y h;have h:(insertAt t.place (below t.place j) j)[i]? = some y:=h;rw[bU c] at h;split at h
  ·exact T.top i y h
  ·split at h
   ·cases h;exact hj
   ·exact T.top _ y h
 ·intro y v;show PQ C j e y=some v↔∃i,(insertAt t.place (below t.place j) j)[i]? = some y/\(insertAt es (below t.place j) e)[i]? = some v;unfold PQ;constructor
  ·intro h;split at h
   ·rename_i q;cases h;subst q;refine⟨below t.place y,?_,?_⟩
    ·rw[bU c,hU (abe _),hV rfl]
    ·rw[bU c2,hU (abe _),hV rfl]
   ·obtain⟨i,h1,h2⟩:=(T.con y v).mp h;by_cases q:i<below t.place j
    ·exact⟨i,by simp_all[bU,hV],by simp_all[bU,hV]⟩
    ·exact⟨i+1,by rw[bU c,hU (by lia),hU (by lia)];exact h1,by rw[bU c2,hU (by lia),hU (by lia)];exact h2⟩
  ·rintro⟨i,h1,h2⟩;rw[bU c] at h1;rw[bU c2] at h2;by_cases q:i<below t.place j
   ·rw[hV q] at h1 h2;rw[hU (λz=>nz i (by rw[h1,z]))];exact (T.con y v).mpr ⟨i,h1,h2⟩
   ·rw[hU q] at h1 h2;by_cases r:i=below t.place j
    ·lia
    ·rw[hU r] at h1 h2;rw[hU (λz=>nz (i-1) (by rw[h1,z]))];exact (T.con y v).mpr ⟨_,h1,h2⟩
theorem M9.up {st:Int->Probe}(P:M9 mask st C){e:Int×V}(hb:∀m,m<n->∃e',C (advs mask m (st e.1)).j=some e')(hc:C (advs mask n (st e.1)).j=none):M9 mask st (PQ C (advs mask n (st e.1)).j e):=by
 have Kq:∀y,(∃e',C y=some e')->∃e',PQ C (advs mask n (st e.1)).j e y=some e':=λy h00=>by
  obtain⟨e',h⟩:=h00;unfold PQ;split
  ·exact⟨_,rfl⟩
  ·exact⟨e',h⟩
 intro j v h;unfold PQ at h;split at h
 ·rename_i q;cases h;exact⟨n,q.symm,λm hm=>Kq _ (hb m hm)⟩
 ·obtain⟨n',h1,h2⟩:=P j v h;exact⟨n',h1,λm hm=>Kq _ (h2 m hm)⟩
theorem M9.met {st:Int->Probe}(P:M9 mask st C){h:Int}(hc:C (advs mask n (st h)).j=none){e:Int×V}(he:C j=some e)(hh:e.1=h):∃m,m<n/\(advs mask m (st h)).j=j:=by
 obtain⟨m,h1,h2⟩:=P j e he;rw[hh] at h1 h2;rcases adt m n with z|z|z
 ·exact⟨m,z,h1⟩
 ·subst z;rw[h1,he] at hc;cases hc
 ·obtain⟨e',q⟩:=h2 n z;rw[q] at hc;cases hc
end
noncomputable def ac4 (mask:Nat)(h:Int):Probe:={j:=bits h % (mask+1),more:=runEnd mask (bits h % (mask+1))-bits h % (mask+1),i:=bits h % (mask+1),perturb:=bits h,dummy:=none}
theorem qQ {mask:Nat}:∀(k:Nat) {p:Probe},k<=p.more->(advs mask k p).j=p.j+k/\(advs mask k p).more=p.more-k/\(advs mask k p).i=p.i/\(advs mask k p).perturb=p.perturb/\(advs mask k p).dummy=p.dummy
 |0,p,_=>⟨rfl,rfl,rfl,rfl,rfl⟩
 |k+1,p,h=>by
  obtain⟨a,b,c,d,e⟩:=qQ (mask:=mask) k (p:=adv mask p) (by unfold adv;rw[hV (by lia)];dsimp only;lia);have e1:(adv mask p).j=p.j+1/\(adv mask p).more=p.more-1/\(adv mask p).i=p.i/\(adv mask p).perturb=p.perturb/\(adv mask p).dummy=p.dummy:=by unfold adv;rw[hV (by lia)];exact⟨rfl,rfl,rfl,rfl,rfl⟩
  refine⟨?_,?_,c.trans e1.2.2.1,d.trans e1.2.2.2.1,e.trans e1.2.2.2.2⟩
  ·show (advs mask k (adv mask p)).j=_;rw[a,e1.1];lia
  ·show (advs mask k (adv mask p)).more=_;rw[b,e1.2.1];lia
theorem xy {mask:Nat}{owner:Array (Option Nat)}(hs:owner.size=mask+1):∀(n cI:Nat) (p:Probe),p.j=p.i->p.more=runEnd mask p.i-p.i->p.i<=mask->n<cI->owner[(gR mask n (p.i,p.perturb)).1]? = some none->
  ∃m,layClean.free mask owner cI p.i p.perturb=some (advs mask m p).j/\owner[(advs mask m p).j]? = some none/\∀a,a<m->∃i,owner[(advs mask a p).j]? = some (some i)
 |n,0,p,_,_,_,hf,_=>by lia
 |n,cI+1,p,hj,hm,hi,hf,hn=>by
  have re:runEnd mask p.i<=mask/\p.i<=runEnd mask p.i:=by unfold runEnd;split<;>lia
  have at_:∀a,a<=p.more->∃o,owner[p.i+a]? = some o:=λa ha=>⟨owner[p.i+a]'(by lia),Z7 (by lia)⟩;have gd:∀a o,owner[p.i+a]? = some o->owner.getD (p.i+a) (some 0)=o:=λa o h=>by
   simp[*]
  unfold layClean.free;cases hq:(aas (runEnd mask p.i+1-p.i)).find? (λk=>(owner.getD (p.i+k) (some 0)).isNone) with
  |some k=>
   obtain⟨h1,as,bs,h2,h3⟩:=List.find?_eq_some_iff_append.mp hq;have hk:k<runEnd mask p.i+1-p.i:=aao.mp (by rw[h2];simp);have OC:k<=p.more:=(by lia)
   obtain⟨o,ho⟩:=at_ k OC;rw[gd k o ho] at h1;have on:o=none:=by simp_all
   subst on;refine⟨k,?_,?_,λa ha=>?_⟩
   ·dsimp only;rw[(qQ k OC).1,hj]
   ·rw[(qQ k OC).1,hj];exact ho
   ·rw[(qQ a (by lia)).1,hj];obtain⟨o,ho⟩:=at_ a (by lia);have am:a∈as:=by
     have la:as.length=k:=by
      have e:(aas (runEnd mask p.i+1-p.i))[as.length]? = some k:=by rw[h2,aaG (ZP _),Nat.sub_self];rfl
      have lt:as.length<runEnd mask p.i+1-p.i:=by
       have:=(ZN.mp e).1;simpa using this
      rw[acg lt] at e;exact Z0 e
     have e:(aas (runEnd mask p.i+1-p.i))[a]? = some a:=acg (by lia);rw[h2,aa1 (by lia)] at e;exact aan e
    have:=h3 a am;rw[gd a o ho] at this;cases o with
    |none=>lia
    |some x=>exact⟨x,ho⟩
  |none=>
   have all:=ade.mp hq;have Xc:∀a,a<=p.more->∃i,owner[p.i+a]? = some (some i):=λa ha=>by
    obtain⟨o,ho⟩:=at_ a ha;have:=all a (aao.mpr (by lia));rw[gd a o ho] at this;cases o with
    |none=>simp at this
    |some x=>exact⟨x,ho⟩
   cases n with
   |zero=>
    obtain⟨i,h⟩:=Xc 0 (aaI _);rw[show gR mask 0 (p.i,p.perturb)=(p.i,p.perturb) from rfl,←aev p.i,h] at hn;cases hn
   |succ n=>
    obtain⟨a1,a2,a3,a4,a5⟩:=qQ (mask:=mask) p.more (p:=p) (ZP _);have e1:advs mask (p.more+1) p={advs mask p.more p with j:=(leap mask p.i p.perturb).1,more:=runEnd mask (leap mask p.i p.perturb).1-(leap mask p.i p.perturb).1,i:=(leap mask p.i p.perturb).1,perturb:=(leap mask p.i p.perturb).2}:=by
     simp_all[xw,adv,hU]
    obtain⟨m,g1,g2,g3⟩:=xy hs n cI (advs mask (p.more+1) p) (by rw[e1]) (by rw[e1]) (by rw[e1];exact abG (acN _ (acE _))) (by lia) (by rw[e1];exact hn);refine⟨p.more+1+m,?_,by rw[jR];exact g2,λa ha=>?_⟩
    ·rw[jR];rw[e1] at g1 ⊢;exact g1
    ·rcases ac3 a (p.more+1) with z|z
     ·rw[(qQ a (by lia)).1,hj];exact Xc a (by lia)
     ·have:=g3 (a-(p.more+1)) (by lia);rw[←jR,show p.more+1+(a-(p.more+1))=a by lia] at this;exact this
end Hc.Sx
namespace Hc.Sx
open PySem.SetTable
structure M_ (mask:Nat)(owner:Array (Option Nat))(k:Nat)(Hf:Nat->Int):Prop where
 sz:owner.size=mask+1
 ix:∀(j i:Nat),owner[j]? = some (some i)->i<k
 ex:∀i:Nat,i<k->∃j:Nat,owner[j]? = some (some i)
 un:∀(j j' i:Nat),owner[j]? = some (some i)->owner[j']? = some (some i)->j=j'
 pt:∀(j i:Nat),owner[j]? = some (some i)->∃n,(advs mask n (ac4 mask (Hf i))).j=j/\∀m,m<n->∃i':Nat,owner[(advs mask m (ac4 mask (Hf i))).j]? = some (some i')
section
variable {owner:Array (Option Nat)}{Hf:Nat->Int}
theorem M_.free (O:M_ mask owner k Hf)(hk:k<=mask):∃y,y<=mask/\owner[y]? = some none:=by
 refine abV λhn=>?_;have full:∀y,y<mask+1->∃i,owner[y]? = some (some i):=λy hy=>by
  have h1:y<owner.size:=by rw[O.sz];exact hy
  cases e:owner[y] with
  |none=>exact absurd ⟨y,(by lia),by rw[Z7 h1,e]⟩ hn
  |some i=>exact⟨i,by rw[Z7 h1,e]⟩
 have g:∀y,∃i,y<mask+1->owner[y]? = some (some i):=λy=>by
  by_cases h:y<mask+1
  ·obtain⟨i,e⟩:=full y h;exact⟨i,λ_=>e⟩
  ·exact⟨0,λz=>absurd z h⟩
 let f:=λy=>Classical.choose (g y)
 have hf:∀y,y<mask+1->owner[y]? = some (some (f y)):=λy=>Classical.choose_spec (g y);have:=acb (l₁:=(aas (mask+1)).map f) (l₂:=aas k) (by
  unfold aeQ;rw[aaO];refine abv (λ{a b} ha hb xU e=>?_) adK;have h1:=hf a (aao.mp ha);have h2:=hf b (aao.mp hb);rw[e] at h1;exact xU (O.un _ _ _ h1 h2)) (λx hx=>by
  obtain⟨y,hy,rfl⟩:=aal.mp hx;exact aao.mpr (O.ix y _ (hf y (aao.mp hy))))
 rw[Zz,aaX,aaX] at this;lia
theorem M_.step (O:M_ mask owner k Hf)(hp:∃p,mask+1=2 ^ p)(hk:k<=mask):∃j,layClean.free mask owner (turns mask) (bits (Hf k) % (mask+1)) (bits (Hf k))=some j/\M_ mask (owner.setIfInBounds j (some k)) (k+1) Hf:=by
 obtain⟨y,hy,ho⟩:=O.free hk;obtain⟨p,hp⟩:=hp;have hi:bits (Hf k) % (mask+1)<=mask:=abG (acN _ (acE _));obtain⟨n,h1,h2⟩:=xv hp (i:=bits (Hf k) % (mask+1)) (q:=bits (Hf k)) hi (D7 _) hy;obtain⟨m,g1,g2,g3⟩:=xy O.sz n (turns mask) (ac4 mask (Hf k)) rfl rfl hi (by unfold turns;lia) (by
  show owner[(gR mask n (bits (Hf k) % (mask+1),bits (Hf k))).1]? = _;rw[h2];exact ho)
 refine⟨_,g1,?_⟩;have hj:(advs mask m (ac4 mask (Hf k))).j<owner.size:=(aay.mp g2).1;generalize ej:(advs mask m (ac4 mask (Hf k))).j=j at *;have gt:∀x,(owner.setIfInBounds j (some k))[x]? = if x=j then some (some k) else owner[x]? := λx=>by
  rw[Array.getElem?_setIfInBounds];by_cases c:j=x
  ·rw[hV c,hV c.symm,hV hj]
  ·rw[hU c,hU (λz=>c z.symm)]
 have Kq:∀x:Nat,(∃i':Nat,owner[x]? = some (some i'))->∃i':Nat,(owner.setIfInBounds j (some k))[x]? = some (some i'):=λx h00=>by
  obtain⟨i',h⟩:=h00;rw[gt];split
  ·exact⟨k,rfl⟩
  ·exact⟨i',h⟩
 refine⟨by rw[Array.size_setIfInBounds];exact O.sz,λx i h=>?_,λi hi=>?_,λx x' i h h'=>?_,λx i h=>?_⟩
 ·rw[gt] at h;split at h
  ·cases h;lia
  ·have:=O.ix x i h;lia
 ·by_cases c:i=k
  ·exact⟨j,by rw[gt,hV rfl,c]⟩
  ·obtain⟨x,h⟩:=O.ex i (by lia);refine⟨x,?_⟩;rw[gt,hU (λz=>by rw[z,g2] at h;cases h)];exact h
 ·rw[gt] at h h';by_cases c:x=j
  ·by_cases c':x'=j
   ·rw[c,c']
   ·rw[hV c] at h;rw[hU c'] at h';cases h;have:=O.ix _ _ h';lia
  ·by_cases c':x'=j
   ·rw[hU c] at h;rw[hV c'] at h';cases h';have:=O.ix _ _ h;lia
   ·rw[hU c] at h;rw[hU c'] at h';exact O.un _ _ _ h h'
 ·rw[gt] at h;split at h
  ·rename_i c;cases h;exact⟨m,by rw[ej,c],λa ha=>Kq _ (g3 a ha)⟩
  ·obtain⟨n,h1,h2⟩:=O.pt x i h;exact⟨n,h1,λa ha=>Kq _ (h2 a ha)⟩
end
noncomputable def LK (mask:Nat)(cy:Option (Array (Option Nat)×Nat))(h:Int):Option (Array (Option Nat)×Nat):=do
  let (owner,k) ←cy
  let j ←layClean.free mask owner (turns mask) (bits h % (mask+1)) (bits h)
  pure (owner.setIfInBounds j (some k),k+1)
theorem D9 {mask:Nat}{Hf:Nat->Int}(hp:∃p,mask+1=2 ^ p):∀(hs:List Int) (k:Nat) (owner:Array (Option Nat)),M_ mask owner k Hf->(∀i,i<hs.length->hs[i]? = some (Hf (k+i)))->k+hs.length<=mask->
  ∃owner',hs.foldl (LK mask) (some (owner,k))=some (owner',k+hs.length)/\M_ mask owner' (k+hs.length) Hf
 | [],k,owner,O,_,_=>⟨owner,rfl,O⟩
 |h::hs,k,owner,O,he,hl=>by
  have e0:h=Hf k:=by have:=he 0 (by simp);simpa using this
  rw[ZM] at hl;obtain⟨j,g1,g2⟩:=O.step hp (by lia);obtain⟨owner',f1,f2⟩:=D9 hp hs (k+1) _ g2 (λi hi=>by
   have:=he (i+1) (by rw[ZM];lia);rw[aax] at this;rw[this];congr 2;lia) (by lia)
  refine⟨owner',?_,?_⟩
  ·rw[List.foldl_cons,show LK mask (some (owner,k)) h=some (owner.setIfInBounds j (some k),k+1) by unfold LK;rw[e0];simp[g1],f1,ZM];congr 2;lia
  ·rw[ZM,show k+(hs.length+1)=k+1+hs.length by lia];exact f2
theorem LL (mask:Nat)(Hf:Nat->Int):M_ mask (Array.replicate (mask+1) none) 0 Hf:=by
 have no:∀(j i:Nat),(Array.replicate (mask+1) (none:Option Nat))[j]? ≠ some (some i):=λj i h=>by
  rw[Array.getElem?_replicate] at h;split at h<;>cases h
 exact⟨by simp,λj i h=>absurd h (no j i),λi h=>absurd h (Nat.not_lt_zero _),λj _ i h=>absurd h (no j i),λj i h=>absurd h (no j i)⟩
theorem kI {α β:Type}{f:α->Option β}:∀{l:List α},(∀x∈l,∃y,f x=some y)->∀n:Nat,(l.filterMap f)[n]? = (l[n]?).bind f
 | [],_,n=>by simp
 |x::l,h,n=>by
  obtain⟨y,hy⟩:=h x ZA;rw[aeK hy];cases n with
  |zero=>simp[hy]
  |succ n=>simpa using kI (λz hz=>h z (ZC _ hz)) n
theorem ou {α β:Type}{f:α->Option β}:∀{l:List α},(∀x∈l,∃y,f x=some y)->(l.filterMap f).length=l.length
 | [],_=>rfl
 |x::l,h=>by
  obtain⟨y,hy⟩:=h x ZA;rw[aeK hy,ZM,ZM,ou λz hz=>h z (ZC _ hz)]
variable {V:Type}
theorem nN {finger moves:Nat}{led plain:Bool}{es:Array (Int×V)}(hp:∃p,mask+1=2 ^ p)(hl:es.size<=mask):∃(t:aaY) (order:Array Nat) (C:Nat->Option (Int×V)),laid mask finger moves led plain (es.map (·.1))=some (t,order)/\
  D6 t (order.filterMap (es[·]?)) C/\M9 mask (ac4 mask) C/\(order.filterMap (es[·]?)).size=es.size/\t.mask=mask/\t.finger=finger/\t.moves=moves/\t.led=led/\t.plain=plain/\
  (order.filterMap (es[·]?)).toList.Perm es.toList:=by
 obtain⟨owner,f1,O⟩:=D9 (Hf:=λi=>(es[i]?.map (·.1)).getD 0) hp (es.map (·.1)).toList 0 _ (LL mask _) (λi hi=>by
  have OB:i<es.size:=by simpa using hi
  simp[OB]) (by simpa using hl)
 rw[acD,Z5,Array.size_map] at f1 O;have lc:layClean mask (es.map (·.1))=some owner:=by
  unfold layClean;rw[←Array.foldl_toList];show ((es.map (·.1)).toList.foldl (LK mask) (some (Array.replicate (mask+1) none,0))).map (·.1)=some owner;rw[f1];rfl
 let live:=(aas (mask+1)).filterMap λj=>(owner.getD j none).map (j,·)
 have gd:∀j i,owner.getD j none=some i↔owner[j]? = some (some i):=λj i=>by
  by_cases h:j<owner.size
  ·simp[ads,h]
  ·simp[ads,h]
 have ml:∀j i,(j,i)∈live↔owner[j]? = some (some i):=λj i=>by
  show (j,i)∈List.filterMap _ _↔_;rw[aek];constructor
  ·rintro⟨a,_,h⟩;cases e:owner.getD a none with
   |none=>rw[e] at h;cases h
   |some x=>rw[e] at h;cases h;exact (gd _ _).mp e
  ·intro h;refine⟨j,aao.mpr ?_,by rw[(gd j i).mpr h];rfl⟩;have:=(aay.mp h).1;rw[O.sz] at this;exact this
 have pw:live.Pairwise (λa b=>a.1<b.1/\a.2≠b.2):=by
  show List.Pairwise _ (List.filterMap _ _);rw[List.pairwise_filterMap];refine List.pairwise_lt_range.imp λ{a b} xU x hx y hy=>?_;cases e:owner.getD a none with
  |none=>rw[e] at hx;cases hx
  |some i=>cases e':owner.getD b none with
   |none=>rw[e'] at hy;cases hy
   |some i'=>
    rw[e] at hx;rw[e'] at hy;cases hx;cases hy;refine⟨xU,λz=>?_⟩;dsimp only at z;subst z;have:=O.un _ _ _ ((gd _ _).mp e) ((gd _ _).mp e');lia
 have Xd:(live.map (·.2)).Perm (aas es.size):=by
  have nd:(live.map (·.2)).Nodup:=by
   unfold aeQ;rw[aaO];exact pw.imp λh=>h.2
  exact (aef nd adK).mpr λi=>by
   rw[aal,aao];constructor
   ·rintro⟨⟨j,i'⟩,h,rfl⟩;exact O.ix j i' ((ml j i').mp h)
   ·intro h;obtain⟨j,e⟩:=O.ex i h;exact⟨(j,i),(ml j i).mpr e,rfl⟩
 have len:live.length=es.size:=by
  have:=Xd.length_eq
  rwa [Zz,aaX] at this
 have Ya:∀x∈live,∃y,es[x.2]? = some y:=λx hx=>by
  have:=O.ix x.1 x.2 ((ml x.1 x.2).mp hx);exact⟨es[x.2],Z7 this⟩
 have TR:∀x∈live.map (·.2),∃y,es[x]? = some y:=λx hx=>by
  obtain⟨z,hz,rfl⟩:=aal.mp hx;exact Ya z hz
 have V8:((live.map (·.2)).toArray.filterMap (es[·]?)).toList=(live.map (·.2)).filterMap (es[·]?):=by simp
 have Xe:∀n:Nat,((live.map (·.2)).toArray.filterMap (es[·]?))[n]? = (live[n]?).bind λx=>es[x.2]? := λn=>by
  rw[←Z4,V8,kI TR,Z2];cases live[n]? <;> rfl
 have V9:∀n:Nat,(live.map (·.1)).toArray[n]? = (live[n]?).map (·.1):=λn=>by
  rw[←Z4];simp
 let C:Nat->Option (Int×V):=λj=>(owner.getD j none).bind (es[·]?)
 have hC:∀j e,C j=some e↔∃i,owner[j]? = some (some i)/\es[i]? = some e:=λj e=>by
  show (owner.getD j none).bind _=some e↔_;cases q:owner.getD j none with
  |none=>
   refine⟨λh=>(by cases h),fun⟨i,h,_⟩=>?_⟩;rw[(gd j i).mpr h] at q;cases q
  |some i=>
   constructor
   ·intro h;exact⟨i,(gd j i).mp q,h⟩
   ·rintro⟨i',h,h2⟩;rw[(gd j i').mpr h] at q;cases q;exact h2
 have KJ:((live.map (·.2)).toArray.filterMap (es[·]?)).size=es.size:=by
  rw[←Z5,V8,ou TR,Zz,len]
 refine⟨{mask,place:=(live.map (·.1)).toArray,dummies:=(List.toArray []),finger,led,moves,plain},(live.map (·.2)).toArray,C,?_,⟨?_,?_,rfl,hp,?_,?_,?_⟩,?_,KJ,rfl,rfl,rfl,rfl,rfl,?_⟩
 ·unfold laid;rw[lc];rfl
 ·intro i j hi hj lt;have g:=pw;rw[aez] at g;have zu:i<live.length:=by simpa using hi
  have Yb:j<live.length:=by simpa using hj
  have:=(g i j zu Yb lt).1;simpa using this
 ·show ((live.map (·.1)).toArray).size=_;rw[KJ];simp[len]
 ·rw[KJ];exact hl
 ·intro i j h;have h:(live.map (·.1)).toArray[i]? = some j:=h;rw[V9] at h;cases e:live[i]? with
  |none=>rw[e] at h;cases h
  |some x=>
   rw[e] at h;cases h;have:=(aay.mp ((ml x.1 x.2).mp (aan e))).1;rw[O.sz] at this;exact abG this
 ·intro j e;show C j=some e↔∃i:Nat,(live.map (·.1)).toArray[i]? = some j/\_;rw[hC];constructor
  ·rintro⟨i,h1,h2⟩;obtain⟨n,hn⟩:=List.mem_iff_getElem?.mp ((ml j i).mpr h1);exact⟨n,by rw[V9,hn];rfl,by rw[Xe,hn];exact h2⟩
  ·rintro⟨n,h1,h2⟩;rw[V9] at h1;rw[Xe] at h2;cases q:live[n]? with
   |none=>rw[q] at h1;cases h1
   |some x=>
    rw[q] at h1 h2;cases h1;exact⟨x.2,(ml x.1 x.2).mp (aan q),h2⟩
 ·intro j e h;obtain⟨i,h1,h2⟩:=(hC j e).mp h;obtain⟨n,g1,g2⟩:=O.pt j i h1;have hf:(es[i]?.map (·.1)).getD 0=e.1:=by rw[h2];rfl
  rw[hf] at g1 g2;refine⟨n,g1,λm hm=>?_⟩;obtain⟨i',h3⟩:=g2 m hm;have:=O.ix _ _ h3;exact⟨es[i'],(hC _ _).mpr ⟨i',h3,Z7 this⟩⟩
 ·rw[V8];refine (Xd.filterMap _).trans ?_;have e:(aas es.size).filterMap (es[·]?)=es.toList:=by
   refine ab5 λn=>?_;rw[kI (λx hx=>⟨es[x]'(aao.mp hx),Z7 (aao.mp hx)⟩)];by_cases h:n<es.size
   ·rw[acg h];simp
   ·rw[aaB.mpr (by simpa using h),aaB.mpr (by simpa using h)];rfl
  rw[e]
end Hc.Sx
namespace Hc.Sx
open PySem.SetTable
theorem Al:∀(cI size n:Nat),(∃p,size=2 ^ p)->8<=size->(size<=8\/size<=2*n)->n<size*2 ^ cI->(∃p,sizeAbove.go n cI size=2 ^ p)/\n<sizeAbove.go n cI size/\8<=sizeAbove.go n cI size/\(sizeAbove.go n cI size<=8\/sizeAbove.go n cI size<=2*n)
 |0,size,n,hp,h8,hb,hn=>by
  unfold sizeAbove.go;exact⟨hp,by simpa using hn,h8,hb⟩
 |cI+1,size,n,⟨p,hp⟩,h8,hb,hn=>by
  unfold sizeAbove.go;by_cases c:size<=n
  ·rw[hV c];exact Al cI (size*2) n ⟨p+1,by rw[hp,abD]⟩ (by lia) (.inr (by lia)) (by rw[abD,abP (2 ^ cI) 2,←abg] at hn;exact hn)
  ·rw[hU c];exact⟨⟨p,hp⟩,(by lia),h8,hb⟩
def Ii (h:n<2 ^ 60):(∃p,sizeAbove n=2 ^ p)/\n<sizeAbove n/\8<=sizeAbove n/\(sizeAbove n<=8\/sizeAbove n<=2*n):=
 Al 64 8 n ⟨3,rfl⟩ (ZP _) (.inl (ZP _)) (Nat.lt_trans h (by decide))
structure rQ {prog:abM}{w:acd}{K:Type}[DecidableEq K](knd:adb prog w K):Prop where
 cls:∀{A:aar} {E:ZF->ZT->Prop} {s:ZT} {k:K} {a:ZY} {Q:Bool->ZT->Prop},knd.is s.heap k a->Q false s->Z1 (Z8 prog w) A (ofAClassStatement 8 (.ref a)) Q E s
 byv:∀{A:aar} {E:ZF->ZT->Prop} {s:ZT} {k:K} {a:ZY} {Q:Bool->ZT->Prop},knd.is s.heap k a->Q true s->Z1 (Z8 prog w) A (hashByValue 8 (.ref a)) Q E s
 kept:∀{h h':abT} {k:K} {a d:ZY} {o:Obj} {es:Array (Int×ZF)} {ep:Nat} {t:aaY},knd.is h k a->h.get? d=some o->o.data=.set es ep t->abp d h h'->knd.is h' k a
section
variable {K:Type}[DecidableEq K]{knd:adb prog w K}
noncomputable def Uk (knd:adb prog w K)(x:K×ZY):Int×ZF:=(knd.hash x.1,.ref x.2)
structure HS (knd:adb prog w K)(h:abT)(xs:List (K×ZY))(es:Array (Int×ZF))(t:aaY)(C:Nat->Option (Int×ZF)):Prop where
 tab:D6 t es C
 pth:M9 t.mask (ac4 t.mask) C
 pl:t.plain=true
 lo:7<=t.mask
 hi:t.mask<=8191
 few:es.size*5<t.mask*3
 per:es.toList.Perm (xs.map (Uk knd))
 keys:∀x∈xs,knd.is h x.1 x.2
 nd:(xs.map (·.1)).Nodup
def oT (knd:adb prog w K)(byText:Bool)(h:abT)(a:ZY)(xs:List (K×ZY)):Prop:=
 ∃o es ep t C,h.get? a=some o/\o.ExactSet/\o.data=.set es ep t/\HS knd h xs es t C/\(byText=true\/t.led=true)
variable {A:aar}
def HS.fits {xs:List (K×ZY)}{es:Array (Int×ZF)}{t:aaY}(S:HS knd h xs es t C):t.fits es.size=true:=by
 unfold SetTable.fits SetTable.fill;rw[S.tab.sz,S.tab.dum];simp;exact S.tab.room
theorem HS.stays {xs:List (K×ZY)}{es:Array (Int×ZF)}{t:aaY}(S:HS knd h xs es t C):t.gaveWay=false:=by
 unfold SetTable.gaveWay;obtain⟨p,hp⟩:=S.tab.pow;have:=S.lo;cases p with
 |zero=>lia
 |succ p=>lia
theorem HS.entry {xs:List (K×ZY)}{es:Array (Int×ZF)}{t:aaY}(S:HS knd h xs es t C){e:Int×ZF}(he:e∈es.toList):∃k b,(k,b)∈xs/\e=(knd.hash k,.ref b)/\knd.is h k b:=by
 obtain⟨⟨k,b⟩,hx,rfl⟩:=aal.mp (S.per.mem_iff.mp he);exact⟨k,b,hx,rfl,S.keys _ hx⟩
theorem HS.at {xs:List (K×ZY)}{es:Array (Int×ZF)}{t:aaY}(S:HS knd h xs es t C){e:Int×ZF}(hc:C j=some e):∃k b,(k,b)∈xs/\e=(knd.hash k,.ref b)/\knd.is h k b:=by
 obtain⟨i,_,h2⟩:=(S.tab.con j e).mp hc;exact S.entry (by have:=Array.mem_of_getElem? h2;simpa using this)
theorem HS.has {xs:List (K×ZY)}{es:Array (Int×ZF)}{t:aaY}(S:HS knd h xs es t C){k:K}(hx:(k,b)∈xs):∃j,C j=some (knd.hash k,.ref b):=by
 have:Uk knd (k,b)∈es.toList:=S.per.mem_iff.mpr (aal.mpr ⟨_,hx,rfl⟩);obtain⟨i,hi⟩:=List.mem_iff_getElem?.mp this;rw[Z4] at hi;have h2:i<t.place.size:=by rw[S.tab.sz];exact (aay.mp hi).1
 exact⟨t.place[i],(S.tab.con _ _).mpr ⟨i,Z7 h2,hi⟩⟩
theorem FH (sk:rQ knd){k:K}(hk:knd.is s.heap k b){Q:Bool->ZT->Prop}(l:List ZF)(hl:∀y∈l,∃k' b',y=.ref b'/\knd.is s.heap k' b')(h:Q false s):Z1 (Z8 prog w) A (searchCouldBeSeen (.ref b) l) Q E s:=by
 unfold searchCouldBeSeen;refine Zv ?_;refine adI _ (λrest r s'=>r.1=none/\s'=s/\∀y∈rest,∃k' b',y=.ref b'/\knd.is s.heap k' b') _ ?_ ?_ _ _ ⟨rfl,rfl,hl⟩
 ·rintro y rest r s' ⟨hr,rfl,hy⟩;obtain⟨k',b',rfl,OC⟩:=hy y ZA;have next:∀z∈rest,∃k' b',z=Value.ref b'/\knd.is s'.heap k' b':=λz hz=>hy z (ZC _ hz)
  dsimp only;split
  ·exact Zy ⟨rfl,rfl,next⟩
  ·refine Zv (knd.quiet hk ?_);simp only[acf,Z9,if_false];refine Zv (knd.quiet OC ?_);simp only[acf,Z9,if_false];refine Zv (sk.cls hk ?_);simp only[Z9,if_false];refine Zv (sk.cls OC ?_);simp only[Z9,if_false];exact Zy ⟨rfl,rfl,next⟩
 ·rintro⟨r1,r2⟩ s' ⟨hr,rfl,_⟩;simp only at hr;subst hr;exact Zy h
end
end Hc.Sx
namespace Hc.Sx
open PySem.SetTable
section
variable {K:Type}[DecidableEq K]{knd:adb prog w K}{A:aar}
variable {o:Obj}{es:Array (Int×ZF)}{t:aaY}{xs:List (K×ZY)}{k:K}
noncomputable abbrev D_ (t:aaY)(h:Int)(n:Nat):Nat:=(advs t.mask n (ac4 t.mask h)).j
theorem rR (sk:rQ knd)(hr:knd.room A)(hk:knd.is s.heap k b)(ho:s.heap.get? a=some o)(hd:o.data=.set es ep t)(S:HS knd s.heap xs es t C){Q:SetFound->ZT->Prop}{N:Nat}(hN:C (D_ t (knd.hash k) N)=none)
  (zw:k∈xs.map (·.1)->Q (.there none) s)
  (v8:k∉xs.map (·.1)->∀n,(∀m,m<n->∃e,C (D_ t (knd.hash k) m)=some e)->C (D_ t (knd.hash k) n)=none->Q (.free (D_ t (knd.hash k) n) false) s) :
  ∀(cI n:Nat) (stand:Option Probe),stand.getD (t.probeStart (knd.hash k))=advs t.mask n (ac4 t.mask (knd.hash k))->N<n+cI->(∀m,m<n->∃k' b',C (D_ t (knd.hash k) m)=some (knd.hash k',.ref b')/\(k',b')∈xs/\k'≠k)->
   Z1 (Z8 prog w) A (setSearchFrom a (.ref b) (knd.hash k) true cI stand) Q E s
 |0,n,stand,hs,hf,hb=>by
  obtain⟨k',b',e,_⟩:=hb N (by lia);rw[e] at hN;cases hN
 |cI+1,n,stand,hs,hf,hb=>by
  unfold setSearchFrom;refine Zv (aaP ho hd S.fits ?_);dsimp only;rw[S.stays];simp only[Z9,if_false];obtain⟨m',g1,g2⟩:=Ci S.tab (hashAt:=λi=>(es[i]?.map (·.1)).getD 0) (λi e h=>by show (es[i]?.map (·.1)).getD 0=e.1;rw[h];rfl) (knd.hash k) (mL.advs n (mL.start t (knd.hash k)));have pa:∀x,(advs t.mask x (advs t.mask n (t.probeStart (knd.hash k)))).j=D_ t (knd.hash k) (n+x):=λx=>by rw[←jR];rfl
  have UG:∀m,m<n+m'->∃k' b',C (D_ t (knd.hash k) m)=some (knd.hash k',.ref b')/\(k',b')∈xs/\k'≠k:=λm hm=>by
   rcases ac3 m n with z|z
   ·exact hb m z
   ·obtain⟨e,h1,h2⟩:=g1 (m-n) (by lia);rw[pa,show n+(m-n)=m by lia] at h1;obtain⟨k',b',hx,rfl,_⟩:=S.at h1;exact⟨k',b',h1,hx,λz=>h2 (by rw[z])⟩
  have pe:t.probe (λi=>(es[i]?.map (·.1)).getD 0) (knd.hash k) (stand.getD (t.probeStart (knd.hash k)))=t.probe (λi=>(es[i]?.map (·.1)).getD 0) (knd.hash k) (advs t.mask n (t.probeStart (knd.hash k))):=by rw[hs];rfl
  rcases g2 with⟨c1,c2⟩|⟨e,i,c1,c2,c3,c4,c5⟩
  ·
   have V_:=pe.trans c2;rw[pa] at c1 V_;have nx:k∉xs.map (·.1):=λhm=>by
    obtain⟨⟨k0,b0⟩,hx,rfl⟩:=aal.mp hm;obtain⟨j,hj⟩:=S.has hx;obtain⟨m,hm,hmj⟩:=S.pth.met c1 hj rfl;obtain⟨k',b',h1,h2,h3⟩:=UG m hm;have h1:C j=some (knd.hash k',.ref b'):=by rw[←hmj];exact h1
    rw[hj] at h1;have eb:b0=b':=by
     have:=(Prod.mk.inj (Z0 h1)).2;injection this
    subst eb;exact h3 (knd.inj (S.keys _ h2) (S.keys _ hx))
   have fin:=v8 nx (n+m') (λm hm=>let ⟨k',b',h1,_⟩:=UG m hm;⟨_,h1⟩) c1;split
   ·rename_i met hq;have e:=(hq.symm.trans V_);cases e;exact Zy fin
   ·rename_i hq;exact absurd V_ (by intro z;exact hq _ z)
  ·
   have QN:=pe.trans c5;rw[pa] at c1 c4 QN;rw[←jR] at QN;obtain⟨k',b',hx,rfl,OC⟩:=S.at c1;have lN:n+m'<N:=by
    rcases adt N (n+m') with z|z|z
    ·obtain⟨_,_,e,_⟩:=UG N z;rw[e] at hN;cases hN
    ·rw[z,c1] at hN;cases hN
    ·exact z
   have body:∀R:Sem SetFound,R=(do
     let some (_,y):=es[i]? | unsupported "internal:set-entry"
     let equal ←holding [y] (eqBool y (.ref b))
     let (Kr,_,t') ←setState a
     if true&&equal then return .there none
     let some same:=t'.sameMemory t.moves t.mask|unsupported "set.changed-during-lookup:is-the-new-block-at-the-old-address"
     let E6 ←match (if same then t'.slot (D_ t (knd.hash k) (n+m')) else .empty) with
      | .live i'=>match Kr[i']? with
       |some (_,y')=>do pure (if ←isSame y' y then some i' else none)
       |none=>pure none
      |_=>pure none
     match E6 with
     |none=>rule "set.search.anew";setSearchFrom a (.ref b) (knd.hash k) true cI none
     |some i'=>if equal then return .there (some i') else setSearchFrom a (.ref b) (knd.hash k) true cI (some (advs t.mask (n+(m'+1)) (t.probeStart (knd.hash k)))))->Z1 (Z8 prog w) A R Q E s:=λR hR=>by
    subst hR;rw[c3];dsimp only;refine Zv (aaW (knd.eqBool hr OC hk ?_));refine Zv (aaP ho hd S.fits ?_);dsimp only;by_cases q:k'=k
    ·rw[hG q];simp only[Bool.and_self,if_true];subst q;exact Zy (zw (aal.mpr ⟨_,hx,rfl⟩))
    ·rw[hJ q];simp only[adA,Z9,if_false];have sm:t.sameMemory t.moves t.mask=some true:=by unfold SetTable.sameMemory;simp
     rw[sm];dsimp only;obtain⟨i2,l1,l2,l3⟩:=S.tab.live c1;rw[l1];simp only[if_true];rw[l2];dsimp only;refine Zv (wpAny_isSame_ref_self ?_);simp only[if_true];refine Zv (Zy ?_);dsimp only;refine rR sk hr hk ho hd S hN zw v8 cI (n+(m'+1)) _ rfl (by lia) λm hm=>?_;rcases ac3 m (n+m') with z|z
     ·exact UG m z
     ·have:m=n+m':=(by lia)
      subst this;exact⟨k',b',c1,hx,q⟩
   split
   ·rename_i met hq;have e:=(hq.symm.trans QN);cases e;dsimp only;split
    ·refine Zv (FH sk hk _ (λy hy=>?_) ?_)
     ·obtain⟨e,he,rfl⟩:=aal.mp hy;have he:e∈es.toList:=by
       have:e∈(es.filter λx=>x.1==knd.hash k):=by simpa using he
       have:=(Array.mem_filter.mp this).1;simpa using this
      obtain⟨k2,b2,_,rfl,h2⟩:=S.entry he;exact⟨k2,b2,rfl,h2⟩
     ·simp only[Z9,if_false];exact body _ rfl
    ·exact body _ rfl
   ·rename_i hq;exact absurd QN (by intro z;exact hq _ z)
theorem FI (sk:rQ knd)(hr:knd.room A)(hk:knd.is s.heap k b)(ho:s.heap.get? a=some o)(hd:o.data=.set es ep t)(S:HS knd s.heap xs es t C){Q:SetFound->ZT->Prop}
  (zw:k∈xs.map (·.1)->Q (.there none) s)
  (v8:k∉xs.map (·.1)->∀n,(∀m,m<n->∃e,C (D_ t (knd.hash k) m)=some e)->C (D_ t (knd.hash k) n)=none->Q (.free (D_ t (knd.hash k) n) false) s) :
  Z1 (Z8 prog w) A (setSearch a (.ref b) (knd.hash k) true) Q E s:=by
 obtain⟨y,hy,hc⟩:=S.tab.free;obtain⟨p,hp⟩:=S.tab.pow;obtain⟨N,h1,h2⟩:=xx hp (mL.start t (knd.hash k)) hy;unfold setSearch;refine rR sk hr hk ho hd S (N:=N) (by show C (advs t.mask N (t.probeStart (knd.hash k))).j=none;rw[h2];exact hc) zw v8 100000 0 none rfl ?_ λm hm=>by lia
 have:=S.hi;unfold turns at h1;lia
end
end Hc.Sx
namespace Hc.Sx
open PySem.SetTable
def ow {α:Type}(xs:Array α)(p:Nat)(x:α):(insertAt xs p x).toList.Perm (xs.toList++[x]):=by
 rw[kH];have h:(x::xs.toList.drop p).Perm (xs.toList.drop p++[x]):=(List.perm_append_singleton x _).symm;refine (abq _ h).trans ?_;rw[←aac,adE]
section
variable {K:Type}[DecidableEq K]{knd:adb prog w K}{A:aar}
variable {o:Obj}{es:Array (Int×ZF)}{t:aaY}{xs:List (K×ZY)}{k:K}{byText:Bool}
noncomputable def ox (xs:List (K×ZY))(k:K)(b:ZY):List (K×ZY):=if k∈xs.map (·.1) then xs else xs++[(k,b)]
def stored (ho:h.get? a=some o)(hd:o.data=.set es ep t)(Kr:Array (Int×ZF))(t':aaY) :
  (h.update a (aeL Kr t')).get? a=some {o with data:=.set Kr (ep+1) t'}:=by
 have:=aa_ (aeL Kr t') ho (by rw[putSet_of Kr t' hd];rfl);rw[putSet_of Kr t' hd] at this;exact this
theorem Ij {h:abT}(sk:rQ knd)(ho:s.heap.get? a=some o)(KG:o.ExactSet)(hd:o.data=.set es ep t)(tab:D6 t es C)(pl:t.plain=true)(per:es.toList.Perm (xs.map (Uk knd)))(keys:∀x∈xs,knd.is s.heap x.1 x.2)(nd:(xs.map (·.1)).Nodup)(led:byText=true\/t.led=true)(hn:es.size=n)(Zf:1<=n)(Xf:n<=2047){Q:Unit->ZT->Prop}(q:∀h',abp a s.heap h'->oT knd byText h' a xs->Q () {s with heap:=h'}) :
  Z1 (Z8 prog w) A (setRelay a (grown n)) Q E s:=by
 have hw:grown n=n*4:=by unfold grown;rw[hU (by lia)]
 have ab:=Ii (n:=grown n) (by rw[hw];exact ac_ (show n*4<=8192 by lia) (by decide));have sz:ZH=16777216:=rfl;generalize eS:sizeAbove (grown n)=sA at ab;obtain⟨⟨p,hp⟩,a1,a2,a3⟩:=ab;have m1:sA-1+1=2 ^ p:=(by lia)
 have m8:sA<=8192:=by
  have Zg:p<14:=by
   refine abV λz=>?_;have Zh:(2:Nat) ^ 14<=2 ^ p:=adP (by decide) (by lia);rw[hw] at a3;lia
  have Zi:(2:Nat) ^ p<=2 ^ 13:=adP (by decide) (by lia);lia
 have Yc:t.fits es.size=true:=by
  unfold SetTable.fits SetTable.fill;rw[tab.sz,tab.dum];simp;exact tab.room
 obtain⟨t',order,C',h1,T',P',hsz,e1,e2,e3,e4,e5,Kl⟩:=nN (mask:=sA-1) (finger:=t.finger) (moves:=t.movedTo (sA-1)) (led:=t.led) (plain:=t.plain) (es:=es) ⟨p,m1⟩ (by rw[hw] at a1;lia);unfold setRelay;refine Zv (aaP ho hd Yc ?_);dsimp only;rw[eS,hU (by rw[hw] at a3;lia)];have hr:t.relaid (es.map (·.1)) (grown n)=some (t',order):=by unfold SetTable.relaid;rw[eS];exact h1
 have KJ:(order.filterMap (es[·]?)).size<=ZH:=by rw[hsz,hn];lia
 have MJ:¬(((order.filterMap (es[·]?)).size != es.size)=true):=by rw[hsz];simp
 refine Zv (adu (a:=(order.filterMap (es[·]?),t')) (by rw[hr];exact hU MJ) ?_);refine wpAny_storeSet_of ho hd ?_ KJ;have QO:=aaJ s.heap a (aeL (order.filterMap (es[·]?)) t');refine q _ QO ⟨_,_,_,t',C',stored ho hd _ _,KG,rfl,⟨T',by rw[e1];exact P',by rw[e5];exact pl,by rw[e1];lia,by rw[e1];rw[hw] at a3;lia,by rw[hsz,e1,hn];rw[hw] at a1;lia,?_,λx hx=>sk.kept (keys x hx) ho hd QO,nd⟩,led.imp id λz=>by rw[e4];exact z⟩;exact Kl.trans per
end
end Hc.Sx
namespace Hc.Sx
open PySem.SetTable
section
variable {K:Type}[DecidableEq K]{knd:adb prog w K}{A:aar}
variable {xs:List (K×ZY)}{k:K}{byText:Bool}
def Cj (b:ZY)(es:Array (Int×ZF)):byScan (.ref b) es=false:=by rfl
theorem PR (sk:rQ knd)(hr:knd.room A)(hk:knd.is s.heap k b)(hS:oT knd byText s.heap a xs)(hl:xs.length+1<=2047){Q:Bool->ZT->Prop}
  (q:∀h' r,abp a s.heap h'->oT knd byText h' a (ox xs k b)->Q r {s with heap:=h'}):Z1 (Z8 prog w) A (setAddHashed a (.ref b) (knd.hash k)) Q E s:=by
 obtain⟨o,es,ep,t,C,ho,KG,hd,S,led⟩:=hS;have Zj:es.size=xs.length:=by have:=S.per.length_eq;simpa using this
 unfold setAddHashed setAddHashedIn;refine aaW (Zv (aaP ho hd S.fits ?_));dsimp only;rw[Cj];simp only[Z9,if_false];refine Zv (FI sk hr hk ho hd S (λzq=>?_) λTU n hb hc=>?_)
 ·dsimp only;refine Zy ?_;have e:s={s with heap:=s.heap}:=by cases s;rfl
  rw[e];exact q s.heap false (Heap.SameBut.refl a s.heap) (by unfold ox;rw[hV zq];exact⟨o,es,ep,t,C,ho,KG,hd,S,led⟩)
 ·dsimp only;refine Zv (aaP ho hd S.fits ?_);dsimp only;have few:=S.few;have lo:=S.lo;have jm:D_ t (knd.hash k) n<=t.mask:=by
   obtain⟨p,hp⟩:=S.tab.pow;have:∀n,(advs t.mask n (ac4 t.mask (knd.hash k))).j+(advs t.mask n (ac4 t.mask (knd.hash k))).more<=t.mask:=by
    intro n
    induction n with
    |zero=>
     show bits (knd.hash k) % (t.mask+1)+(runEnd t.mask (bits (knd.hash k) % (t.mask+1))-bits (knd.hash k) % (t.mask+1))<=t.mask;have:bits (knd.hash k) % (t.mask+1)<t.mask+1:=acN _ (acE _);unfold runEnd;split<;>lia
    |succ n ih=>
     rw[xw];unfold adv;split
     ·dsimp only;lia
     ·dsimp only;have:(leap t.mask (advs t.mask n (ac4 t.mask (knd.hash k))).i (advs t.mask n (ac4 t.mask (knd.hash k))).perturb).1<t.mask+1:=acN _ (acE _);unfold runEnd;split<;>lia
   have:=this n;show (advs t.mask n (ac4 t.mask (knd.hash k))).j<=t.mask;lia
  obtain⟨T1,p1,p2,p3,p4,p5⟩:=S.tab.put (e:=(knd.hash k,Value.ref b)) jm hc (by lia);have P1:=M9.up S.pth (e:=(knd.hash k,Value.ref b)) hb hc;generalize et:(t.put (D_ t (knd.hash k) n)).1=t1 at *;generalize ei:(t.put (D_ t (knd.hash k) n)).2=ip at *;have KJ:(insertAt es ip (knd.hash k,Value.ref b)).size=es.size+1:=by
   have:=(ow es ip (knd.hash k,Value.ref b)).length_eq;simpa using this
  rw[hV (by rw[p2];exact S.pl)];refine Zv (sk.byv hk ?_);simp only[if_true];have sl:ZH=16777216:=rfl;refine Zv (wpAny_storeSet_of ho hd ?_ (by rw[KJ];lia));have QO:=aaJ s.heap a (aeL (insertAt es ip (knd.hash k,Value.ref b)) t1);have Xg:=stored ho hd (insertAt es ip (knd.hash k,Value.ref b)) t1;have Xh:ox xs k b=xs++[(k,b)]:=by unfold ox;rw[hU TU]
  have TV:(insertAt es ip (knd.hash k,Value.ref b)).toList.Perm ((xs++[(k,b)]).map (Uk knd)):=by
   rw[aae];exact (ow _ _ _).trans (List.Perm.append_right _ S.per)
  have OD:∀x∈xs++[(k,b)],knd.is (s.heap.update a (aeL (insertAt es ip (knd.hash k,Value.ref b)) t1)) x.1 x.2:=λx hx=>by
   rcases aab.mp hx with z|z
   ·exact sk.kept (S.keys x z) ho hd QO
   ·rw[ZV.mp z];exact sk.kept hk ho hd QO
  have UH:((xs++[(k,b)]).map (·.1)).Nodup:=by
   rw[aae,abH];exact⟨S.nd,by simp,λx hx y hy e=>by
    simp at hy;subst e hy;exact TU hx⟩
  have TX:byText=true\/t1.led=true:=led.imp id λz=>by rw[p3];exact z
  have TY:t1.fill=es.size+1:=by
   unfold SetTable.fill;rw[T1.sz,T1.dum,KJ];rfl
  cases tf:t1.tooFull with
  |false=>
   simp only[aeA,adA,Z9,if_false];refine Zy (q _ true QO ?_);rw[Xh];refine⟨_,_,_,t1,_,Xg,KG,rfl,⟨T1,by rw[p1];exact P1,by rw[p2];exact S.pl,by rw[p1];exact lo,by rw[p1];exact S.hi,?_,TV,OD,UH⟩,TX⟩;unfold SetTable.tooFull at tf;rw[TY] at tf;rw[KJ];simpa using tf
  |true=>
   simp only[aeA,Bool.and_self,if_true];refine Zv (Ij (h:=s.heap) (s:={s with heap:=s.heap.update a (aeL (insertAt es ip (knd.hash k,Value.ref b)) t1)}) sk Xg KG rfl T1 (by rw[p2];exact S.pl) TV OD UH TX KJ (by lia) (by lia) λh' Wa H'=>?_);refine Zy (q h' true (QO.trans Wa) ?_);rw[Xh];exact H'
theorem Ik {led:Bool}(hl:byText=true\/led=true)(hg:h.get? a=some {cls:=.type "set",dict:=none,data:=.set (List.toArray []) 0 (.fresh 0 0 led)}):oT knd byText h a []:=by
 refine⟨_,(List.toArray []),0,.fresh 0 0 led,λ_=>none,hg,⟨rfl,rfl,rfl⟩,rfl,⟨⟨λi j hi=>absurd hi (Nat.not_lt_zero _),rfl,rfl,⟨3,rfl⟩,aaI _,λi j h=>?_,λj e=>⟨λh=>(by cases h),fun⟨i,h,_⟩=>?_⟩⟩,λj e h=>(by cases h),rfl,ZP _,(show (7:Nat)<=8191 by decide),(show 0*5<7*3 by decide),aa5 _,λx hx=>(by cases hx),adB⟩,hl⟩
 ·have h:((List.toArray []):Array Nat)[i]? = some j:=h;simp at h
 ·have h:((List.toArray []):Array Nat)[i]? = some j:=h;simp at h
end
end Hc.Sx
namespace Hc.Sx
open PySem.SetTable
section
variable {K:Type}[DecidableEq K]{knd:adb prog w K}{A:aar}
variable {xs:List (K×ZY)}{k:K}{byText:Bool}
theorem oT.keep (H:oT knd byText h a xs)(e:∀o,h.get? a=some o->h'.get? a=some o)(hk:∀x∈xs,knd.is h' x.1 x.2):oT knd byText h' a xs:=by
 obtain⟨o,es,ep,t,C,ho,KG,hd,S,led⟩:=H;exact⟨o,es,ep,t,C,e o ho,KG,hd,⟨S.tab,S.pth,S.pl,S.lo,S.hi,S.few,S.per,hk,S.nd⟩,led⟩
theorem oT.setAt (H:oT knd byText h a xs):∃o es ep t,h.get? a=some o/\o.data=.set es ep t:=by
 obtain⟨o,es,ep,t,C,ho,KG,hd,S,led⟩:=H;exact⟨o,es,ep,t,ho,hd⟩
noncomputable def fD (val:Nat->K×ZY):Nat->List (K×ZY)
 |0=>[]
 |i+1=>ox (fD val i) (val i).1 (val i).2
theorem Am (val:Nat->K×ZY){i:Nat}:∀{n:Nat},i<=n->(fD val i).length<=(fD val n).length
 |0,h=>by rw[Nat.le_zero.mp h];exact ZP _
 |n+1,h=>by
  by_cases e:i=n+1
  ·rw[e];exact ZP _
  ·refine aaz (Am val (n:=n) (by lia)) ?_;show (fD val n).length<=(ox _ _ _).length;unfold ox;split
   ·exact ZP _
   ·rw[ZJ];lia
theorem nO (val:Nat->K×ZY):∀(i:Nat) (x:K×ZY),x∈fD val i->∃j,j<i/\x=val j
 |0,x,h=>by cases h
 |i+1,x,h=>by
  unfold fD ox at h;split at h
  ·obtain⟨j,h1,h2⟩:=nO val i x h;exact⟨j,(by lia),h2⟩
  ·rcases aab.mp h with z|z
   ·obtain⟨j,h1,h2⟩:=nO val i x z;exact⟨j,(by lia),h2⟩
   ·exact⟨i,(by lia),ZV.mp z⟩
variable {R:Result->ZT->Prop}{I:ZY}{wr:List ZY}{G:Array GenState->Array GenState->Prop}{P:Nat->ZF->Prop}{St:Nat->ZT->Prop}
theorem FJ (sk:rQ knd)(hr:knd.room A.in1)(W:WalksS prog w A.in1 I fp wr G n P St)(S:ZY)(Xi:S∉fp)(val:Nat->K×ZY)(Wb:∀i v,P i v->v=.ref (val i).2)(hn:(fD val n).length+1<=2047)
  (mv:∀i (s s':ZT),i<=n->St i s->Moved wr G s s'->(∀j,j<n->knd.is s.heap (val j).1 (val j).2)->∀j,j<n->knd.is s'.heap (val j).1 (val j).2) :
  ∀(d i:Nat) (s:ZT),n-i=d->i<=n->St i s->(∀j,j<n->knd.is s.heap (val j).1 (val j).2)->oT knd byText s.heap S (fD val i)->
   (∀s',Moved (S::wr) G s s'->(∀j,j<n->knd.is s'.heap (val j).1 (val j).2)->oT knd byText s'.heap S (fD val n)->R (.ok (.ret .none)) s')->
   codeAny (Z8 prog w) A (.builtin "set.update.loop" ⟨[.ref S,.ref I],[]⟩) R s:=by
 have nS:S∉wr:=λh=>Xi (W.sub _ h);have up:∀b∈wr,b∈S::wr:=λb hb=>ZC _ hb;have E6:∀i (s s':ZT),i<=n->St i s->Moved wr G s s'->(∀j,j<n->knd.is s.heap (val j).1 (val j).2)->oT knd byText s.heap S (fD val i)->oT knd byText s'.heap S (fD val i):=λi s s' hi st m hk H=>
  H.keep (λo e=>m.heap S o nS e) λx hx=>by
   obtain⟨j,h1,rfl⟩:=nO val i x hx;exact mv i s s' hi st m hk j (by lia)
 intro d
 induction d with
 |zero=>
  intro i s hd hi st hk H q;obtain rfl:i=n:=(by lia)
  refine acG F.entry_set_update_loop ?_;rw[abX adf _];show Z1 _ A.in1 (adO (Value.ref I) >>= _) _ _ s;refine Zv (W.done s _ _ st λs' m=>?_);exact Zy (q s' (m.mono up) (mv i s s' hi st m hk) (E6 i s s' hi st m hk H))
 |succ d ih=>
  intro i s hd hi st hk H q;have lt:i<n:=(by lia)
  refine acG F.entry_set_update_loop ?_;rw[abX adf _];show Z1 _ A.in1 (adO (Value.ref I) >>= _) _ _ s;refine Zv (W.item i s _ _ lt st λv s1 hP BC m=>?_);obtain rfl:=Wb i v hP;have H1:=E6 i s s1 hi st m hk H;have QP:=mv i s s1 hi st m hk;show Z1 _ A.in1 (holding [Value.ref (val i).2] (setAdd S (Value.ref (val i).2)) >>= _) _ _ s1;refine Zv (aaW ?_);unfold setAdd;refine aaW (Zv (knd.pyHash hr (QP i lt) ?_));refine PR (s:={s1 with toks:=s1.toks+knd.draws (val i).1}) sk hr (QP i lt) H1 (by have:=Am val hi;lia) λh' r sb H2=>?_;obtain⟨oS,eS,epS,tS,gS,dS⟩:=H1.setAt;have Xj:∀j,j<n->knd.is h' (val j).1 (val j).2:=λj hj=>sk.kept (QP j hj) gS dS sb;refine Zy ⟨plainId_quiet adf _,ih (i+1) _ (by lia) lt (W.frame _ s1 _ _ BC (acp _ _) λb hb o e=>?_) Xj H2 λs2 m2 Yd H3=>?_⟩
  ·rw[sb.2 b (λz:b=S=>Xi (by rw[←z];exact hb))];exact e
  ·refine q s2 (Moved.trans W.gtrans ((m.mono up).then_heap (acp _ _) λb o hb e=>?_) m2) Yd H3;rw[sb.2 b (λz:b=S=>hb (by rw[z];exact ZA))];exact e
end
end Hc.Sx
namespace Hc.Sx
open PySem.SetTable
noncomputable abbrev BH (w:acd):Bool:=w.params.followText "set-order"
noncomputable abbrev newS (w:acd):Obj:={cls:=.type "set",dict:=none,data:=.set (List.toArray []) 0 (.fresh 0 0 (!BH w))}
section
variable {A:aar}
theorem Il (x:ZF)(q:Q (.ref s.heap.objs.size) {s with heap:=s.heap.push (newS w)}):codeAny (Z8 prog w) A (.call (.builtin "set.__new__") ⟨[.type "set",x],[]⟩) (wants Q E) s:=by
 refine codeAny_of_tree ?_;show Z1 _ A.in1 (do checkBuiltinCall "set.__new__" ⟨[Value.type "set",x],[]⟩;again (.builtin "set.__new__" ⟨[Value.type "set",x],[]⟩)) _ _ s;refine Zv (adu (PySem.F.newCall_set_1 x) (Zy ⟨plainId_quiet PySem.F.plain_set_new _,acG PySem.F.entry_set_new ?_⟩));rw[abX PySem.F.plain_set_new _];unfold Builtin.«set.__new__» Builtin.Frozenset.newClass;have sb:=sub_set_self;obtain⟨hp,g,d,tk,os⟩:=s;dsimp only;wp_walk;refine aby (Zy ?_);dsimp only;simp only[newObj];exact Zv (wpAny_alloc (Zy (Zy q)))
theorem set_call {t:ZY}(R:ZT->Prop)(fill:Z1 (Z8 prog w) A.in1.in1 (Builtin.«set.__init__» ⟨[.ref s.heap.objs.size,.ref t],[]⟩) (λfin s'=>∃r,fin=.done (.ret r)/\r=.none/\R s') E {s with heap:=s.heap.push (newS w)})(q:∀s',R s'->Q (.ref s.heap.objs.size) s'):Z1 (Z8 prog w) A (call (.type "set") [.ref t]) Q E s:=by
 obtain⟨c0,tl0,mro0⟩:=PySem.F.called_set.mro;have Zk:=PySem.F.called_set.made;have Zl:=PySem.F.called_set.sub;have Zm:=PySem.F.called_set.notType;have Zn:=PySem.F.called_set.canCreate;have Zo:=PySem.F.typeCall_set_1 (Value.ref t);refine wpAny_call (codeAny_of_tree ?_);show Z1 _ _ (callAny (Value.type "set") _) _ _ _;refine Zy ⟨Code.quiet_builtin _ (by decide+kernel),acG PySem.F.entry_type_call ?_⟩;rw[Around.under_plain (weight_type_call_type "set" [Value.ref t] []) rfl]
 repeat (any_goals first|assumption|wp_step)
 refine aem (Il (Value.ref t) (E:=E) (Q:=λx s1=>x=.ref s.heap.objs.size/\s1={s with heap:=s.heap.push (newS w)}) ⟨rfl,rfl⟩) λr s1 hr=>?_;cases r with
 |error e=>exact hr
 |ok fl=>
  cases fl with
  |ret ob=>
   obtain⟨rfl,rfl⟩:=hr;have gS:(s.heap.push (newS w)).get? s.heap.objs.size=some (newS w):=ZQ _ rfl;have tS:Shared.TypeIs {s with heap:=s.heap.push (newS w)} (.ref s.heap.objs.size) "set":=⟨_,gS,rfl⟩;have il:=PySem.F.called_set.init.lookup;have ib:=PySem.F.called_set.init.bind (Value.ref s.heap.objs.size)
   repeat (any_goals first|assumption|wp_step)
   refine aem (codeAny_call_builtin (R:=wants (λr s2=>r=.none/\R s2) E) PySem.F.called_set.init.plain PySem.F.entry_set_init (check_set_init_1 tS ?_)) λr2 s2 g7=>?_
   ·exact aaN fill (λfin s' ⟨r,e,h1,h2⟩=>by subst e;exact⟨h1,h2⟩) (λe s' h=>h)
   ·cases r2 with
    |error e=>exact g7
    |ok f2=>
     cases f2 with
     |ret r=>
      obtain⟨rfl,h2⟩:=g7
      repeat (any_goals first|assumption|wp_step)
      exact q _ h2
     |_=>exact g7.elim
  |_=>exact hr.elim
variable {K:Type}[DecidableEq K]{knd:adb prog w K}
theorem An {l:ZY}{its:Array ZF}(sk:rQ knd)(mono:∀{h h':abT} {k:K} {a:ZY},knd.is h k a->(∀b its,h.IsTuple b its->h'.IsTuple b its)->knd.is h' k a)(hr:knd.room A.in1.in1.in1)(hh:A.handled=none)(hl:s.heap.IsList l its)(val:Nat->K×ZY)(hv:∀(i:Nat) (v:ZF),its[i]? = some v->v=.ref (val i).2)(hk:∀j,j<its.size->knd.is s.heap (val j).1 (val j).2)(hb:(fD val its.size).length+1<=2047)(q:∀(h':abT) (tk:Nat),oT knd (BH w) h' s.heap.objs.size (fD val its.size)->(∀b o,s.heap.get? b=some o->h'.get? b=some o)->Q (.ref s.heap.objs.size) {s with heap:=h',toks:=tk}) :
  Z1 (Z8 prog w) A (call (.type "set") [.ref l]) Q E s:=by
 refine set_call (λs'=>∃h' tk,s'={s with heap:=h',toks:=tk}/\oT knd (BH w) h' s.heap.objs.size (fD val its.size)/\∀b o,s.heap.get? b=some o->h'.get? b=some o) ?_ λs' ⟨h',tk,e,h1,h2⟩=>by subst e;exact q h' tk h1 h2
 obtain⟨ot,gt,ct,nt,dt⟩:=hl;obtain⟨oc,od,oda,os⟩:=ot;simp only at ct dt;subst ct;subst dt;have Wc:(s.heap.push (newS w)).get? l=some {cls:=.type "list",dict:=od,data:=.seq its nt,slots:=os}:=Zx _ gt;have gS:(s.heap.push (newS w)).get? s.heap.objs.size=some (newS w):=ZQ _ rfl;have n1:=PySem.F.sub_list_set;have n2:=PySem.F.sub_list_frozenset;have n3:(Value.type "list"==Value.type "dict")=false:=by decide
 have QQ:(s.heap.push (newS w)).IsList l its:=⟨_,Wc,rfl,nt,rfl⟩;unfold Builtin.«set.__init__» noKeywords adU;generalize ePI:pyIter=PI;wp_walk;subst ePI;refine adm QQ ?_;refine Zv (wpAny_runValue ?_);have lt:l<s.heap.objs.size:=ZU gt;have h3:A.in1.in1.in1.handled=none:=by simp[hh]
 have Wd:l≠(s.heap.push (newS w)).objs.size:=by rw[aaU];exact Z6 (abF lt)
 have ni:s.heap.objs.size∉[(s.heap.push (newS w)).objs.size,l]:=by
  rw[aaU];simp only[ZK,aaM,or_false,not_or];exact⟨Z6 (adJ _),acz lt⟩
 have Xk:∀(h:abT) (o:Obj) b its,h.IsTuple b its->(h.push o).IsTuple b its:=λh o b its x=>x.push o;refine FJ (byText:=BH w) sk hr ((Walks.list h3 _ l Wd its).toS) s.heap.objs.size ni val hv hb (λi u u' _ st m ks j hj=>?_) (its.size-0) 0 _ (by lia) (aaI _) ⟨⟨_,ZQ _ rfl,rfl,rfl⟩,QQ.push _⟩ (λj hj=>mono (hk j hj) λb i2 x=>Xk _ _ _ _ (Xk _ _ _ _ x)) ?z0 ?zR
 ·refine mono (ks j hj) λb i2 ⟨o,e,c,n,d⟩=>⟨o,m.heap b o (λhm=>?_) e,c,n,d⟩;rw[ZV] at hm;subst hm;obtain⟨o2,e2,c2,_⟩:=st.1;rw[e] at e2;cases e2;rw[c] at c2;exact absurd c2 (by decide)
 case z0=>exact Ik (by cases BH w<;>simp) (Zx _ gS)
 case zR=>
  intro s' hm _ Ox;obtain⟨h',g',d',tk',o'⟩:=s';have eg:g'=s.gens:=hm.gens;have ed:d'=s.drawn:=hm.drawn;have We:o'=s.os:=hm.os;subst eg;subst ed;subst We;show Z1 _ _ _ _ _ _;refine Zy ?_;show Z1 _ _ (ret Value.none) _ _ _;refine Zy ⟨_,rfl,rfl,h',tk',rfl,Ox,λb o e=>?_⟩;have TZ:=ZU e;refine hm.heap b o ?_ (Zx _ (Zx _ e));rw[aaU];simp only[ZK,aaM,or_false,not_or];exact⟨Z6 TZ,Z6 (abF TZ)⟩
end
end Hc.Sx
namespace L2
noncomputable def oy (ns:List Int):List Int:=ns.foldl step_dedup []
def pU (ns:List Int):firstMet (λi=>ns.getD i 0) ns.length=oy ns:=by
 unfold firstMet oy;congr 1;apply List.ext_getElem (by simp);intro i h1 h2;simp[acU,Zw h2]
section
variable {A:aar}
theorem Ck {t:ZY}{its:Array ZF}(hh:A.handled=none)(ht:s.heap.IsTuple t its)(hi:abA its.toList ns)(hb:its.size+1<scanBound)(q:∀(h':abT) (tk:Nat) (S:Int->Bool),h'.SetOf (aew prog w) s.heap.objs.size S (oy ns).length->(∀b o,s.heap.get? b=some o->h'.get? b=some o)->Q (.ref s.heap.objs.size) {s with heap:=h',toks:=tk}) :
  Z1 (Z8 prog w) A (call (.type "set") [.ref t]) Q E s:=by
 have sz:its.size=ns.length:=by have:=hi.length;simpa using this
 refine Hc.Sx.set_call (λs'=>∃h' tk S,s'={s with heap:=h',toks:=tk}/\h'.SetOf (aew prog w) s.heap.objs.size S (oy ns).length/\∀b o,s.heap.get? b=some o->h'.get? b=some o) ?_ λs' ⟨h',tk,S,e,h1,h2⟩=>by subst e;exact q h' tk S h1 h2
 obtain⟨ot,gt,ct,nt,dt⟩:=ht;obtain⟨oc,od,oda,os⟩:=ot;simp only at ct dt;subst ct;subst dt;have Wc:(s.heap.push (Hc.Sx.newS w)).get? t=some {cls:=.type "tuple",dict:=od,data:=.seq its nt,slots:=os}:=Zx _ gt;have gS:(s.heap.push (Hc.Sx.newS w)).get? s.heap.objs.size=some (Hc.Sx.newS w):=ZQ _ rfl;have n1:=PySem.F.sub_tuple_set;have n2:=PySem.F.sub_tuple_frozenset;have n3:(Value.type "tuple"==Value.type "dict")=false:=by decide
 have QQ:(s.heap.push (Hc.Sx.newS w)).IsTuple t its:=⟨_,Wc,rfl,nt,rfl⟩;unfold Builtin.«set.__init__» noKeywords adU;generalize ePI:pyIter=PI;wp_walk;subst ePI;refine aej QQ ?_;refine Zv (wpAny_runValue ?_);have lt:t<s.heap.objs.size:=ZU gt;have h3:A.in1.in1.in1.handled=none:=by simp[hh]
 have Wd:t≠(s.heap.push (Hc.Sx.newS w)).objs.size:=by rw[aaU];exact Z6 (abF lt)
 have ni:s.heap.objs.size∉[(s.heap.push (Hc.Sx.newS w)).objs.size,t]:=by
  rw[aaU];grind
 have vl:∀(i:Nat) (v:ZF),its[i]? = some v->∃t,v=.int ((λi=>ns.getD i 0) i) t:=λi v hv=>IntsAre.int_at hi i v (by grind);refine codeAny_set_update_loopS ((Walks.tuple h3 _ t Wd its).toS) s.heap.objs.size ni (λi=>ns.getD i 0) vl hb (its.size-0) 0 _ (by lia) (aaI _) ⟨⟨_,ZQ _ rfl,rfl,rfl⟩,QQ.push _⟩ ?z0 ?zR
 case z0=>exact SetOf_congr ((setObjOf_fresh (knd:=aew prog w) _).setOf (Zx _ gS) (by unfold scanBound;lia)) (λ_=>rfl) rfl
 case zR=>
  intro s' hm Ox;obtain⟨h',g',d',tk',o'⟩:=s';have eg:g'=s.gens:=hm.gens;have ed:d'=s.drawn:=hm.drawn;have We:o'=s.os:=hm.os;subst eg;subst ed;subst We;show Z1 _ _ _ _ _ _;refine Zy ?_;show Z1 _ _ (ret Value.none) _ _ _;rw[sz,pU] at Ox;refine Zy ⟨_,rfl,rfl,h',tk',_,rfl,Ox,λb o e=>?_⟩;have TZ:=ZU e;refine hm.heap b o ?_ (Zx _ (Zx _ e));rw[aaU];simp only[ZK,aaM,or_false,not_or];exact⟨Z6 TZ,Z6 (abF TZ)⟩
end
section
variable {e:abd}{oh p1 p2:Pos}{b1:Bool}{ga:Ev->R (List U×Ev)}
def Im:aai "set"=some (.type "set"):=by decide+kernel
def Na (K:ZD):List V->Hp->VK->Prop:=λxs H Q=>∃(p:ZY) (ns:List Int),xs=[.ref p]/\jj K H p (ns.map V.int)/\ns.length<64/\∀(l:ZY) (S:Int->Bool),H l=none->Q (.ref l) (cE H l (.set S (oy ns).length))
def Io (ns:List Int):(oy ns).length<=ns.length:=by
 rw[←pU];exact firstMet_length_le _ _
theorem FK (hc:X.calm=true):ez X (.type "set") (Na X.K):=by
 intro pins s σ H xs us Q I r h;obtain⟨p,ns,rfl,hq,h64,q⟩:=h;obtain⟨u,rfl,rx⟩:=i0 r;cases rx;obtain⟨its,rv,pl,hz⟩:=I.tuple hq;have hI:abA its ns:=eR rv;have hl:=hI.length;refine Ck (I.ok.hd hc) (its:=its.toArray) pl hI (by unfold scanBound;rw[ZI];lia) λh' tk S hS hk=>?_;exact⟨.ref s.heap.objs.size,_,I.laid (a:=s.heap.objs.size) (o:=.set S (oy ns).length) (t':=tk) hk (ZP _) hS,rfl,q _ S (I.hok.fresh (ZP _))⟩
def Nb:List V->Hp->VK->Prop:=λxs H Q=>∃(p:ZY) (S:Int->Bool) (n:Nat),xs=[.ref p]/\H p=some (.set S n)/\n<64/\Q (.int n) H
theorem FN:ez X (.builtin "len") Nb:=by
 intro pins s σ H xs us Q I r h;obtain⟨p,S,n,rfl,hq,h64,q⟩:=h;obtain⟨u,rfl,rx⟩:=i0 r;cases rx;obtain⟨o,es,ep,t,ho,hx,hd,_,_,_,hf,hn⟩:s.heap.SetOf (aew X.prog X.w) p S n:=I.hok p _ hq;subst hn;exact call_len_set ho hx hd hf (by lia) ⟨.int _,H,I.tok _,⟨_,rfl⟩,q⟩
noncomputable def nP:List U->R U:=λus=>match us with
 | [.tup xs]=>match jq xs with
  |some ns=>if ns.length<64 then .ok (.int (oy ns).length) else .stk
  |none=>.stk
 |_=>.stk
theorem Cm:mj K (λvs H Q=>Na K vs H λx H2=>Nb [x] H2 Q) .S nP:=λA H vs us z Q h mu e q=>by
 unfold nP at e;split at e
 ·rename_i xs;split at e
  ·rename_i ns hb;split at e
   ·rename_i hl;cases e;obtain⟨v,rfl,p⟩:=h.one;unfold Pk at p;obtain⟨a,ys,rfl,h1,l1,r1⟩:=p;rw[kq hb] at r1;rw[r1.toI] at h1;have:=Io ns;exact⟨a,ns,rfl,jj.of h1,hl,λl S hn=>⟨l,S,_,rfl,bC,(by lia),q _ _ (cN hn _) (show Rp K _ A _ _ from dE)⟩⟩
   ·cases e
  ·cases e
 ·cases e
def FO (hc:X.calm=true)(ha:DA X G [e] b1 true ga)(hg:Gl X "len")(hm:X.mg "len"=none)(TN:Gl X "set")(Wf:X.mg "set"=none)
  (he:ZX [e] X.env=(false,acP e X.env)::ZX [] X.env:=by rfl) (sJ:(abL oh (ZX [] X.env)).any (·.1)=false:=by rfl)
  (T3:ZX [.Call (.Name "set" p2) [e] [] oh] X.env=(false,acP (.Call (.Name "set" p2) [e] [] oh) X.env)::ZX [] X.env:=by rfl) (Kp:(abL pos (ZX [] X.env)).any (·.1)=false:=by rfl) :
  DE X G (.Call (.Name "len" p1) [.Call (.Name "set" p2) [e] [] oh] [] pos) b1 .S (dP nP ga):=⟨(mw FN hg hm bG (eN (kS (FK hc) TN Wf Im ha.un (by decide) (by decide) he sJ) kD T3) (by decide) (by decide) T3 Kp).to λ_ _ _ h=>tO (p:=true) (Cm (K:=X.K)) h⟩
end
@[irreducible] noncomputable def PV (X:Cx)(G:Gm)(es:List abd)(b p:Bool)(g:Ev->R (List U×Ev)):Prop:=DA X G es b p g
section
variable {e:abd}{es:List abd}{b1 b2 p:Bool}{m1:Md}{g1:Ev->R (U×Ev)}{ga:Ev->R (List U×Ev)}
def Ky (h:PV X G es b1 p ga):DA X G es b1 p ga:=by unfold PV at h;exact h
def iW:PV X G [] false p ao:=by unfold PV;exact ah
def aJ (ha:DE X G e b1 m1 g1)(hr:PV X G es b2 p ga)(hm:m1=.P->(p=true/\b2=false):=by first|exact λ_=>⟨rfl,rfl⟩|exact λh=>nomatch h)
  (hs:ZX (e::es) X.env=(false,acP e X.env)::ZX es X.env:=by rfl):PV X G (e::es) (b1||b2) p (af g1 ga):=by
 unfold PV at hr ⊢;exact ae ha hr hm hs
end
end L2
namespace Hc.Zp
def kj (l:Bool)(h:abT)(a:ZY)(xs:Array ZF):Prop:=if l=true then h.IsList a xs else h.IsTuple a xs
def iH (l:Bool)(h:abT)(it a:ZY)(i:Nat):Prop:=if l=true then h.IsListIter it a i else h.IsTupleIter it a i
noncomputable def FP (l:Bool):String:=if l=true then "list_iterator" else "tuple_iterator"
theorem kj.at {xs:Array ZF}(x:kj l h a xs)(e:∀o,h.get? a=some o->h'.get? a=some o):kj l h' a xs:=by
 cases l with
 |true=>exact Heap.IsList.at x e
 |false=>exact Heap.IsTuple.at x e
theorem iH.at (x:iH l h it a i)(e:∀o,h.get? it=some o->h'.get? it=some o):iH l h' it a i:=by
 cases l with
 |true=>exact Heap.IsListIter.at x e
 |false=>exact Heap.IsTupleIter.at x e
theorem iH.obj (x:iH l h it a i):∃o,h.get? it=some o/\o.data=.fields (List.toArray [.ref a,.int i 0])/\o.cls=.type (FP l):=by
 cases l with
 |true=>obtain⟨o,e,c,d⟩:=x;exact⟨o,e,d,c⟩
 |false=>obtain⟨o,e,c,d⟩:=x;exact⟨o,e,d,c⟩
section
variable {A:aar}
theorem Co {xs:Array ZF}{x:ZF}(hi:s.heap.IsTupleIter it a i)(ha:s.heap.IsTuple a xs)(hx:xs[i]? = some x)(q:∀h',h'.IsTupleIter it a (i+1)->abp it s.heap h'->Q x {s with heap:=h'}):Z1 (Z8 prog w) A (aap (.ref it)) Q E s:=by
 obtain⟨o,ho,hc,hd⟩:=id hi;obtain⟨oa,hoa,_,na,hda⟩:=ha;unfold aap;refine Zv (aaw (name:=ZL "__next__") hi.typeIs abN (aav abN hi.typeIs ad8 ?_ (adV _)));show Z1 _ _ (field (Value.ref it) 0 >>= _) _ _ s;refine Zv (abf ho hd (x:=.ref a) rfl ?_);show Z1 _ _ (if (Value.ref a==Value.none)=true then _ else _) _ _ s;rw[hU (show ¬((Value.ref a==Value.none)=true) from ZE)];show Z1 _ _ (field (Value.ref it) 1 >>= _) _ _ s;refine Zv (abf ho hd (x:=.int i 0) rfl ?_);show Z1 _ _ (seqItems? (Value.ref a) >>= _) _ _ s;refine Zv (abC hoa hda ?_);simp only[aau,hx];refine Zv (acw ho hd (by simp) (Zy ⟨x,rfl,Zy (q _ ⟨_,aa_ _ ho (acH (abh hd _)),(adw ..).trans hc,?_⟩ (aaJ ..))⟩));rw[abh hd];simp[aei]
theorem FQ {xs:Array ZF}(hh:A.handled=none)(hi:s.heap.IsTupleIter it a i)(ha:s.heap.IsTuple a xs)(hx:xs[i]? = none)(q:∀h' e,Heap.ExtBut it s.heap h'->(∃o,h'.get? e=some o/\o.cls=.type "StopIteration")->E (.ref e) {s with heap:=h'}):Z1 (Z8 prog w) A (aap (.ref it)) Q E s:=by
 obtain⟨o,ho,hc,hd⟩:=id hi;obtain⟨oa,hoa,_,na,hda⟩:=ha;unfold aap;refine Zv (aaw (name:=ZL "__next__") hi.typeIs abN (aav abN hi.typeIs ad8 ?_ (adV _)));show Z1 _ _ (field (Value.ref it) 0 >>= _) _ _ s;refine Zv (abf ho hd (x:=.ref a) rfl ?_);show Z1 _ _ (if (Value.ref a==Value.none)=true then _ else _) _ _ s;rw[hU (show ¬((Value.ref a==Value.none)=true) from ZE)];show Z1 _ _ (field (Value.ref it) 1 >>= _) _ _ s;refine Zv (abf ho hd (x:=.int i 0) rfl ?_);show Z1 _ _ (seqItems? (Value.ref a) >>= _) _ _ s;refine Zv (abC hoa hda ?_);simp only[aau,hx];refine Zv (acJ (Zv (acw ho hd (by simp) ?_)));show Z1 _ _ (newExc (Value.type "StopIteration") [] >>= _) _ _ _;refine Zv ?_;simp only[newExc,newTuple];refine Zv (aat ?_ (by size_fits));refine Zv (m:=acV _ _) (adu (a:=Value.none) (by first|rfl|(simp only[acV];rfl)) ?_);refine aat ?_ (by size_fits);simp only[raiseNew];refine Zv (wpAny_handled ?_)
 first|rw[show A.in1.handled=none from hh]|rw[hh]
 exact Zv (Zy (wpAny_throw (q _ _ (((aaJ ..).extBut.push _).push _) ⟨_,ZQ _ rfl,rfl⟩)))
theorem qR {xs:Array ZF}{x:ZF}(hi:iH l s.heap it a i)(ha:kj l s.heap a xs)(hx:xs[i]? = some x)(q:∀h',iH l h' it a (i+1)->abp it s.heap h'->Q x {s with heap:=h'}):Z1 (Z8 prog w) A (aap (.ref it)) Q E s:=by
 cases l with
 |true=>exact wpAny_nextOf_list_item hi ha hx q
 |false=>exact Co hi ha hx q
theorem Ao {xs:Array ZF}(hh:A.handled=none)(hi:iH l s.heap it a i)(ha:kj l s.heap a xs)(hx:xs[i]? = none)(q:∀h' e,Heap.ExtBut it s.heap h'->(∃o,h'.get? e=some o/\o.cls=.type "StopIteration")->E (.ref e) {s with heap:=h'}):Z1 (Z8 prog w) A (aap (.ref it)) Q E s:=by
 cases l with
 |true=>exact wpAny_nextOf_list_end hh hi ha hx q
 |false=>exact FQ hh hi ha hx q
theorem Ea {xs:Array ZF}(ha:kj l s.heap a xs)(q:Q (.ref s.heap.objs.size) {s with heap:=s.heap.push {cls:=.type (FP l),data:=.fields (List.toArray [.ref a,.int 0 0])}}):Z1 (Z8 prog w) A (pyIter (.ref a)) Q E s:=by
 cases l with
 |true=>exact adm ha q
 |false=>exact aej ha q
def FR {z TI TO:ZY}{xs:Array ZF}{x y p:ZF}(D:ZipApart z TI TO i1 i2 a1 a2)(hz:IsZip s.heap z TI TO .none)(QR:acR s.heap TI (.ref i1) (.ref i2))(QS:acR s.heap TO p q)(h1:iH l1 s.heap i1 a1 k)(h2:iH l2 s.heap i2 a2 k)(g1:kj l1 s.heap a1 xs)(g2:kj l2 s.heap a2 ys)(hx:xs[k]? = some x)(hy:ys[k]? = some y)(hQ:∀h',IsZip h' z TI TO (aei s.heap.objs.size)->acR h' TO x y->iH l1 h' i1 a1 (k+1)->iH l2 h' i2 a2 (k+1)->acR h' s.heap.objs.size x y->(∀c o,c≠z->c≠TO->c≠i1->c≠i2->s.heap.get? c=some o->h'.get? c=some o)->Q (.ref s.heap.objs.size) {s with heap:=h'}) :
  Z1 (Z8 prog w) A (Builtin.«zip.__next__» ⟨[.ref z],[]⟩) (λfin s'=>∃v,fin=.done (.ret v)/\Q v s') E s:=by
 show Z1 _ _ (field (Value.ref z) 2 >>= _) _ _ _;refine Zv (abf hz rfl (x:=.bool false) rfl ?_);show Z1 _ _ (field (Value.ref z) 3 >>= _) _ _ _;refine Zv (abf hz rfl (x:=.ref TI) rfl (Zv (abC QR rfl ?_)));show Z1 _ _ (aa7 (Value.ref z) >>= _) _ _ _;refine Zv ?_;unfold aa7;refine Zv (abf hz rfl (x:=.none) rfl (Zy ?_));simp only[if_true];refine Zv (acJ (Zv (abf hz rfl (x:=.ref TO) rfl (Zv (abR hz (by simp) λw1 z1 b1=>?_)))))
 replace z1:IsZip w1 z TI TO .ellipsis:=z1
 refine Zv ?_;simp only[List.zipIdx_cons,List.zipIdx_nil,ada,List.forIn_nil];refine Zv (Zv (wpAny_onRaise ?_));show Z1 _ _ (aap (Value.ref i1) >>= _) _ _ _;refine Zv (qR (h1.at λo e=>b1.extBut _ _ D.i1z e) (g1.at λo e=>b1.extBut _ _ D.l1z e) hx λw2 n2 b2=>Zy ?_);have t2:acR w2 TO p q:=b2.extBut _ _ D.TOi1 (b1.extBut _ _ D.TOz QS);refine Zv (abC t2 rfl (Zv (adQ t2 λw3 t3 b3=>?_)))
 replace t3:acR w3 TO x q:=t3
 refine Zv (wpAny_letGo (Zy ?_));refine Zv (Zv (wpAny_onRaise ?_));show Z1 _ _ (aap (Value.ref i2) >>= _) _ _ _;refine Zv (qR (h2.at λo e=>b3.extBut _ _ D.TOi2.symm (b2.extBut _ _ D.i12.symm (b1.extBut _ _ D.i2z e))) (g2.at λo e=>b3.extBut _ _ D.l2TO (b2.extBut _ _ D.l2i1 (b1.extBut _ _ D.l2z e))) hy λw4 n4 b4=>Zy ?_);have t4:acR w4 TO x q:=b4.extBut _ _ D.TOi2 t3;refine Zv (abC t4 rfl (Zv (adQ t4 λw5 t5 b5=>?_)))
 replace t5:acR w5 TO x y:=t5
 refine Zv (wpAny_letGo (Zy (Zy ?_)));refine Zv (abC t5 rfl (Zv (wpAny_newTuple ?_)));have sz:w5.objs.size=s.heap.objs.size:=by rw[b5.1,b4.1,b3.1,b2.1,b1.1]
 have z5:IsZip w5 z TI TO .ellipsis:=b5.extBut _ _ D.TOz.symm (b4.extBut _ _ D.i2z.symm (b3.extBut _ _ D.TOz.symm (b2.extBut _ _ D.i1z.symm z1)));have kp:∀c o,c≠z->c≠TO->c≠i1->c≠i2->s.heap.get? c=some o->w5.get? c=some o:=λc o c1 c2 c3 c4 e=>b5.extBut _ _ c2 (b4.extBut _ _ c4 (b3.extBut _ _ c2 (b2.extBut _ _ c3 (b1.extBut _ _ c1 e))));have n5:iH l1 w5 i1 a1 (k+1):=n2.at λo e=>b5.extBut _ _ D.TOi1.symm (b4.extBut _ _ D.i12 (b3.extBut _ _ D.TOi1.symm e));have m5:iH l2 w5 i2 a2 (k+1):=n4.at λo e=>b5.extBut _ _ D.TOi2.symm e;have lz:z<w5.objs.size:=ZU z5;show Z1 _ _ (acW (Value.ref z) (Value.ref w5.objs.size) >>= _) _ _ _;refine Zv ?_;unfold acW;have z6:IsZip (w5.push {cls:=.type "tuple",data:=.seq (List.toArray [x,y])}) z TI TO .ellipsis:=Zx _ z5;refine Zv (abR z6 (by simp) λw7 z7 b7=>?_)
 replace z7:IsZip w7 z TI TO (aei w5.objs.size):=z7
 refine abR z7 (by simp) λw8 z8 b8=>?_
 replace z8:IsZip w8 z TI TO (aei w5.objs.size):=z8
 have up:∀c o,c≠z->w5.get? c=some o->w8.get? c=some o:=λc o c1 e=>b8.extBut _ _ c1 (b7.extBut _ _ c1 (Zx _ e));have t8:acR w8 w5.objs.size x y:=b8.extBut _ _ (acz lz) (b7.extBut _ _ (acz lz) (ZQ _ rfl));rw[sz] at z8 t8;refine Zy ⟨_,rfl,?_⟩;show Q (.ref w5.objs.size) _;rw[sz];exact hQ w8 z8 (up _ _ D.TOz t5) (n5.at λo e=>up _ o D.i1z e) (m5.at λo e=>up _ o D.i2z e) t8 λc o c1 c2 c3 c4 e=>up c o c1 (kp c o c1 c2 c3 c4 e)
theorem Iq {z TI TO:ZY}{xs:Array ZF}{p:ZF}{Q:Fin->ZT->Prop}(hh:A.handled=none)(D:ZipApart z TI TO i1 i2 a1 a2)(hz:IsZip s.heap z TI TO .none)(QR:acR s.heap TI (.ref i1) (.ref i2))(QS:acR s.heap TO p q)(h1:iH l1 s.heap i1 a1 k)(h2:iH l2 s.heap i2 a2 k)(g1:kj l1 s.heap a1 xs)(g2:kj l2 s.heap a2 ys)(QT:xs[k]? = none\/ys[k]? = none)(hE:∀h' e,(∀c o,c≠z->c≠TO->c≠i1->c≠i2->s.heap.get? c=some o->h'.get? c=some o)->(∃o,h'.get? e=some o/\o.cls=.type "StopIteration")->E (.ref e) {s with heap:=h'}) :
  Z1 (Z8 prog w) A (Builtin.«zip.__next__» ⟨[.ref z],[]⟩) Q E s:=by
 show Z1 _ _ (field (Value.ref z) 2 >>= _) _ _ _;refine Zv (abf hz rfl (x:=.bool false) rfl ?_);show Z1 _ _ (field (Value.ref z) 3 >>= _) _ _ _;refine Zv (abf hz rfl (x:=.ref TI) rfl (Zv (abC QR rfl ?_)));show Z1 _ _ (aa7 (Value.ref z) >>= _) _ _ _;refine Zv ?_;unfold aa7;refine Zv (abf hz rfl (x:=.none) rfl (Zy ?_));simp only[if_true];refine Zv (acJ (Zv (abf hz rfl (x:=.ref TO) rfl (Zv (abR hz (by simp) λw1 z1 b1=>?_)))))
 replace z1:IsZip w1 z TI TO .ellipsis:=z1
 refine Zv ?_;simp only[List.zipIdx_cons,List.zipIdx_nil,ada,List.forIn_nil];refine Zv (Zv (wpAny_onRaise ?_));show Z1 _ _ (aap (Value.ref i1) >>= _) _ _ _;cases hx:xs[k]? with
 |none=>
  refine Zv (Ao hh (h1.at λo e=>b1.extBut _ _ D.i1z e) (g1.at λo e=>b1.extBut _ _ D.l1z e) hx λw2 e b2 he=>?_);obtain⟨oe,hoe,hce⟩:=he;have z2:IsZip w2 z TI TO .ellipsis:=b2 _ _ D.i1z.symm z1;have nz:e≠z:=λx=>by subst x;rw[z2] at hoe;cases hoe;simp at hce
  exact abR z2 (by simp) λw3 _ b3=>hE w3 e (λc o c1 _ c3 _ x=>b3.extBut _ _ c1 (b2 _ _ c3 (b1.extBut _ _ c1 x))) ⟨oe,b3.extBut _ _ nz hoe,hce⟩
 |some x=>
  have hy:ys[k]? = none:=by rcases QT with h|h;rw[hx] at h;cases h;exact h
  refine Zv (qR (h1.at λo e=>b1.extBut _ _ D.i1z e) (g1.at λo e=>b1.extBut _ _ D.l1z e) hx λw2 n2 b2=>Zy ?_);have t2:acR w2 TO p q:=b2.extBut _ _ D.TOi1 (b1.extBut _ _ D.TOz QS);refine Zv (abC t2 rfl (Zv (adQ t2 λw3 t3 b3=>?_)));refine Zv (wpAny_letGo (Zy ?_));refine Zv (Zv (wpAny_onRaise ?_));show Z1 _ _ (aap (Value.ref i2) >>= _) _ _ _;refine Zv (Ao hh (h2.at λo e=>b3.extBut _ _ D.TOi2.symm (b2.extBut _ _ D.i12.symm (b1.extBut _ _ D.i2z e))) (g2.at λo e=>b3.extBut _ _ D.l2TO (b2.extBut _ _ D.l2i1 (b1.extBut _ _ D.l2z e))) hy λw4 e b4 he=>?_);obtain⟨oe,hoe,hce⟩:=he;have z4:IsZip w4 z TI TO .ellipsis:=b4 _ _ D.i2z.symm (b3.extBut _ _ D.TOz.symm (b2.extBut _ _ D.i1z.symm z1));have nz:e≠z:=λx=>by subst x;rw[z4] at hoe;cases hoe;simp at hce
  exact abR z4 (by simp) λw5 _ b5=>hE w5 e (λc o c1 c2 c3 c4 x=>b5.extBut _ _ c1 (b4 _ _ c4 (b3.extBut _ _ c2 (b2.extBut _ _ c3 (b1.extBut _ _ c1 x))))) ⟨oe,b5.extBut _ _ nz hoe,hce⟩
theorem FT {z TI TO:ZY}{xs:Array ZF}{x y p:ZF}{Q:Option ZF->ZT->Prop}(D:ZipApart z TI TO i1 i2 a1 a2)(hz:IsZip s.heap z TI TO .none)(QR:acR s.heap TI (.ref i1) (.ref i2))(QS:acR s.heap TO p q)(h1:iH l1 s.heap i1 a1 k)(h2:iH l2 s.heap i2 a2 k)(g1:kj l1 s.heap a1 xs)(g2:kj l2 s.heap a2 ys)(hx:xs[k]? = some x)(hy:ys[k]? = some y)(hQ:∀h',IsZip h' z TI TO (aei s.heap.objs.size)->acR h' TO x y->iH l1 h' i1 a1 (k+1)->iH l2 h' i2 a2 (k+1)->acR h' s.heap.objs.size x y->(∀c o,c≠z->c≠TO->c≠i1->c≠i2->s.heap.get? c=some o->h'.get? c=some o)->Q (some (.ref s.heap.objs.size)) {s with heap:=h'}) :
  Z1 (Z8 prog w) A (adO (.ref z)) Q E s:=by
 have hT:s.TypeIs (.ref z) "zip":=⟨_,hz,rfl⟩;unfold adO;exact Zv (ach (aaw (name:=ZL "__next__") hT ad9 (aav ad9 hT F.entry_zip_next (FR D hz QR QS h1 h2 g1 g2 hx hy λh' c1 c2 c3 c4 c5 c6=>Zy (hQ h' c1 c2 c3 c4 c5 c6)) (F.args_zip_next_1 _))))
theorem FU {z TI TO:ZY}{xs:Array ZF}{p:ZF}{Q:Option ZF->ZT->Prop}(hh:A.handled=none)(D:ZipApart z TI TO i1 i2 a1 a2)(hz:IsZip s.heap z TI TO .none)(QR:acR s.heap TI (.ref i1) (.ref i2))(QS:acR s.heap TO p q)(h1:iH l1 s.heap i1 a1 k)(h2:iH l2 s.heap i2 a2 k)(g1:kj l1 s.heap a1 xs)(g2:kj l2 s.heap a2 ys)(QT:xs[k]? = none\/ys[k]? = none)(hQ:∀h',(∀c o,c≠z->c≠TO->c≠i1->c≠i2->s.heap.get? c=some o->h'.get? c=some o)->Q none {s with heap:=h'}):Z1 (Z8 prog w) A (adO (.ref z)) Q E s:=by
 have hT:s.TypeIs (.ref z) "zip":=⟨_,hz,rfl⟩;unfold adO;refine Zv (ach (aaw (name:=ZL "__next__") hT ad9 (aav ad9 hT F.entry_zip_next (Iq hh D hz QR QS h1 h2 g1 g2 QT λh' e hk ⟨o,ho,hc⟩=>?_) (F.args_zip_next_1 _))));exact Zv (ac0 (T:="StopIteration") (b:=true) ⟨o,ho,hc⟩ isSubtype_stop (Zy (hQ _ hk)))
end
noncomputable abbrev Ul (l1:Bool)(h:abT)(a1:ZY):abT:=h.push {cls:=.type (FP l1),data:=.fields (List.toArray [.ref a1,.int 0 0])}
noncomputable abbrev Um (l1 l2:Bool)(h:abT)(a1 a2:ZY):abT:=(Ul l1 h a1).push {cls:=.type (FP l2),data:=.fields (List.toArray [.ref a2,.int 0 0])}
noncomputable abbrev Uo (l1 l2:Bool)(h:abT)(a1 a2:ZY):abT:=(Um l1 l2 h a1 a2).push {cls:=.type "tuple",data:=.seq (List.toArray [.ref h.objs.size,.ref (Ul l1 h a1).objs.size])}
noncomputable abbrev Up (l1 l2:Bool)(h:abT)(a1 a2:ZY):abT:=(Uo l1 l2 h a1 a2).push {cls:=.type "tuple",data:=.seq (List.toArray [.none,.none])}
noncomputable abbrev QX (l1 l2:Bool)(h:abT)(a1 a2:ZY):abT:=(Up l1 l2 h a1 a2).push {cls:=.type "zip",data:=.fields (List.toArray [.none,.bool false,.bool false,.ref (Um l1 l2 h a1 a2).objs.size,.ref (Uo l1 l2 h a1 a2).objs.size])}
theorem Ir (l1 l2:Bool)(a1 a2:ZY)(xs ys:Array ZF):Meets (Builtin.«zip.__new__» ⟨[.type "zip",.ref a1,.ref a2],[]⟩) (λ_ R s=>kj l1 s.heap a1 xs/\kj l2 s.heap a2 ys/\R (.ok (.ret (.ref (Up l1 l2 s.heap a1 a2).objs.size))) {s with heap:=QX l1 l2 s.heap a1 a2}):=
 .of_wp λprog w A R s h=>by
  obtain⟨hp,g,d,tk,os⟩:=s;obtain⟨g1,g2,h⟩:=h;have sb:=sub_zip;have q1:kj l1 (Shared.heap ⟨hp,g,d,tk,os⟩) a1 xs:=g1;have q2:kj l2 (Shared.heap ⟨hp.push {cls:=.type (FP l1),data:=.fields (List.toArray [.ref a1,.int 0 0])},g,d,tk,os⟩) a2 ys:=g2.at λo e=>Zx _ e;wp_walk using Ea q1,Ea q2;exact⟨_,rfl,h⟩
section
variable {A:aar}
theorem FV {xs:Array ZF}(g1:kj l1 s.heap a1 xs)(g2:kj l2 s.heap a2 ys)(h:∀h',IsZip h' (s.heap.objs.size+4) (s.heap.objs.size+2) (s.heap.objs.size+3) .none->acR h' (s.heap.objs.size+2) (.ref s.heap.objs.size) (.ref (s.heap.objs.size+1))->acR h' (s.heap.objs.size+3) .none .none->
   iH l1 h' s.heap.objs.size a1 0->iH l2 h' (s.heap.objs.size+1) a2 0->(∀c o,s.heap.get? c=some o->h'.get? c=some o)->Q (.ref (s.heap.objs.size+4)) {s with heap:=h'}):Z1 (Z8 prog w) A (call (.type "zip") [.ref a1,.ref a2]) Q E s:=by
 refine callType_new F.called_zip (by decide) (F.typeCall_zip_2 _ _) (F.newCall_zip_2 _ _) (λobj=>F.args_object_init_3 obj _ _) F.entry_zip_new (Ir l1 l2 a1 a2 xs ys) ⟨g1,g2,?_⟩;have z1:(Ul l1 s.heap a1).objs.size=s.heap.objs.size+1:=aaU ..;have z2:(Um l1 l2 s.heap a1 a2).objs.size=s.heap.objs.size+2:=by rw[aaU,z1]
 have z3:(Uo l1 l2 s.heap a1 a2).objs.size=s.heap.objs.size+3:=by rw[aaU,z2]
 have z4:(Up l1 l2 s.heap a1 a2).objs.size=s.heap.objs.size+4:=by rw[aaU,z3]
 have e5:(QX l1 l2 s.heap a1 a2).get? (Up l1 l2 s.heap a1 a2).objs.size=some _:=ZQ _ rfl;have e4:(QX l1 l2 s.heap a1 a2).get? (Uo l1 l2 s.heap a1 a2).objs.size=some _:=Zx _ (ZQ _ rfl);have e3:(QX l1 l2 s.heap a1 a2).get? (Um l1 l2 s.heap a1 a2).objs.size=some _:=Zx _ (Zx _ (ZQ _ rfl));have e2:(QX l1 l2 s.heap a1 a2).get? (Ul l1 s.heap a1).objs.size=some _:=Zx _ (Zx _ (Zx _ (ZQ _ rfl)));have e1:(QX l1 l2 s.heap a1 a2).get? s.heap.objs.size=some _:=Zx _ (Zx _ (Zx _ (Zx _ (ZQ _ rfl))));show _/\_;rw[z2,z3,z4] at e5;rw[z1,z2] at e3;rw[z3] at e4;rw[z1] at e2;rw[z4];have mk:∀(l:Bool) (hp:abT) (it a:ZY) (_:hp.get? it=some {cls:=.type (FP l),data:=.fields (List.toArray [.ref a,.int 0 0])}),iH l hp it a 0:=λl hp it a e=>by
  cases l with
  |true=>exact⟨_,e,rfl,rfl⟩
  |false=>exact⟨_,e,rfl,rfl⟩
 exact⟨⟨_,e5,rfl⟩,h _ e5 e3 e4 (mk l1 _ _ _ e1) (mk l2 _ _ _ e2) λc o x=>Zx _ (Zx _ (Zx _ (Zx _ (Zx _ x))))⟩
end
end Hc.Zp
namespace L2
open Hc.Zp
section
variable {T:ZY}{o:HO}
theorem aN.turnNew {t':Nat}(I:aN X pins σ H s)(hf:∀b∈fp,sM X pins H b)(k:∀b o,b∉fp->s.heap.get? b=some o->h'.get? b=some o)(hT:s.heap.objs.size<=T)(new:bT X.prog X.w (cE H T o) h' T o) :
  aN X pins σ (cE H T o) {s with heap:=h',toks:=t'}:=by
 have hn:H T=none:=I.hok.fresh hT;have nf:∀b u,H b=some u->b∉fp:=λb u e z=>by rw[(hf b z).1] at e;cases e
 have nT:∀b u,H b=some u->b≠T:=λb u e z=>by rw[z,hn] at e;cases e
 refine I.step (g':=s.gens) (d':=s.drawn) (ch:=fp) (λb hb=>?_) (λb o _ _ hc e _=>k b o hc e) (λb o _ _ hc e _=>⟨o.slots,k b o hc e⟩) (λb o _ e n=>?_) (λb o hc e=>⟨o,k b o hc e⟩)
  (λb xs e=>?_) (λb o u e=>?_) (λb ps e=>⟨(List.toArray []),?_⟩) (λm hm=>?_) (λb u e=>?_) I.bare
 ·obtain⟨f0,f1,f2,f3,f4,f5⟩:=hf b hb;exact⟨f3,f1,f4,f5⟩
 ·rw[bq (Z6 (aah (ZU e) hT))];exact n
 ·rw[bq (nT b _ e)];exact e
 ·rw[bq (nT b _ e)];exact e
 ·rw[bq (nT b _ e),e];simp
 ·obtain⟨o,es,ep,ho,r⟩:=hm;exact⟨o,es,ep,k _ o (λz=>(hf _ z).2.1 rfl) ho,r⟩
 ·by_cases c:b=T
  ·subst c;rw[bC] at e;cases e;exact new
  ·rw[bq c] at e;refine (I.hok b u e).stay (λc v hc q=>k c v ?_ q) (λc q=>by rw[bq (nT c _ q)];exact q) λc xs q=>by rw[bq (nT c _ q)];exact q
   rcases hc with z|z
   ·rw[z];exact nf b u e
   ·exact nf c _ z
theorem aN.turneds {t':Nat}(I:aN X pins σ H s)(hf:∀b∈fp,sM X pins H b)(k:∀b o,b∉fp->s.heap.get? b=some o->h'.get? b=some o):aN X pins σ H {s with heap:=h',toks:=t'}:=by
 have nf:∀b u,H b=some u->b∉fp:=λb u e z=>by rw[(hf b z).1] at e;cases e
 refine I.step (g':=s.gens) (d':=s.drawn) (ch:=fp) (λb hb=>?_) (λb o _ _ hc e _=>k b o hc e) (λb o _ _ hc e _=>⟨o.slots,k b o hc e⟩) (λb o _ e n=>n) (λb o hc e=>⟨o,k b o hc e⟩)
  (λb xs e=>e) (λb o u e=>e) (λb ps e=>⟨(List.toArray []),by rw[e];simp⟩) (λm hm=>?_) (λb u e=>?_) I.bare
 ·obtain⟨f0,f1,f2,f3,f4,f5⟩:=hf b hb;exact⟨f3,f1,f4,f5⟩
 ·obtain⟨o,es,ep,ho,r⟩:=hm;exact⟨o,es,ep,k _ o (λz=>(hf _ z).2.1 rfl) ho,r⟩
 ·refine (I.hok b u e).stay (λc v hc q=>k c v ?_ q) (λ_ q=>q) λ_ _ q=>q;rcases hc with z|z
  ·rw[z];exact nf b u e
  ·exact nf c _ z
def FW (l:Bool)(K:ZD)(H:Hp)(a:ZY)(xs:List V):Prop:=if l=true then gD K H a xs else jj K H a xs
theorem aN.sq (I:aN X pins σ H s)(q:FW l X.K H a xs):∃its,bw xs its/\kj l s.heap a its.toArray:=by
 cases l with
 |true=>obtain⟨its,rv,p,_⟩:=I.list q;exact⟨its,rv,p.isList⟩
 |false=>obtain⟨its,rv,p,_⟩:=I.tuple q;exact⟨its,rv,p⟩
theorem aN.sq_inj {ys:List V}(I:aN X pins σ H s)(q:FW l X.K H a xs)(q':FW l X.K H a ys):xs=ys:=by
 cases l with
 |true=>exact I.list_inj q q'
 |false=>exact I.tuple_inj q q'
end
noncomputable def WH (K:ZD)(l1 l2:Bool)(a1 a2:ZY):It:=
  ⟨λi H=>∃xs ys x y,FW l1 K H a1 xs/\FW l2 K H a2 ys/\xs[i]? = some x/\ys[i]? = some y,
   λi H v H'=>∃T x y,v=.ref T/\H T=none/\H'=cE H T (.tup [x,y])/\(∀xs,FW l1 K H a1 xs->xs[i]? = some x)/\(∀ys,FW l2 K H a2 ys->ys[i]? = some y),
   λi H=>∃xs ys,FW l1 K H a1 xs/\FW l2 K H a2 ys/\(xs.length<=i\/ys.length<=i)⟩
theorem Iu {Ks:List abd}{kt:Nat}{tp:Pos}{z TI TO:ZY}(D:ZipApart z TI TO i1 i2 a1 a2) :
  Fb P w K (.Tuple Ks kt tp) (WH K l1 l2 a1 a2) [z,TI,TO,i1,i2] z (λi h=>IsZip h z TI TO .none/\acR h TI (.ref i1) (.ref i2)/\(∃p q,acR h TO p q)/\iH l1 h i1 a1 i/\iH l2 h i2 a2 i) where
 mem:=by simp
 obj:=λi h ⟨hz,hI,⟨p,q,hO⟩,h1,h2⟩ b hb=>by
  obtain⟨o1,e1,d1,_⟩:=h1.obj;obtain⟨o2,e2,d2,_⟩:=h2.obj;simp only[ZK,acn,or_false] at hb;rcases hb with rfl|rfl|rfl|rfl|rfl
  ·exact⟨_,hz,λv e=>by cases e⟩
  ·exact⟨_,hI,λv e=>by cases e⟩
  ·exact⟨_,hO,λv e=>by cases e⟩
  ·exact⟨o1,e1,λv e=>by rw[d1] at e;cases e⟩
  ·exact⟨o2,e2,λv e=>by rw[d2] at e;cases e⟩
 keep:=λi h h' ⟨hz,hI,⟨p,q,hO⟩,h1,h2⟩ k=>⟨k z (by simp) _ hz,k TI (by simp) _ hI,⟨p,q,k TO (by simp) _ hO⟩,h1.at λo e=>k i1 (by simp) o e,h2.at λo e=>k i2 (by simp) o e⟩
 item:=by
  intro X hP hw hK hc i pins s σ H E I hf st hg;subst hP hw hK;obtain⟨hz,hI,⟨p,q,hO⟩,h1,h2⟩:=st;obtain⟨xs,ys,x,y,q1,q2,hx,hy⟩:=hg;obtain⟨is1,v1,g1⟩:=I.sq q1;obtain⟨is2,v2,g2⟩:=I.sq q2;obtain⟨u1,iZ,r1⟩:=v1.get hx;obtain⟨u2,Wq,r2⟩:=v2.get hy;obtain⟨o1,e1,_,_⟩:=h1.obj;obtain⟨o2,e2,_,_⟩:=h2.obj;have lz:=ZU hz;have lI:=ZU hI;have lO:=ZU hO;have Ye:=ZU e1;have Yf:=ZU e2;refine FT D hz hI hO h1 h2 g1 g2 (x:=u1) (y:=u2) (by simpa using iZ) (by simpa using Wq) λh' c1 c2 c3 c4 c5 kp=>⟨_,rfl,?_⟩;refine wpAny_letOwnedTupleGo_zip c1 λOy z2 sb=>?_;have QN:acR Oy s.heap.objs.size u1 u2:=sb.extBut _ _ (acz lz) c5;have Yg:∀b o,b∉[z,TI,TO,i1,i2]->s.heap.get? b=some o->Oy.get? b=some o:=λb o hb e=>by
   simp only[ZK,acn,or_false,not_or] at hb;exact sb.extBut _ _ hb.1 (kp b o hb.1 hb.2.2.1 hb.2.2.2.1 hb.2.2.2.2 e)
  have I2:aN X pins σ (cE H s.heap.objs.size (.tup [x,y])) {s with heap:=Oy}:=I.turnNew (t':=s.toks) hf Yg (ZP _) ⟨by rw[abw];simp,[u1,u2],.cons r1 (.cons r2 .nil),⟨_,QN,rfl,_,rfl⟩,_,QN⟩;have fr:H s.heap.objs.size=none:=I.hok.fresh (ZP _);refine⟨.ref s.heap.objs.size,_,I2,rfl,⟨_,x,y,rfl,fr,rfl,λzs hq=>by rw[I.sq_inj hq q1];exact hx,λzs hq=>by rw[I.sq_inj hq q2];exact hy⟩,⟨z2,?_,⟨u1,u2,?_⟩,?_,?_⟩,λb hb=>?_⟩
  ·exact sb.extBut _ _ D.TIz (kp _ _ D.TIz D.TITO D.TIi1 D.TIi2 hI)
  ·exact sb.extBut _ _ D.TOz c2
  ·exact c3.at λo e=>sb.extBut _ _ D.i1z e
  ·exact c4.at λo e=>sb.extBut _ _ D.i2z e
  ·have hn:b≠s.heap.objs.size:=by
    simp only[ZK,acn,or_false] at hb;rcases hb with rfl|rfl|rfl|rfl|rfl
    ·exact Z6 lz
    ·exact Z6 lI
    ·exact Z6 lO
    ·exact Z6 Ye
    ·exact Z6 Yf
   rw[bq hn];exact (hf b hb).1
 done:=by
  intro X hP hw hK hc i pins s σ H E I hf st hg;subst hP hw hK;obtain⟨hz,hI,⟨p,q,hO⟩,h1,h2⟩:=st;obtain⟨xs,ys,q1,q2,he⟩:=hg;obtain⟨is1,v1,g1⟩:=I.sq q1;obtain⟨is2,v2,g2⟩:=I.sq q2;have n1:=v1.length;have n2:=v2.length;refine FU (I.ok.hd hc) D hz hI hO h1 h2 g1 g2 (by
   rcases he with he|he
   ·exact .inl (by simp;lia)
   ·exact .inr (by simp;lia)) λh' kp=>⟨rfl,I.turneds (t':=s.toks) hf λb o hb e=>?_⟩
  simp only[ZK,acn,or_false,not_or] at hb;exact kp b o hb.1 hb.2.2.1 hb.2.2.2.1 hb.2.2.2.2 e
 self:=λ_ _ _ _ _ st h=>wpAny_pyIter_zip st.1 h
section
variable {Ks:List abd}{kt:Nat}{tp p:Pos}{a b:abd}
def PX:aai "zip"=some (.type "zip"):=by decide+kernel
def Vm (K:ZD)(ta:TA):TI:=λσ H R=>ta σ H λvs H1=>∃l1 l2 a1 a2 xs ys,vs=[.ref a1,.ref a2]/\FW l1 K H1 a1 xs/\FW l2 K H1 a2 ys/\R (WH K l1 l2 a1 a2) H1
theorem PY {ta:TA}(hg:Gl X "zip")(hm:X.mg "zip"=none)(ha:PA X [a,b] ta)(hs:ZX [a,b] X.env=[(false,acP a X.env),(false,acP b X.env)]:=by rfl)(cV:ZX [b] X.env=[(false,acP b X.env)]:=by rfl) :
  PI X (.Tuple Ks kt tp) (.Call (.Name "zip" p) [a,b] [] pos) (Vm X.K ta):=by
 intro pins s σ H R I h;refine Call_ (tX I hg hm PX (acA (eK (ha pos pins s σ H _ I h) λus s1 ⟨vs,H1,I1,r1,q1⟩=>?_) (by rw[hs,cV]) (by rw[cV];rfl)));obtain⟨l1,l2,a1,a2,xs,ys,rfl,g1,g2,q⟩:=q1;cases r1 with
 |cons r rr=>
  cases rr with
  |cons r' rr=>
   cases rr;cases r;cases r';obtain⟨is1,v1,m1⟩:=I1.sq g1;obtain⟨is2,v2,m2⟩:=I1.sq g2;have lt:∀(l:Bool) (c:ZY) (zs:Array ZF),kj l s1.heap c zs->c<s1.heap.objs.size:=λl c zs hq=>by
    cases l with
    |true=>obtain⟨_,e,_⟩:=hq;exact ZU e
    |false=>obtain⟨_,e,_⟩:=hq;exact ZU e
   refine FV m1 m2 λh' z1 z2 z3 z4 z5 kp=>wpAny_pyIter_zip z1 ?_;refine⟨_,[s1.heap.objs.size+4,s1.heap.objs.size+2,s1.heap.objs.size+3,s1.heap.objs.size,s1.heap.objs.size+1],_,_,H1,rfl,I1.kept (t':=s1.toks) λb o e=>kp b o e,Iu (zipApart_new (lt l1 a1 _ m1) (lt l2 a2 _ m2)),⟨z1,z2,⟨_,_,z3⟩,z4,z5⟩,λb hb=>?_,q⟩;have hb:s1.heap.objs.size<=b:=by
    simp only[ZK,acn,or_false] at hb;rcases hb with rfl|rfl|rfl|rfl|rfl
    ·exact acp _ _
    ·exact acp _ _
    ·exact acp _ _
    ·exact ZP _
    ·exact acp _ _
   exact I1.fpOk hb (I1.hok.fresh hb)
end
noncomputable def FX:U->Option (List U)
 | .lst us=>some us
 | .tup us=>some us
 |_=>none
noncomputable def Cp (ga:Ev->R (List U×Ev)):Ev->R (List U×Ev):=λρ=>(ga ρ).bind λx=>match x.1 with
 | [u,w]=>match FX u,FX w with
  |some us,some ws=>.ok (aba (λa b=>.tup [a,b]) us ws,x.2)
  |_,_=>.stk
 |_=>.stk
section
variable {Ks:List abd}{kt:Nat}{tp p1:Pos}{a b:abd}{b1:Bool}{ga:Ev->R (List U×Ev)}
theorem Iv {u:U}(e:FX u=some us)(h:Rp K H A u v):∃l a xs,v=.ref a/\us.length<=ZH/\aO K H A us xs/\FW l K H a xs/\∀H',fB A H H'->(∀b,A b->Mu (H b))->FW l K H' a xs:=by
 unfold FX at e;split at e;rotate_right
 ·cases e
 rotate_left
 ·cases e;unfold Rp at h;obtain⟨a,xs,rfl,q,l,z⟩:=h;exact⟨false,a,xs,rfl,l,z,jj.of q,λH' x mu=>jj.of (x a _ (λy=>by have:=mu a y;rw[q] at this;exact this) q)⟩
 ·cases e;unfold Rp at h;obtain⟨a,xs,rfl,na,q,l,z⟩:=h;exact⟨true,a,xs,rfl,l,z,gD.of q,λH' x mu=>gD.of (x a _ na q)⟩
theorem Cq (ha:DA X G [a,b] b1 false ga)(hm:X.mg "zip"=none)(hg:Gl X "zip":=by rfl)(hs:ZX [a,b] X.env=[(false,acP a X.env),(false,acP b X.env)]:=by rfl)(cV:ZX [b] X.env=[(false,acP b X.env)]:=by rfl) :
  DI X G (.Tuple Ks kt tp) (.Call (.Name "zip" p1) [a,b] [] pos) b1 false (Cp ga):=⟨(PY hg hm ha.un hs cV).to λσ H RR h00=>by
 obtain⟨Z,A,ρ,q,f⟩:=h00;unfold Cp at f;cases e1:ga ρ with
 |stk=>rw[e1] at f;exact f.elim
 |exc=>rw[e1] at f;exact f.elim
 |ok y=>
  obtain⟨us,ρ1⟩:=y;rw[e1] at f;dsimp only[L2.R.bind] at f;refine⟨Z,A,ρ,q,?_⟩;rw[e1];intro vs H1 q1 x1 s1 vm;split at f
  ·rename_i X9 ρ' e2;split at e2
   ·rename_i u w';split at e2
    ·rename_i as bs ea eb;cases e2;have r:=vm.rps;unfold aO at r;obtain⟨v,vr,rfl,r1,r2⟩:=r;unfold aO at r2;obtain⟨v',vr',rfl,r3,r4⟩:=r2;unfold aO at r4;subst r4;obtain⟨l1,a1,xs,rfl,n1,z1,k1,BC⟩:=Iv ea r1;obtain⟨l2,a2,ys,rfl,n2,z2,k2,oH⟩:=Iv eb r3;refine⟨l1,l2,a1,a2,xs,ys,rfl,k1,k2,f _ H1 q1 x1 s1 ⟨?_,λH2 A' hx Dg=>?_⟩⟩
     ·rw[aci];exact aaz (Nat.min_le_left _ _) n1
     ·rw[hU ZE] at hx;have Wg:=BC H2 hx q1.mu;have Wh:=oH H2 hx q1.mu;have w1:=z1.re q1.mu hx Dg;have w2:=z2.re q1.mu hx Dg;refine⟨λi u hu=>?_,⟨xs,ys,Wg,Wh,?_⟩⟩
      ·rw[abS] at hu;cases hA:as[i]? with
       |none=>rw[hA] at hu;cases hu
       |some ua=>cases hB:bs[i]? with
        |none=>rw[hA,hB] at hu;cases hu
        |some ub=>
         rw[hA,hB] at hu;cases hu;obtain⟨x,hx1,px⟩:=w1.get hA;obtain⟨y,hy1,py⟩:=w2.get hB;refine⟨⟨xs,ys,x,y,Wg,Wh,hx1,hy1⟩,λx' H' yl=>?_⟩;obtain⟨T,x2,y2,rfl,hT,rfl,g1,g2⟩:=yl;have ex:x2=x:=by have:=g1 xs Wg;rw[hx1] at this;cases this;rfl
         have ey:y2=y:=by have:=g2 ys Wh;rw[hy1] at this;cases this;rfl
         subst ex ey;have sm:=cN hT (.tup [x2,y2]);refine⟨sm,?_⟩;unfold Rp;exact⟨T,_,rfl,bC,by have:ZH=16777216:=rfl;rw[this];simp,aO.cons (px.same sm) (aO.cons (py.same sm) aO.nil)⟩
      ·rw[aci,←z1.length,←z2.length];rcases Nat.le_total as.length bs.length with z|z
       ·exact .inl (by rw[Nat.min_eq_left z];exact ZP _)
       ·exact .inr (by rw[Nat.min_eq_right z];exact ZP _)
    ·cases e2
   ·cases e2
  ·exact f.elim⟩
end
end L2
namespace L2
section
variable {A:aar}{b:Bool}
theorem Cr {x:V}{u:ZF}{n:String}{tp:ZY}(I:aN X pins σ H s)(rx:bA x u)(ty:wm X.K H x n)(MK:s.heap.get? tp=some {cls:=.type "tuple",data:=.seq its.toArray k})(e:aeB X.K (.type n) its=some b)(h:∀tk,Q (.bool b) {s with toks:=tk}) :
  Z1 (Z8 X.prog X.w) A (call (.builtin "isinstance") [u,.ref tp]) Q E s:=by
 cases ty with
 |non=>cases (show u=Value.none from rx);exact abr PySem.W.kitx_none I.kIn True.intro MK e (λz=>nomatch z) h
 |bl y=>cases (show u=Value.bool y from rx);exact abr PySem.W.kitx_bool I.kIn True.intro MK e (λz=>nomatch z) h
 |int i=>obtain⟨t,q⟩:=(show ∃t,u=Value.int i t from rx);cases q;exact abr PySem.W.kitx_int I.kIn True.intro MK e (λz=>nomatch z) h
 |str y=>obtain⟨t,q⟩:=(show ∃t,u=Value.str y t from rx);cases q;exact abr PySem.W.kitx_str I.kIn True.intro MK e (λz=>nomatch z) h
 | @lst a xs ea=>
  cases (show u=Value.ref a from rx);obtain⟨_,_,n,_,h1⟩:=(show bT X.prog X.w H s.heap a (.lst xs) from I.hok a _ ea);exact abr adn I.kIn ⟨_,h1,rfl⟩ MK e (λz=>nomatch z) h
 | @frz a ob xs ea=>
  cases (show u=Value.ref a from rx);obtain⟨_,_,_,n,_,h1⟩:=(show bT X.prog X.w H s.heap a (.frz ob (.lst xs)) from I.hok a _ ea);exact abr adn I.kIn ⟨_,h1,rfl⟩ MK e (λz=>nomatch z) h
 | @tup a xs ea=>
  cases (show u=Value.ref a from rx);obtain⟨_,_,_,p,_⟩:=(show bT X.prog X.w H s.heap a (.tup xs) from I.hok a _ ea);obtain⟨o,h1,h2,_⟩:=p;exact abr PySem.W.kitx_tuple I.kIn ⟨o,h1,h2⟩ MK e (λz=>nomatch z) h
 | @dK a bE ea=>
  cases (show u=Value.ref a from rx);obtain⟨_,_,vs,_,p⟩:=(show bT X.prog X.w H s.heap a (.dK bE) from I.hok a _ ea);obtain⟨o,es,ep,h1,h2,_⟩:=p;exact abr ado I.kIn ⟨o,h1,h2.1⟩ MK e (λz=>nomatch z) h
 | @dT a bE ea=>
  cases (show u=Value.ref a from rx);obtain⟨_,_,xs,_,o,es,ep,h1,h2,_⟩:=(show bT X.prog X.w H s.heap a (.dT bE) from I.hok a _ ea);exact abr ado I.kIn ⟨o,h1,h2.1⟩ MK e (λz=>nomatch z) h
theorem yq {m1 m2:String}(h1:m1∈["bool","int","str","list","tuple","dict"])(h2:m2∈["bool","int","str","list","tuple","dict"]) :
  ez X (.builtin "isinstance") (λxs H Q=>∃x n p,xs=[x,.ref p]/\H p=some (.tup [.ty m1,.ty m2])/\wm X.K H x n/\Q (.bl (iU n m1||iU n m2)) H):=by
 intro pins s σ H xs us Q I r h;obtain⟨x,n,p,rfl,hp,ty,q⟩:=h;obtain⟨u,w',rfl,rx,rt⟩:=zH r;cases rt;obtain⟨_,its,vs,_,k,hg⟩:=(show bT X.prog X.w H s.heap p (.tup [.ty m1,.ty m2]) from I.hok p _ hp);obtain⟨a,b,rfl,ra,rb⟩:=zH vs;cases ra;cases rb;refine Cr I rx ty hg (b:=iU n m1||iU n m2) ?_ λtk=>⟨.bl _,H,I.tok tk,rfl,q⟩;unfold aeB aeB aeB;rw[Hn X.K ty.mem h1,Hn X.K ty.mem h2];cases iU n m1<;>cases iU n m2<;>rfl
end
section
variable {e:abd}{p1 p2 p3 p4:Pos}{b1:Bool}{m1 m:Md}{g1:Ev->R (U×Ev)}{v:Option abd}{w:Option abd}
noncomputable def Iw (T1 T2:String)(g:Ev->R (U×Ev)):Ev->R (U×Ev):=λρ=>(g ρ).bind λx=>if Kx x.1="script" then .stk else .ok (.bl (iU (Kx x.1) T1||iU (Kx x.1) T2),x.2)
theorem wm.re {x:V}{n:String}(h:wm K H x n)(k:∀a o,H a=some o->H' a=some o):wm K H' x n:=by
 cases h with
 |non=>exact .non
 |bl=>exact .bl _
 |int=>exact .int _
 |str=>exact .str _
 |lst e=>exact .lst (k _ _ e)
 |frz e=>exact .frz (k _ _ e)
 |tup e=>exact .tup (k _ _ e)
 |dK e=>exact .dK (k _ _ e)
 |dT e=>exact .dT (k _ _ e)
theorem Iy {T1 T2:String}{x1 x2:Str}{c:Nat}(Yh:T1∈["bool","int","str","list","tuple","dict"])(Yi:T2∈["bool","int","str","list","tuple","dict"])(he:DE X G e b1 m1 g1)(zi:X.mg "isinstance"=none)(Yj:X.mg x1=none)(Yk:aai x1=some (.type T1))(Yl:X.mg x2=none)(Ym:aai x2=some (.type T2))(hg:Gl X "isinstance":=by rfl)(QQ:Gl X x1:=by rfl)(Yn:Gl X x2:=by rfl)
  (V7:x1≠"__name__":=by decide) (Dh:(x1==("__debug__":Str))=false:=by decide) (Tz:x2≠"__name__":=by decide) (BE:(x2==("__debug__":Str))=false:=by decide)
  (hs:ZX [e,.Tuple [.Name x1 p2,.Name x2 p3] c p4] X.env=(false,acP e X.env)::ZX [.Tuple [.Name x1 p2,.Name x2 p3] c p4] X.env:=by rfl)
  (cV:ZX [.Tuple [.Name x1 p2,.Name x2 p3] c p4] X.env=(false,acP (.Tuple [.Name x1 p2,.Name x2 p3] c p4) X.env)::ZX [] X.env:=by rfl)
  (Q3:ZX [.Name x1 p2,.Name x2 p3] X.env=(false,acP (.Name x1 p2) X.env)::ZX [.Name x2 p3] X.env:=by rfl)
  (Wi:ZX [.Name x2 p3] X.env=(false,acP (.Name x2 p3) X.env)::ZX [] X.env:=by rfl)
  (sJ:(abL pos (ZX [.Tuple [.Name x1 p2,.Name x2 p3] c p4] X.env)).any (·.1)=false:=by rfl) :
  DE X G (.Call (.Name "isinstance" p1) [e,.Tuple [.Name x1 p2,.Name x2 p3] c p4] [] pos) b1 .S (Iw T1 T2 g1):=
 ⟨(mw (yq (m1:=T1) (m2:=T2) Yh Yi) hg zi oo (eN he.un (eN (G3 (eN (xY (v:=.ty T1) QQ Yj Yk rfl V7 Dh) (eN (xY (v:=.ty T2) Yn Yl Ym rfl Tz BE) kD Wi) Q3)) kD cV) hs) (by decide) (by decide) hs sJ).to λσ H Q h=>by
 obtain⟨Z,A,ρ,q,f⟩:=h;obtain⟨⟨u,ρ1⟩,e1,f⟩:=f.bind;refine⟨Z,A,ρ,q,?_⟩;rw[e1];intro v H1 q1 x1 s1 vm;dsimp only at f;split at f
 ·exact f.elim
 ·rename_i hn;exact⟨by show 2<=ZH;decide,λp hp=>⟨v,Kx u,p,rfl,bC,(M7 vm.pk hn).re λa o z=>by rw[bq (bR z hp)];exact z,f _ _ (q1.same (cN hp _)) (x1.trans (fB.same (cN hp _))) (pJ s1 (cN hp _)) (xl.ofS iw)⟩⟩⟩
theorem Iz {g:Ev->SR}(h:∀ρ,∃c u,g ρ=.exc c u)(hW:∀H,¬G.W H:=by exact λ_ h=>h):DS X G m (.Raise v w pos) g:=⟨λpins s σ H D I h00=>by
 obtain⟨Z,A,ρ,q,f⟩:=h00;obtain⟨c,u,e⟩:=h ρ;rw[e] at f;exact absurd (f H q.bas) (hW H)⟩
end
end L2
namespace L2
def nr {α:Sort _}{a b:α}(h:a=b):a=b:=h
noncomputable def look (o:Option (Option U))(ρ:Ev):R (U×Ev):=match o with
 |some (some u)=>.ok (u,ρ)
 |_=>.stk
noncomputable def WI (u:U)(ρ:Ev):R (Bool×Ev):=match u with
 | .bl c=>.ok (c,ρ)
 |_=>.stk
noncomputable def Uq (o:Option U):R U:=match o with
 |some u=>.ok u
 |none=>.stk
noncomputable def SR.seq (r:SR)(g:Ev->SR):SR:=match r with
 | .nx ρ=>g ρ
 |r=>r
noncomputable def SR.turn (r:SR)(g:Ev->SR):SR:=match r with
 | .nx ρ=>g ρ
 | .ct ρ=>g ρ
 | .bk ρ=>.nx ρ
 |r=>r
noncomputable def Ap (m:Md)(r:SR):R U:=match r with
 | .rt u _=>.ok u
 | .nx _=>if m=.S then .ok .non else .stk
 | .exc c u=>.exc c u
 |_=>.stk
noncomputable def io0 (u:U)(o:Option (Option U)):R (U×U):=match o with
 |some (some w)=>.ok (u,w)
 |_=>.stk
noncomputable def PZ (r:SR):R (U×U):=match r with
 | .rt u ρ=>io0 u ρ[0]?
 | .nx ρ=>io0 .non ρ[0]?
 | .exc c u=>.exc c u
 |_=>.stk
section
variable {u w:U}{α β:Type}{g g1 g2 g3:Ev->R (U×Ev)}{h h1 h2:Ev->R (Bool×Ev)}{s s1 s2:Ev->SR}{ga:Ev->R (List U×Ev)}{m:Md}{ws:List U}
def Eb:ag i ρ=look ρ[i]? ρ:=nr rfl
def yr:look (some (some u)) ρ=.ok (u,ρ):=nr rfl
def Vn:gC u ρ=.ok (u,ρ):=nr rfl
def yt {a:α}{f:α->R β}:(R.ok a).bind f=f a:=nr rfl
def Nc {f:α->R β}:(R.stk:R α).bind f=.stk:=nr rfl
def Ec {a:α}{f:α->SR}:SR.of (R.ok a) f=f a:=nr rfl
def LM {p:U->U->R U}:aD p g1 g2 ρ=(g1 ρ).bind λx=>(g2 x.2).bind λy=>(p x.1 y.1).bind λz=>.ok (z,y.2):=nr rfl
def Vo:gB g ρ=(g ρ).bind λx=>WI x.1 x.2:=nr rfl
def IA {c:Bool}:WI (.bl c) ρ=.ok (c,ρ):=nr rfl
def IB:qJ h1 h2 ρ=(h1 ρ).bind λx=>if x.1=true then h2 x.2 else .ok (false,x.2):=nr rfl
def Nf:DJ h1 h2 ρ=(h1 ρ).bind λx=>if x.1=true then .ok (true,x.2) else h2 x.2:=nr rfl
def IC:sP h ρ=(h ρ).bind λx=>.ok (!x.1,x.2):=nr rfl
def Ng:zY g1 g2 ρ=(gB g1 ρ).bind λx=>if x.1=true then g2 x.2 else .ok (.bl false,x.2):=nr rfl
def R7:Xx g1 g2 ρ=(gB g1 ρ).bind λx=>if x.1=true then .ok (.bl true,x.2) else g2 x.2:=nr rfl
def Nh:Ln g ρ=(gB g ρ).bind λx=>.ok (.bl (!x.1),x.2):=nr rfl
def R8:MY h g1 g2 ρ=(h ρ).bind λx=>if x.1=true then g1 x.2 else g2 x.2:=nr rfl
noncomputable def WJ (p':U->U->R U)(g3:Ev->R (U×Ev))(y:U×Ev)(z:U):R (U×Ev):=match z with
 | .bl k=>if k=true then (g3 y.2).bind λw=>(p' y.1 w.1).bind λz'=>.ok (z',w.2) else .ok (.bl false,y.2)
 |_=>.stk
def Ed {p p':U->U->R U}:oP p p' g1 g2 g3 ρ=(g1 ρ).bind λx=>(g2 x.2).bind λy=>(p x.1 y.1).bind λz=>WJ p' g3 y z:=nr rfl
def Ni {p':U->U->R U}{y:U×Ev}{k:Bool}:WJ p' g3 y (.bl k)=if k=true then (g3 y.2).bind λw=>(p' y.1 w.1).bind λz'=>.ok (z',w.2) else .ok (.bl false,y.2):=nr rfl
def R9 {p:U->R U}:Lo p g ρ=(g ρ).bind λx=>(p x.1).bind λz=>.ok (z,x.2):=nr rfl
def Cs:ao ρ=.ok ([],ρ):=nr rfl
def Ee:af g ga ρ=(g ρ).bind λx=>(ga x.2).bind λy=>.ok (x.1::y.1,y.2):=nr rfl
def ID:aU ga ρ=(ga ρ).bind λx=>if x.1.length<=ZH then .ok (.tup x.1,x.2) else .stk:=nr rfl
def Ct:bb ga ρ=(ga ρ).bind λx=>if x.1.length<=ZH then .ok (.lst x.1,x.2) else .stk:=nr rfl
def R_ {p:List U->R U}:dP p ga ρ=(ga ρ).bind λx=>(p x.1).bind λz=>.ok (z,x.2):=nr rfl
def Sa {f:List U->R U}:dw n f ga ρ=(ga ρ).bind λx=>(B5 n f x.1).bind λz=>.ok (z,x.2):=nr rfl
def Nj {f:List U->R α}(h:us.length=n):B5 n f us=f us:=hV h
noncomputable def WK (n:Nat)(f:List U->R (U×U))(us:List U)(i:Nat)(ρ:Ev)(o:Option (Option U)):R (U×Ev):=match o with
 |some (some u0)=>(B5 n f (u0::us)).bind λz=>.ok (z.1,ρ.set i (some z.2))
 |_=>.stk
def Nk {f:List U->R (U×U)}:WK n f us i ρ (some (some u))=(B5 n f (u::us)).bind λz=>.ok (z.1,ρ.set i (some z.2)):=nr rfl
noncomputable def IE (o:Option (Option U)):Bool:=match o with
 |some (some _)=>true
 |_=>false
def Ef:IE (some (some u))=true:=nr rfl
def Sb {f:List U->R (U×U)}:xn n i f ga ρ=if IE ρ[i]? = true then (ga ρ).bind λx=>WK n f x.1 i x.2 x.2[i]? else .stk:=nr rfl
noncomputable def Vp (i:Nat)(p:U->List U->R (U×U))(us:List U)(ρ:Ev)(o:Option (Option U)):R (U×Ev):=match o with
 |some (some u0)=>(p u0 us).bind λz=>.ok (z.1,ρ.set i (some z.2))
 |_=>.stk
def Nl {p:U->List U->R (U×U)}:Vp i p us ρ (some (some u))=(p u us).bind λz=>.ok (z.1,ρ.set i (some z.2)):=nr rfl
noncomputable def WL (T:String)(i:Nat)(p:U->List U->R (U×U))(ga:Ev->R (List U×Ev))(ρ:Ev)(o:Option (Option U)):R (U×Ev):=match o with
 |some (some u1)=>if Fw u1 T=true then (ga ρ).bind λx=>Vp i p x.1 x.2 x.2[i]? else .stk
 |_=>.stk
def Nm {T:String}{p:U->List U->R (U×U)}:WL T i p ga ρ (some (some u))=if Fw u T=true then (ga ρ).bind λx=>Vp i p x.1 x.2 x.2[i]? else .stk:=nr rfl
def WM {T:String}{p:U->List U->R (U×U)}:gM T i p ga ρ=WL T i p ga ρ ρ[i]? := nr rfl
def IF:Fw (.lst us) "list"=true:=nr rfl
def Eg:i6 ρ=.ok (none,ρ):=nr rfl
noncomputable def WN (u:U)(ρ:Ev):R (Option Int×Ev):=match u with
 | .int i=>.ok (some i,ρ)
 |_=>.stk
def Nn {k:Int}:WN (.int k) ρ=.ok (some k,ρ):=nr rfl
def Eh:iy g ρ=(g ρ).bind λx=>WN x.1 x.2:=nr rfl
def Se {p:U->Option Int->Option Int->R U}{lo hi:Ev->R (Option Int×Ev)}:z9 p g lo hi ρ=(g ρ).bind λx=>(lo x.2).bind λl=>(hi l.2).bind λh=>(p x.1 l.1 h.1).bind λz=>.ok (z,h.2):=nr rfl
noncomputable def ku (T:String)(u:U)(ρ:Ev):R (U×Ev):=if Kx u="script" then .stk else .ok (.bl (iU (Kx u) T),ρ)
def IG {T:String}:jQ T g ρ=(g ρ).bind λx=>ku T x.1 x.2:=nr rfl
def IH:a9 ρ=.nx ρ:=nr rfl
def Ei:Po ρ=.bk ρ:=nr rfl
def II:RS ρ=.ct ρ:=nr rfl
def Np:aB s1 s2 ρ=(s1 ρ).seq s2:=nr rfl
def Cu:(SR.nx ρ).seq s=s ρ:=nr rfl
def IJ:(SR.rt u ρ).seq s=.rt u ρ:=nr rfl
def IK:(SR.bk ρ).seq s=.bk ρ:=nr rfl
def IL:(SR.ct ρ).seq s=.ct ρ:=nr rfl
def IM:kW g ρ=SR.of (g ρ) λx=>.nx x.2:=nr rfl
def IP:aV g ρ=SR.of (g ρ) λx=>.rt x.1 x.2:=nr rfl
def Nq:aY i g ρ=SR.of (g ρ) λx=>.nx (x.2.set i (some x.1)):=nr rfl
def Nr {sg:U->Ev->R Ev}:Fy sg g ρ=SR.of (g ρ) λx=>SR.of (sg x.1 x.2) .nx:=nr rfl
def Nt:gJ h s1 s2 ρ=SR.of (h ρ) λx=>if x.1=true then s1 x.2 else s2 x.2:=nr rfl
noncomputable def WO (i j:Nat)(ρ:Ev)(o:Option (Option U)):SR:=match o with
 |some (some u)=>.nx ((ρ.set j none).set i (some u))
 |_=>.stk
def IQ:RT i j ρ=WO i j ρ ρ[j]? := nr rfl
def Nu:WO i j ρ (some (some u))=.nx ((ρ.set j none).set i (some u)):=nr rfl
noncomputable def Sf (i j:Nat)(us:List U)(ρ:Ev):SR:=match us with
 | [u,w]=>.nx ((ρ.set i (some u)).set j (some w))
 |_=>.stk
def Nv:Pp i j ga ρ=SR.of (ga ρ) λx=>Sf i j x.1 x.2:=nr rfl
def IS:Sf i j [u,w] ρ=.nx ((ρ.set i (some u)).set j (some w)):=nr rfl
noncomputable def Sg (i:Nat)(v k:U)(ρ:Ev)(o:Option (Option U)):SR:=match k with
 | .int k=>match o with
  |some (some (.lst us))=>match zK us.length k with
   |some j=>.nx (ρ.set i (some (.lst (us.set j v))))
   |none=>.stk
  |_=>.stk
 |_=>.stk
def IT:uD i g1 g2 ρ=SR.of (g1 ρ) λx=>if IE x.2[i]? = true then SR.of (g2 x.2) λy=>Sg i x.1 y.1 y.2 y.2[i]? else .stk:=nr rfl
def Nw {k:Int}(h:zK us.length k=some j):Sg i w (.int k) ρ (some (some (.lst us)))=.nx (ρ.set i (some (.lst (us.set j w)))):=by
 unfold Sg;dsimp only;rw[h]
noncomputable def Sh (i:Nat)(p:U->U->R U)(g:Ev->R (U×Ev))(ρ:Ev)(o:Option (Option U)):SR:=match o with
 |some (some u)=>SR.of (g ρ) λy=>SR.of (p u y.1) λz=>.nx (y.2.set i (some z))
 |_=>.stk
def Ny {p:U->U->R U}:HP i p g ρ=Sh i p g ρ ρ[i]? := nr rfl
def IU {p:U->U->R U}:Sh i p g ρ (some (some u))=SR.of (g ρ) λy=>SR.of (p u y.1) λz=>.nx (y.2.set i (some z)):=nr rfl
def Nz {gi:Ev->R (List U×Ev)}{sg:U->Ev->R Ev}:jx gi sg s ρ=SR.of (gi ρ) λx=>f9 sg s x.1 x.2:=nr rfl
def Ej {sg:U->Ev->R Ev}:f9 sg s [] ρ=.nx ρ:=nr rfl
def jS:f9 sg s (u::us) ρ=SR.of (sg u ρ) λρ1=>(s ρ1).turn (f9 sg s us):=nr rfl
def Ek:(SR.nx ρ).turn s=s ρ:=nr rfl
def El:(SR.ct ρ).turn s=s ρ:=nr rfl
def Em:(SR.bk ρ).turn s=.nx ρ:=nr rfl
def En:(SR.rt u ρ).turn s=.rt u ρ:=nr rfl
def Eo:iD h s (n+1) ρ=SR.of (h ρ) λx=>if x.1=true then (s x.2).turn (iD h s n) else .nx x.2:=nr rfl
noncomputable def LN (u:U)(ρ:Ev):R (List U×Ev):=match u with
 | .lst us=>.ok (us,ρ)
 | .tup us=>.ok (us,ρ)
 | .scr us=>.ok (us,ρ)
 |_=>.stk
def Cv:cC g ρ=(g ρ).bind λx=>LN x.1 x.2:=nr rfl
def Cw:LN (.lst us) ρ=.ok (us,ρ):=nr rfl
def IV:LN (.tup us) ρ=.ok (us,ρ):=nr rfl
def IW:LN (.scr us) ρ=.ok (us,ρ):=nr rfl
noncomputable def P0 (us:List U)(ρ:Ev):R (List U×Ev):=match us with
 | [.int j]=>if -1000000<=j/\j<=1000000 then .ok (bY 0 j.toNat,ρ) else .stk
 |_=>.stk
def IX:pN ga ρ=(ga ρ).bind λx=>P0 x.1 x.2:=nr rfl
def P2 {k:Int}:P0 [.int k] ρ=if -1000000<=k/\k<=1000000 then .ok (bY 0 k.toNat,ρ) else .stk:=nr rfl
noncomputable def Ep (us:List U)(ρ:Ev):R (U×Ev):=match us with
 | [.int j]=>if Ca 0 j=true then .ok (.lst (bY 0 (j-0).toNat),ρ) else .stk
 |_=>.stk
noncomputable def Si (us:List U)(ρ:Ev):R (U×Ev):=match us with
 | [.int j]=>if Ca 0 j=true then .ok (.tup (bY 0 (j-0).toNat),ρ) else .stk
 |_=>.stk
def IY:mI ga ρ=(ga ρ).bind λx=>Ep x.1 x.2:=nr rfl
def IZ:RX ga ρ=(ga ρ).bind λx=>Si x.1 x.2:=nr rfl
theorem Sj {k:Int}(h0:0<=k)(h1:k<=1000000):Ca 0 k=true:=by
 unfold Ca;simp only[Z3,decide_eq_true_eq];lia
theorem pV (n:Nat)(h:n<=1000000):Ep [.int n] ρ=.ok (.lst (bY 0 n),ρ):=by
 unfold Ep;dsimp only;rw[hV (Sj (by lia) (by lia)),show ((n:Int)-0).toNat=n by lia]
theorem yu (n:Nat)(h:n<=1000000):P0 [.int n] ρ=.ok (bY 0 n,ρ):=by
 rw[P2,hV (by lia)];rfl
def I0 {gi:Ev->R (List U×Ev)}{js:List (Option Nat)}{sg:U->Ev->R Ev}:eO gi js sg h g ρ=(gi ρ).bind λx=>(ko (xp js sg h g x.2) x.1).bind λys=>.ok (.lst ys,x.2):=nr rfl
def NA {G:Gm}{gi:Ev->R (List U×Ev)}{js:List (Option Nat)}{sg:U->Ev->R Ev}:Ls G gi js sg h g ρ=(gi ρ).bind λx=>(sQ G js sg h g x.1 x.2).bind λy=>.ok (.lst y.1,y.2):=nr rfl
def I_ {js:List (Option Nat)}{sg:U->Ev->R Ev}:xp js sg h g ρ u=(sg u (lE js ρ)).bind λρi=>(h ρi).bind λc=>if c.1=true then (g ρi).bind λy=>.ok (some y.1) else .ok none:=nr rfl
def Ja {G:Gm}{js:List (Option Nat)}{sg:U->Ev->R Ev}:sQ G js sg h g [] ρ=.ok ([],ρ):=nr rfl
def P4:sQ G js sg h g (u::us) ρ=(sg u (lE js ρ)).bind λρi=>(h ρi).bind λc=>if c.1=true then (g c.2).bind λy=>(sQ G js sg h g us (wb G js y.2 ρ)).bind λr=>.ok (y.1::r.1,r.2) else sQ G js sg h g us (wb G js c.2 ρ):=nr rfl
def Jb:fT ρ=.ok (true,ρ):=nr rfl
def Jc:bL i u ρ=.ok (ρ.set i (some u)):=nr rfl
def Sk:Vl ρ=.ok (.dct [] [],ρ):=nr rfl
def Jd:bO m n s us=Ap m (s (cb n us)):=nr rfl
def yv:Ap m (.rt u ρ)=.ok u:=nr rfl
def Je:Ac n s us=PZ (s (cb n us)):=nr rfl
def Er:PZ (.rt u ρ)=io0 u ρ[0]? := nr rfl
def NC:io0 u (some (some w))=.ok (u,w):=nr rfl
def uJ {ρ:Ev}:lE [] ρ=[]:=nr rfl
def qS {js:List (Option Nat)}:lE (none::js) ρ=none::lE js ρ:=nr rfl
theorem qT {js:List (Option Nat)}:lE (some j::js) ρ=(ρ[j]?).getD none::lE js ρ:=by
 unfold lE;rw[ZR];congr 1;dsimp only;cases ρ[j]? <;> rfl
end
section
variable {i j k:Int}{ws:List U}{u w:U}{lo:Option Int}
def Jf:dO (.int i) (.int j)=.ok (.int (i+j)):=nr rfl
def Jg:dO (.tup us) (.tup ws)=if us.length+ws.length<=ZH then .ok (.tup (us++ws)) else .stk:=nr rfl
def Jh:dO (.lst us) (.lst ws)=if us.length+ws.length<=ZH then .ok (.lst (us++ws)) else .stk:=nr rfl
def ND:uE (.int i) (.int j)=.ok (.int (i-j)):=nr rfl
def NF:gL (.int i) (.int j)=if oQ i j=true then .ok (.int (i*j)) else .stk:=nr rfl
def Ji:xq (.int i) (.int j)=if Fz i j=true then .ok (.int (i / j)) else .stk:=nr rfl
def NG:yg (.int i) (.int j)=if decide (0<j)=true then .ok (.int (i % j)) else .stk:=nr rfl
def NH:Lx (.int i) (.int j)=if Lw i j=true then .ok (.int (i ^ j.toNat)) else .stk:=nr rfl
def NI:yh (.int i)=.ok (.int (-i)):=nr rfl
def Sl:PH (.int i) (.int j)=.ok (.bl (decide (i<j))):=nr rfl
def Sm:Ly (.int i) (.int j)=.ok (.bl (decide (i<=j))):=nr rfl
def yw:FA (.int i) (.int j)=.ok (.bl (decide (j<i))):=nr rfl
def Sn:Vi (.int i) (.int j)=.ok (.bl (decide (j<=i))):=nr rfl
theorem Jj:bD (.lst us) (.int i)=Uq (mx us i):=by show (match mx us i with|some z=>R.ok z|none=>.stk)=_;cases mx us i<;>rfl
theorem NJ:bD (.tup us) (.int i)=Uq (mx us i):=by show (match mx us i with|some z=>R.ok z|none=>.stk)=_;cases mx us i<;>rfl
theorem NK:bD (.scr us) (.int i)=Uq (mx us i):=by show (match mx us i with|some z=>R.ok z|none=>.stk)=_;cases mx us i<;>rfl
def Jk:Uq (some u)=.ok u:=nr rfl
def NL:xr (.lst us) lo hi=.ok (.lst (kF us lo hi)):=nr rfl
def NM:xr (.tup us) lo hi=.ok (.tup (kF us lo hi)):=nr rfl
def NN:xr (.scr us) lo hi=.ok (.lst (kF us lo hi)):=nr rfl
def Jl:cD [.lst us]=.ok (.int us.length):=nr rfl
def Jm:cD [.tup us]=.ok (.int us.length):=nr rfl
def Jn:cD [.scr us]=.ok (.int us.length):=nr rfl
def Jo:jP [.lst us]=.ok (.tup us):=nr rfl
def Jp:jP [.tup us]=.ok (.tup us):=nr rfl
def Jq:M6 [.lst us]=.ok (.lst us):=nr rfl
def Jr:M6 [.tup us]=.ok (.lst us):=nr rfl
def NO {a b:Bool}{f:Bool->Bool}:Vj f (.bl a) (.bl b)=.ok (.bl (f (decide (a=b)))):=nr rfl
def NP {f:Bool->Bool}:sR f u .non=.ok (.bl (f (DV u))):=nr rfl
def Js:D0 [.int i,.int j]=.ok (.int (if j<i then j else i)):=nr rfl
def Jt:DZ [.int i,.int j]=.ok (.int (if j>i then j else i)):=nr rfl
def LO {f:Bool->Bool}:gc f u w=(jO u w).bind λb=>.ok (.bl (f b)):=nr rfl
theorem uK (n:Nat):mx us (n:Int)=us[n]? := by
 unfold mx zK;by_cases h:n<us.length
 ·rw[hV (by lia),hV (by lia)];rfl
 ·rw[hV (by lia),hU (by lia)];rw[aaB.mpr (by lia)];rfl
def Ju:mx us 0=us[0]? := uK 0
def NQ:mx us 1=us[1]? := uK 1
def NR:mx us 2=us[2]? := uK 2
theorem So (h:0<us.length):zK us.length 0=some 0:=by unfold zK;rw[hV (by lia),hV (by lia)];rfl
def Es (h0:0<j)(h1:j<18446744073709551616):Fz i j=true:=by unfold Fz;simp[h0,h1]
theorem yx (h0:0<=i)(h1:i<18446744073709551616):oQ i j=true:=by
 unfold oQ;simp only[ab6,Z3,decide_eq_true_eq];exact .inl ⟨(by lia),(by lia)⟩
theorem Jv (h0:0<=j)(h1:j<18446744073709551616):oQ i j=true:=by
 unfold oQ;simp only[ab6,Z3,decide_eq_true_eq];exact .inr ⟨(by lia),(by lia)⟩
end
end L2
namespace L2
theorem Et {i:Nat}{w u:U}{us:List U}{ρ:Ev}:Sg i w (.int 0) ρ (some (some (.lst (u::us))))=.nx (ρ.set i (some (.lst (w::us)))):=by
 rw[Nw (j:=0) (So (by rw[ZM];lia))];rfl
def Eu {ρ:Ev}:PZ (.nx ρ)=io0 .non ρ[0]? := rfl
theorem Aq {G:Gm}{js:List (Option Nat)}{sg:U->Ev->R Ev}{ge:Ev->R (U×Ev)}{σ:Type}(ev:σ->Ev)(N:Nat)(I:List U->σ->Prop)
  (step:∀done u s,done.length<N->I done s->∃ρi y ρi' s',sg u (lE js (ev s))=.ok ρi/\ge ρi=.ok (y,ρi')/\wb G js ρi' (ev s)=ev s'/\I (done++[y]) s') :
  ∀(us done:List U) (s:σ),done.length+us.length<=N->I done s->∃ys s',sQ G js sg fT ge us (ev s)=.ok (ys,ev s')/\ys.length=us.length/\I (done++ys) s'
 | [],done,s,_,h=>⟨[],s,rfl,rfl,by rw[aad];exact h⟩
 |u::us,done,s,hl,h=>by
  rw[ZM] at hl;obtain⟨ρi,y,ρi',s',e1,e2,e3,h'⟩:=step done u s (by lia) h;obtain⟨ys,QE,e4,e5,h''⟩:=Aq ev N I step us (done++[y]) s' (by rw[ZJ,adD];lia) h';refine⟨y::ys,QE,?_,by rw[ZM,ZM,e5],by rw[aac] at h'';exact h''⟩;rw[P4,e1,yt,Jb,yt,hV rfl,e2,yt,e3,e4,yt]
theorem jG {s:Ev->SR}(I:Nat->Ev->Prop)(step:∀(i:Nat) (u:U) (ρ:Ev),us[i]? = some u->I i ρ->∃ρ1 ρ2,sg u ρ=.ok ρ1/\(s ρ1=.nx ρ2\/s ρ1=.ct ρ2)/\I (i+1) ρ2)(h:I 0 ρ) :
  ∃ρ',f9 sg s us ρ=.nx ρ'/\I us.length ρ':=by
 have gen:∀(n i:Nat) (ρ:Ev),i+n=us.length->I i ρ->∃ρ',f9 sg s (us.drop i) ρ=.nx ρ'/\I us.length ρ':=by
  intro n
  induction n with
  |zero=>
   intro i ρ hi h;have:i=us.length:=(by lia)
   subst this;rw[aco];exact⟨ρ,rfl,h⟩
  |succ n ih=>
   intro i ρ hi h;have wY:i<us.length:=(by lia)
   obtain⟨ρ1,ρ2,e1,e2,h2⟩:=step i us[i] ρ (Zw wY) h;obtain⟨ρ',e3,h3⟩:=ih (i+1) ρ2 (by lia) h2;refine⟨ρ',?_,h3⟩;rw[aa4 wY,jS,e1,Ec];rcases e2 with e2|e2<;>(rw[e2];exact e3)
 have:=gen us.length 0 ρ (by lia) h
 rwa [acv] at this
theorem Ew {f:U->R (Option U)}{g:U->U}:∀{us:List U},(∀u∈us,f u=.ok (some (g u)))->ko f us=.ok (us.map g)
 | [],_=>rfl
 |u::us,h=>by
  unfold ko;rw[h u ZA,yt,Ew λw hw=>h w (ZC _ hw)];rfl
def Ur (u:U):Prop:=∃d,fP u=some d/\cB d<=20
theorem Ar:∀{us:List U},(∀u∈us,Ur u)->∃ds,fU us=some ds/\fJ ds<=20/\ds.length=us.length
 | [],_=>⟨[],by unfold fU;rfl,by unfold fJ;lia,rfl⟩
 |u::us,h=>by
  obtain⟨d,e,l⟩:=h u ZA;obtain⟨ds,e',l',n⟩:=Ar λw hw=>h w (ZC _ hw);refine⟨d::ds,by unfold fU;rw[e,e'];rfl,?_,by rw[ZM,ZM,n]⟩;unfold fJ;exact Nat.max_le.mpr ⟨l,l'⟩
theorem Cy (h:∀u∈us,Ur u):jO (.lst us) (.lst [])=.ok us.isEmpty:=by
 obtain⟨ds,e,l,n⟩:=Ar h;unfold jO;have e1:fP (.lst us)=some (.lst ds):=by unfold fP;rw[e];rfl
 have e2:fP (.lst [])=some (.lst []):=by unfold fP fU;rfl
 rw[e1,e2];dsimp only;rw[hV (by unfold cB;lia)];unfold iu;cases us with
 |nil=>cases ds with
  |nil=>rfl
  |cons=>cases n
 |cons u us=>cases ds with
  |nil=>cases n
  |cons=>rfl
theorem qU (ns:List Int):fU (ns.map .int)=some (ns.map .int):=by
 induction ns with
 |nil=>unfold fU;rfl
 |cons n ns ih=>rw[ZR];unfold fU;rw[ih];unfold fP;rfl
theorem oU (ns:List Int):fJ (ns.map .int)=0:=by
 induction ns with
 |nil=>unfold fJ;rfl
 |cons n ns ih=>rw[ZR];unfold fJ;rw[ih];unfold cB;rfl
theorem qV:∀(ns ms:List Int),lA (ns.map .int) (ms.map .int)=decide (ns=ms)
 | [],[]=>by unfold lA;simp
 | [],m::ms=>by simp[lA]
 |n::ns,[]=>by simp[lA]
 |n::ns,m::ms=>by
  rw[ZR,ZR];unfold lA iu;rw[qV ns ms,aaR];simp
theorem Ex (ns ms:List Int):jO (.lst (ns.map .int)) (.lst (ms.map .int))=.ok (decide (ns=ms)):=by
 unfold jO;have e1:∀ns:List Int,fP (.lst (ns.map .int))=some (.lst (ns.map .int)):=λns=>by unfold fP;rw[qU];rfl
 rw[e1,e1];dsimp only;rw[hV (by unfold cB;rw[oU];lia)];unfold iu;rw[qV]
theorem Jw (ns ms:List Int):jO (.tup (ns.map .int)) (.tup (ms.map .int))=.ok (decide (ns=ms)):=by
 unfold jO;have e1:∀ns:List Int,fP (.tup (ns.map .int))=some (.tup (ns.map .int)):=λns=>by unfold fP;rw[qU];rfl
 rw[e1,e1];dsimp only;rw[hV (by unfold cB;rw[oU];lia)];unfold iu;rw[qV]
theorem cY (a b:Int):jO (.int a) (.int b)=.ok (a==b):=by
 unfold jO fP;dsimp only;rw[hV (by unfold cB;lia)];unfold iu;rfl
theorem iX (a b:Str):jO (.str a) (.str b)=.ok (a==b):=by
 unfold jO fP;dsimp only;rw[hV (by unfold cB;lia)];unfold iu;rfl
noncomputable def bz (n:Nat):List Int:=(aas n).map λi=>(i:Nat)
def mM (n:Nat):bY 0 n=(bz n).map .int:=by
 unfold bY bz;rw[aaZ];exact abm λi _=>by show U.int (0+(i:Int))=.int _;rw[Int.zero_add]
def cG (n:Nat):(bz n).length=n:=by unfold bz;rw[Zz,aaX]
end L2
namespace L2
def inb (s:String){T:String}{u:U}{ρ:Ev}{b:Bool}(h:Kx u=s)(h1:¬s="script")(h2:iU s T=b):ku T u ρ=.ok (.bl b,ρ):=by unfold ku;rw[h,hU h1,h2]
def rS {ρ:Ev}:ku "bool" (.non) ρ=.ok (.bl false,ρ):=inb "NoneType" rfl (by decide) (by decide)
def uL {ρ:Ev}:ku "int" (.non) ρ=.ok (.bl false,ρ):=inb "NoneType" rfl (by decide) (by decide)
def uM {ρ:Ev}:ku "str" (.non) ρ=.ok (.bl false,ρ):=inb "NoneType" rfl (by decide) (by decide)
def rT {ρ:Ev}:ku "list" (.non) ρ=.ok (.bl false,ρ):=inb "NoneType" rfl (by decide) (by decide)
def pW {ρ:Ev}:ku "tuple" (.non) ρ=.ok (.bl false,ρ):=inb "NoneType" rfl (by decide) (by decide)
def rV {ρ:Ev}:ku "dict" (.non) ρ=.ok (.bl false,ρ):=inb "NoneType" rfl (by decide) (by decide)
def uN {b:Bool}{ρ:Ev}:ku "bool" (.bl b) ρ=.ok (.bl true,ρ):=inb "bool" rfl (by decide) (by decide)
def xA {b:Bool}{ρ:Ev}:ku "int" (.bl b) ρ=.ok (.bl true,ρ):=inb "bool" rfl (by decide) (by decide)
def xB {b:Bool}{ρ:Ev}:ku "str" (.bl b) ρ=.ok (.bl false,ρ):=inb "bool" rfl (by decide) (by decide)
def uO {b:Bool}{ρ:Ev}:ku "list" (.bl b) ρ=.ok (.bl false,ρ):=inb "bool" rfl (by decide) (by decide)
def rW {b:Bool}{ρ:Ev}:ku "tuple" (.bl b) ρ=.ok (.bl false,ρ):=inb "bool" rfl (by decide) (by decide)
def uP {b:Bool}{ρ:Ev}:ku "dict" (.bl b) ρ=.ok (.bl false,ρ):=inb "bool" rfl (by decide) (by decide)
def rX {i:Int}{ρ:Ev}:ku "bool" (.int i) ρ=.ok (.bl false,ρ):=inb "int" rfl (by decide) (by decide)
def uQ {i:Int}{ρ:Ev}:ku "int" (.int i) ρ=.ok (.bl true,ρ):=inb "int" rfl (by decide) (by decide)
def uR {i:Int}{ρ:Ev}:ku "str" (.int i) ρ=.ok (.bl false,ρ):=inb "int" rfl (by decide) (by decide)
def rY {i:Int}{ρ:Ev}:ku "list" (.int i) ρ=.ok (.bl false,ρ):=inb "int" rfl (by decide) (by decide)
def pX {i:Int}{ρ:Ev}:ku "tuple" (.int i) ρ=.ok (.bl false,ρ):=inb "int" rfl (by decide) (by decide)
def rZ {i:Int}{ρ:Ev}:ku "dict" (.int i) ρ=.ok (.bl false,ρ):=inb "int" rfl (by decide) (by decide)
def r6 {x:Str}{ρ:Ev}:ku "bool" (.str x) ρ=.ok (.bl false,ρ):=inb "str" rfl (by decide) (by decide)
def uS {x:Str}{ρ:Ev}:ku "int" (.str x) ρ=.ok (.bl false,ρ):=inb "str" rfl (by decide) (by decide)
def uT {x:Str}{ρ:Ev}:ku "str" (.str x) ρ=.ok (.bl true,ρ):=inb "str" rfl (by decide) (by decide)
def r9 {x:Str}{ρ:Ev}:ku "list" (.str x) ρ=.ok (.bl false,ρ):=inb "str" rfl (by decide) (by decide)
def pY {x:Str}{ρ:Ev}:ku "tuple" (.str x) ρ=.ok (.bl false,ρ):=inb "str" rfl (by decide) (by decide)
def r_ {x:Str}{ρ:Ev}:ku "dict" (.str x) ρ=.ok (.bl false,ρ):=inb "str" rfl (by decide) (by decide)
def sd {us:List U}{ρ:Ev}:ku "bool" (.tup us) ρ=.ok (.bl false,ρ):=inb "tuple" rfl (by decide) (by decide)
def uU {us:List U}{ρ:Ev}:ku "int" (.tup us) ρ=.ok (.bl false,ρ):=inb "tuple" rfl (by decide) (by decide)
def uW {us:List U}{ρ:Ev}:ku "str" (.tup us) ρ=.ok (.bl false,ρ):=inb "tuple" rfl (by decide) (by decide)
def se {us:List U}{ρ:Ev}:ku "list" (.tup us) ρ=.ok (.bl false,ρ):=inb "tuple" rfl (by decide) (by decide)
def pZ {us:List U}{ρ:Ev}:ku "tuple" (.tup us) ρ=.ok (.bl true,ρ):=inb "tuple" rfl (by decide) (by decide)
def sf {us:List U}{ρ:Ev}:ku "dict" (.tup us) ρ=.ok (.bl false,ρ):=inb "tuple" rfl (by decide) (by decide)
def sh {us:List U}{ρ:Ev}:ku "bool" (.lst us) ρ=.ok (.bl false,ρ):=inb "list" rfl (by decide) (by decide)
def uX {us:List U}{ρ:Ev}:ku "int" (.lst us) ρ=.ok (.bl false,ρ):=inb "list" rfl (by decide) (by decide)
def uY {us:List U}{ρ:Ev}:ku "str" (.lst us) ρ=.ok (.bl false,ρ):=inb "list" rfl (by decide) (by decide)
def sr {us:List U}{ρ:Ev}:ku "list" (.lst us) ρ=.ok (.bl true,ρ):=inb "list" rfl (by decide) (by decide)
def p6 {us:List U}{ρ:Ev}:ku "tuple" (.lst us) ρ=.ok (.bl false,ρ):=inb "list" rfl (by decide) (by decide)
def su {us:List U}{ρ:Ev}:ku "dict" (.lst us) ρ=.ok (.bl false,ρ):=inb "list" rfl (by decide) (by decide)
def sv {ρ:Ev}:ku "bool" (.dct [] []) ρ=.ok (.bl false,ρ):=inb "dict" rfl (by decide) (by decide)
def uZ {ρ:Ev}:ku "int" (.dct [] []) ρ=.ok (.bl false,ρ):=inb "dict" rfl (by decide) (by decide)
def u4 {ρ:Ev}:ku "str" (.dct [] []) ρ=.ok (.bl false,ρ):=inb "dict" rfl (by decide) (by decide)
def sx {ρ:Ev}:ku "list" (.dct [] []) ρ=.ok (.bl false,ρ):=inb "dict" rfl (by decide) (by decide)
def p7 {ρ:Ev}:ku "tuple" (.dct [] []) ρ=.ok (.bl false,ρ):=inb "dict" rfl (by decide) (by decide)
def sy {ρ:Ev}:ku "dict" (.dct [] []) ρ=.ok (.bl true,ρ):=inb "dict" rfl (by decide) (by decide)
noncomputable def XA (u:U):Bool:=match u with
 | .int _=>true
 |_=>false
theorem Jx (ns:List Int):Ur (.tup (ns.map .int)):=⟨.tup (ns.map .int),by unfold fP;rw[qU];rfl,by unfold cB;rw[oU];lia⟩
def aG:type_of% @Eb/\type_of% @yr/\type_of% @Vn/\type_of% @yt/\type_of% @Nc/\type_of% @Ec/\type_of% @LM/\type_of% @Vo/\type_of% @IA/\type_of% @IB/\type_of% @Nf/\type_of% @IC/\type_of% @Ng/\type_of% @R7/\type_of% @Nh/\type_of% @R8/\type_of% @Ed/\type_of% @R9/\type_of% @Cs/\type_of% @Ee/\type_of% @ID/\type_of% @Ct/\type_of% @R_/\type_of% @Sa/\type_of% @Nk/\type_of% @Ef/\type_of% @Sb/\type_of% @Nl/\type_of% @Nm/\type_of% @WM/\type_of% @IF/\type_of% @Eg/\type_of% @Nn/\type_of% @Eh/\type_of% @Se/\type_of% @IG/\type_of% @IH/\type_of% @Ei/\type_of% @II/\type_of% @Np/\type_of% @Cu/\type_of% @IJ/\type_of% @IK/\type_of% @IL/\type_of% @IM/\type_of% @IP/\type_of% @Nq/\type_of% @Nr/\type_of% @Nt/\type_of% @IQ/\type_of% @Nu/\type_of% @Nv/\type_of% @IS/\type_of% @IT/\type_of% @Ny/\type_of% @IU/\type_of% @Nz/\type_of% @Ej/\type_of% @Ek/\type_of% @El/\type_of% @Em/\type_of% @En/\type_of% @Cv/\type_of% @Cw/\type_of% @IV/\type_of% @IW/\type_of% @IX/\type_of% @IY/\type_of% @IZ/\type_of% @I0/\type_of% @NA/\type_of% @I_/\type_of% @Ja/\type_of% @Jb/\type_of% @Jc/\type_of% @Sk/\type_of% @Jd/\type_of% @yv/\type_of% @Je/\type_of% @Er/\type_of% @NC/\type_of% @uJ/\type_of% @qS/\type_of% @qT/\type_of% @Jf/\type_of% @Jg/\type_of% @Jh/\type_of% @ND/\type_of% @NF/\type_of% @Ji/\type_of% @NG/\type_of% @NH/\type_of% @NI/\type_of% @Sl/\type_of% @Sm/\type_of% @yw/\type_of% @Sn/\type_of% @Jj/\type_of% @NJ/\type_of% @NK/\type_of% @Jk/\type_of% @NL/\type_of% @NM/\type_of% @NN/\type_of% @Jl/\type_of% @Jm/\type_of% @Jn/\type_of% @Jo/\type_of% @Jp/\type_of% @Jq/\type_of% @Jr/\type_of% @NO/\type_of% @NP/\type_of% @Js/\type_of% @Jt/\type_of% @LO/\type_of% @Ju/\type_of% @NQ/\type_of% @NR/\type_of% @Ni/\type_of% @rS/\type_of% @uL/\type_of% @uM/\type_of% @rT/\type_of% @pW/\type_of% @rV/\type_of% @uN/\type_of% @xA/\type_of% @xB/\type_of% @uO/\type_of% @rW/\type_of% @uP/\type_of% @rX/\type_of% @uQ/\type_of% @uR/\type_of% @rY/\type_of% @pX/\type_of% @rZ/\type_of% @r6/\type_of% @uS/\type_of% @uT/\type_of% @r9/\type_of% @pY/\type_of% @r_/\type_of% @sd/\type_of% @uU/\type_of% @uW/\type_of% @se/\type_of% @pZ/\type_of% @sf/\type_of% @sh/\type_of% @uX/\type_of% @uY/\type_of% @sr/\type_of% @p6/\type_of% @su/\type_of% @sv/\type_of% @uZ/\type_of% @u4/\type_of% @sx/\type_of% @p7/\type_of% @sy/\type_of% @Et/\type_of% @Eu:=
 ⟨@Eb,@yr,@Vn,@yt,@Nc,@Ec,@LM,@Vo,@IA,@IB,@Nf,@IC,@Ng,@R7,@Nh,@R8,@Ed,@R9,@Cs,@Ee,@ID,@Ct,@R_,@Sa,@Nk,@Ef,@Sb,@Nl,@Nm,@WM,@IF,@Eg,@Nn,@Eh,@Se,@IG,@IH,@Ei,@II,@Np,@Cu,@IJ,@IK,@IL,@IM,@IP,@Nq,@Nr,@Nt,@IQ,@Nu,@Nv,@IS,@IT,@Ny,@IU,@Nz,@Ej,@Ek,@El,@Em,@En,@Cv,@Cw,@IV,@IW,@IX,@IY,@IZ,@I0,@NA,@I_,@Ja,@Jb,@Jc,@Sk,@Jd,@yv,@Je,@Er,@NC,@uJ,@qS,@qT,@Jf,@Jg,@Jh,@ND,@NF,@Ji,@NG,@NH,@NI,@Sl,@Sm,@yw,@Sn,@Jj,@NJ,@NK,@Jk,@NL,@NM,@NN,@Jl,@Jm,@Jn,@Jo,@Jp,@Jq,@Jr,@NO,@NP,@Js,@Jt,@LO,@Ju,@NQ,@NR,@Ni,@rS,@uL,@uM,@rT,@pW,@rV,@uN,@xA,@xB,@uO,@rW,@uP,@rX,@uQ,@uR,@rY,@pX,@rZ,@r6,@uS,@uT,@r9,@pY,@r_,@sd,@uU,@uW,@se,@pZ,@sf,@sh,@uX,@uY,@sr,@p6,@su,@sv,@uZ,@u4,@sx,@p7,@sy,@Et,@Eu⟩
end L2
namespace Hc.Dw
def qW (h:abT)(a:ZY)(ds:Array aeO)(ep:Nat):Prop:=∃o,h.get? a=some o/\o.ExactDict/\o.data=.dict ds ep
theorem qW.ty (x:qW s.heap a ds ep):s.TypeIs (.ref a) "dict":=by
 obtain⟨o,e,c,_⟩:=x;exact⟨o,e,c.1⟩
theorem qW.at (x:qW h a ds ep)(e:∀o,h.get? a=some o->h'.get? a=some o):qW h' a ds ep:=by
 obtain⟨o,q,r⟩:=x;exact⟨o,e o q,r⟩
theorem qW.lt (x:qW h a ds ep):a<h.objs.size:=by obtain⟨o,e,_⟩:=x;exact ZU e
section
variable {A:aar}{d vw:ZY}
theorem Sq (lo:(d==abu)=false)(x:qW s.heap d ds ep)(q:Q (.ref s.heap.objs.size) {s with heap:=s.heap.push {cls:=.type "dict_keyiterator",data:=.fields (List.toArray [.ref d,.int 0 0,.int ds.size 0,.int ep 0])}}):Z1 (Z8 prog w) A (pyIter (.ref d)) Q E s:=by
 have ty:=x.ty;obtain⟨od,e1,e2,e3⟩:=x;refine aeM ty F.slot_dict_iter (aav F.slot_dict_iter ty F.entry_dict_iter ?_ (F.args_dict_iter_1 _));unfold Builtin.«dict.__iter__»;refine Zv ?_;unfold Builtin.Dict.dictSlotNone;refine Zv (wpAny_notOrdered_dict ty ?_);change Z1 _ _ (pure (Value.ref d)) _ _ s;refine Zy ?_;change Z1 _ _ (Builtin.Dict.showsAll d >>= _) _ _ s;unfold Builtin.Dict.showsAll;rw[hU (by rw[lo];exact ZE)];refine Zv (Zy (Zv (adx e1 e3 (Zv (wpAny_dictEpoch e1 e3 ?_)))));refine Zv (aat (Zy ⟨_,rfl,"dict_keyiterator",_,⟨_,ZQ _ rfl,rfl⟩,F.slot_dict_keyiterator_next.lookup,?_⟩));simpa [aei] using q
theorem Sr {Q:Option ZF->ZT->Prop}(t:s.heap.IsKeyIter it d i ds.size ep)(x:qW s.heap d ds ep)(hi:i<ds.size)
  (q:∀h',h'.IsKeyIter it d (i+1) ds.size ep->abp it s.heap h'->Q (some ds[i].key) {s with heap:=h'}):Z1 (Z8 prog w) A (adO (.ref it)) Q E s:=by
 have ty:=t.typeIs;obtain⟨oi,i1,i2,i3⟩:=t;obtain⟨od,e1,e2,e3⟩:=x;unfold adO;refine Zv (ach (aaw (name:=ZL "__next__") ty abB (aav abB ty adL ?_ (adF _))));refine Zv (Zy (Zv (Zv ?_)))
 first|refine Zv (abz ty (Zy ?_))|refine Zv (ab7 ty (Zy ?_))
 refine Zv (aeC i1 i3 ?_);simp only[show adW "dict_keyiterator"=false by decide,Z9,if_false];change Z1 _ _ (if (Value.ref d==Value.none)=true then _ else _) _ _ s;rw[hU (show ¬((Value.ref d==Value.none)=true) from ZE)];refine Zv (Zy (Zv (adx e1 e3 ?_)));rw[hU (by simp)];refine Zv (Zy (Zv (wpAny_dictEpoch e1 e3 ?_)));rw[hU (by simp)];refine Zy ?_;simp only[show ¬((i:Int)<0) from by lia,if_false,aau,Z7 hi];refine Zv ?_
 first|refine Zv (abz ty (Zy ?_))|refine Zv (ab7 ty (Zy ?_))
 refine Zv (wpAny_isOneOf_keyiter ty ?_);change Z1 _ _ (setField (.ref it) 1 (aei ((i:Int)+1)) >>= _) _ _ s;refine Zv (acw i1 i3 (by simp) ?_);have t':(s.heap.update it (Obj.mapFields (·.setIfInBounds 1 (aei ((i:Int)+1))))).IsKeyIter it d (i+1) ds.size ep:=
  ⟨_,aa_ _ i1 (acH (abh i3 _)),(adw ..).trans i2,by rw[abh i3];simp[aei]⟩
 refine Zv (aaW (Zv ?_));refine wpAny_isOneOf_keyiter (s:={s with heap:=s.heap.update it (Obj.mapFields (·.setIfInBounds 1 (aei ((i:Int)+1))))}) t'.typeIs ?_;change Z1 _ _ (pure ds[i].key) _ _ _;exact Zy (Zy ⟨_,rfl,Zy (q _ t' (aaJ ..))⟩)
theorem Ss {Q:Option ZF->ZT->Prop}(hh:A.handled=none)(t:s.heap.IsKeyIter it d i ds.size ep)(x:qW s.heap d ds ep)(hi:ds.size<=i)
  (q:∀h',Heap.ExtBut it s.heap h'->Q none {s with heap:=h'}):Z1 (Z8 prog w) A (adO (.ref it)) Q E s:=by
 have ty:=t.typeIs;obtain⟨oi,i1,i2,i3⟩:=t;obtain⟨od,e1,e2,e3⟩:=x;unfold adO;refine Zv (ach (aaw (name:=ZL "__next__") ty abB (aav abB ty adL ?_ (adF _))));refine Zv (Zy (Zv (Zv ?_)))
 first|refine Zv (abz ty (Zy ?_))|refine Zv (ab7 ty (Zy ?_))
 refine Zv (aeC i1 i3 ?_);simp only[show adW "dict_keyiterator"=false by decide,Z9,if_false];change Z1 _ _ (if (Value.ref d==Value.none)=true then _ else _) _ _ s;rw[hU (show ¬((Value.ref d==Value.none)=true) from ZE)];refine Zv (Zy (Zv (adx e1 e3 ?_)));rw[hU (by simp)];refine Zv (Zy (Zv (wpAny_dictEpoch e1 e3 ?_)));rw[hU (by simp)];refine Zy ?_;simp only[show ¬((i:Int)<0) from by lia,if_false,aau,adk hi];refine Zv ?_
 first|refine Zv (abz ty (Zy ?_))|refine Zv (ab7 ty (Zy ?_))
 change Z1 _ _ (setField (.ref it) 0 .none >>= _) _ _ s;refine Zv (acw i1 i3 (by simp) ?_);change Z1 _ _ (newExc (.type "StopIteration") [] >>= _) _ _ _;refine Zv ?_;simp only[newExc,newTuple];refine Zv (aat (hd:=by size_fits) ?_);refine Zv (m:=acV _ _) (adu (a:=Value.none) (by first|rfl|(simp only[acV];rfl)) (aat (hd:=by size_fits) ?_));simp only[raiseNew];refine Zv (wpAny_handled ?_);rw[show A.in1.handled=none from hh];refine Zv (Zy (wpAny_throw ?_));refine Zv (ac0 (b:=true) (T:="StopIteration") ⟨_,ZQ _ rfl,rfl⟩ isSubtype_stop ?_);exact Zy (q _ (((aaJ ..).extBut.push _).push _))
end
end Hc.Dw
namespace L2
open Hc.Dw
theorem u5 {α β:Type}{R:α->β->Prop}:∀{xs:List α} {ys:List β} {i:Nat} {y:β},ad0 R xs ys->ys[i]? = some y->∃x,xs[i]? = some x/\R x y
 |_,_,_,_,.nil,h=>by simp at h
 |x::xs,y'::ys,0,y,.cons r t,h=>by simp at h;subst h;exact⟨x,by simp,r⟩
 |x::xs,y'::ys,i+1,y,.cons r t,h=>by
  obtain⟨x',m,q⟩:=u5 t (i:=i) (by simpa using h);exact⟨x',by simpa using m,q⟩
theorem aN.rawD (I:aN X pins σ H s)(q:H a=some (DN a ep es)):(a==abu)=false/\∃ds,qW s.heap a ds ep/\ds.size=es.length/\∀(i:Nat) (hi:i<ds.size),∃e,es[i]? = some e/\ds[i].key=.ref e.2.1/\bA e.2.2 ds[i].val:=by
 obtain⟨⟨l,o,ds,xs,h1,h2,h3,h4,h5⟩,_⟩:=I.hok a _ q;have n1:ds.size=es.length:=by rw[←Z5,h5,Zz,Paired.length h4]
 refine⟨l,ds,⟨o,h1,h2,h3⟩,n1,λi hi=>?_⟩;have e1:ds.toList[i]? = some ds[i]:=by rw[Z4];exact getElem?_pos ds i hi
 rw[h5,Z2] at e1;cases e2:xs[i]? with
 |none=>rw[e2] at e1;cases e1
 |some x=>
  rw[e2] at e1;have e3:RM x=ds[i]:=by injection e1
  obtain⟨e,m,r⟩:=u5 h4 e2;refine⟨e,m,?_,?_⟩
  ·rw[←e3,r.2.1];rfl
  ·rw[←e3];exact r.2.2
structure M0 (X:Cx)(o:abd)(m:Str)(jc cpos:Pos):Prop where
 base:ac9 o m X.env (acP o X.env)=acP o X.env
 few:((abL cpos (ZX [] X.env)).all (λx=> !x.1)&&(backToKw cpos (ad6 [] X.env)).all (λx=>x.1.isSome)
  && decide (([]:List abd).length+([]:List adH).length+(if ([]:List adH).isEmpty then 0 else 1)<30))=true
 line:(jc.endLine==cpos.line)=true
 trees:abL cpos (ZX [] X.env)=[]
end L2
namespace L2
open Hc.Dw
mutual
theorem Su {K:ZD}{H:Hp}{A:ZY->Prop}:∀{u:U} {v:V},KH H u v->Rp K H A u v
 | .int i,v,h=>by unfold KH at h;unfold Rp;exact h
 | .tup us,v,h=>by
  unfold KH at h;unfold Rp;obtain⟨b,ys,e,q,l,z⟩:=h;exact⟨b,ys,e,q,l,Cz z⟩
 | .non,v,h=>by unfold KH at h;exact h.elim
 | .bl _,v,h=>by unfold KH at h;exact h.elim
 | .str _,v,h=>by unfold KH at h;exact h.elim
 | .lst _,v,h=>by unfold KH at h;exact h.elim
 | .dct _ _,v,h=>by unfold KH at h;exact h.elim
 | .scr _,v,h=>by unfold KH at h;exact h.elim
theorem Cz {K:ZD}{H:Hp}{A:ZY->Prop}:∀{us:List U} {vs:List V},uo H us vs->aO K H A us vs
 | [],vs,h=>by unfold uo at h;unfold aO;exact h
 |u::us,vs,h=>by
  unfold uo at h;unfold aO;obtain⟨x,r,q,p,z⟩:=h;exact⟨x,r,q,Su p,Cz z⟩
end
theorem NT (h:B1 H us b):Rp K H A (.tup us) (.ref b):=by
 obtain⟨_,ys,q,l,z⟩:=h;unfold Rp;exact⟨b,ys,rfl,q,l,Cz z⟩
noncomputable def Vq:U->Bool
 | .tup _=>true
 |_=>false
noncomputable def Us (ks:List U):Bool:= !ks.isEmpty&&ks.all Vq
theorem Jy (w:Us ks=true)(d:Fv H a ks xs):∃es ep,H a=some (DN a ep es)/\(∀e∈es,B1 H e.1 e.2.1)/\ks=es.map (λp=>.tup p.1)/\xs=es.map (·.2.2):=by
 unfold Us at w;rw[Z3] at w;rcases d with⟨bE,h,rfl,rfl⟩|⟨es,n,h,e1,e2⟩
 ·exfalso;cases bE with
  |nil=>exact absurd w.1 (by simp)
  |cons p r=>
   have:=w.2;rw[ZR,ace,Z3] at this;obtain⟨p1,p2⟩:=p;cases p1<;>cases this.1
 ·obtain⟨ep,q⟩:=h.ne n;exact⟨es,ep,q,h.key,e1,e2⟩
end L2
namespace L2
noncomputable def Gm.un (G:Gm)(i:Nat):Gm:=⟨G.own.set i false,G.io,G.W⟩
theorem lK:(G.un i).is i=false:=by
 unfold Gm.un Gm.is;dsimp only;rw[aak,List.getElem?_set];split
 ·split<;>rfl
 ·rename_i h;exact absurd rfl h
def mN (h:i≠j):(G.un i).is j=G.is j:=by
 unfold Gm.un Gm.is;dsimp only;rw[aak,aak,Z_ h]
section
variable {A':ZY->Prop}{ρ':Ev}
theorem cS.un (r:cS K G Z A ρ σ H)(hi:G.io=true->i≠0):∃A',cS K (G.un i) Z A' ρ σ H:=by
 have io0:∀h:(G.un i).io=true,σ[0]? = some (some (.ref Z.a0))/\(G.un i).is 0=true:=λh=>by
  obtain⟨a,b⟩:=r.io0 h;exact⟨a,by rw[mN (hi h)];exact b⟩
 by_cases c:G.is i=true/\∃u,ρ[i]? = some (some u)
 ·obtain⟨c,u,hu⟩:=c;obtain⟨a,h1,h2,h3,h4,h5⟩:=r.own c hu;have na:¬Z.A0 a:=by
   rcases h4 with h4|⟨h4,h6⟩
   ·exact h4
   ·exact absurd h6 (hi h4)
  have sub:∀b,(A b/\b≠a)->A b:=λb z=>z.1;refine⟨λb=>A b/\b≠a,?_⟩;exact {
   slot:=λj w hj=>by
    obtain⟨v,s1,s2⟩:=r.slot j w hj;refine⟨v,s1,?_⟩;by_cases e:i=j
    ·subst e;rw[hu] at hj;cases hj;rw[h1] at s1;cases s1;rw[hU (by rw[lK];exact ZE)];exact h5.rp sub λz=>z.2 rfl
    ·rw[mN e];by_cases cj:G.is j=true
     ·rw[hV cj] at s2 ⊢;obtain⟨b,e1,e2,e3,e4,e5⟩:=s2;refine⟨b,e1,⟨e2,λz=>?_⟩,e3,e4,e5.mono sub⟩;subst z e1;exact r.dis i j u w b c cj e hu hj h1 s1
     ·rw[hU cj] at s2 ⊢;exact s2.mono sub
   dis:=λj k w w' b cj ck ne hj hk sj sk=>by
    have e1:i≠j:=λz=>by subst z;rw[lK] at cj;cases cj
    have e2:i≠k:=λz=>by subst z;rw[lK] at ck;cases ck
    rw[mN e1] at cj;rw[mN e2] at ck;exact r.dis j k w w' b cj ck ne hj hk sj sk
   mu:=λb z=>r.mu b z.1
   sup:=λb z=>⟨r.sup b z,λe=>na (e▸z)⟩
   out:=λb z=>r.out b z.1
   bas:=r.bas
   io0:=io0
   len:=r.len}
 ·refine⟨A,?_⟩;exact {
   slot:=λj w hj=>by
    obtain⟨v,s1,s2⟩:=r.slot j w hj;refine⟨v,s1,?_⟩;by_cases e:i=j
    ·subst e;rw[hU (by rw[lK];exact ZE)];rw[hU (λz=>c ⟨z,w,hj⟩)] at s2;exact s2
    ·rw[mN e];exact s2
   dis:=λj k w w' b cj ck ne hj hk sj sk=>by
    have e1:i≠j:=λz=>by subst z;rw[lK] at cj;cases cj
    have e2:i≠k:=λz=>by subst z;rw[lK] at ck;cases ck
    rw[mN e1] at cj;rw[mN e2] at ck;exact r.dis j k w w' b cj ck ne hj hk sj sk
   mu:=r.mu
   sup:=r.sup
   out:=r.out
   bas:=r.bas
   io0:=io0
   len:=r.len}
theorem cS.reun (r:cS K (G.un i) Z A ρ σ H):cS K G Z A (ρ.set i none) σ H where
 slot:=λj w hj=>by
  rcases dA hj with⟨rfl,e⟩|⟨ne,e⟩
  ·cases e
  ·obtain⟨v,s1,s2⟩:=r.slot j w e;rw[mN ne] at s2;exact⟨v,s1,s2⟩
 dis:=λj k w w' a cj ck ne hj hk sj sk=>by
  rcases dA hj with⟨rfl,e⟩|⟨n1,e1⟩
  ·cases e
  ·rcases dA hk with⟨rfl,e⟩|⟨n2,e2⟩
   ·cases e
   ·exact r.dis j k w w' a (by rw[mN n1];exact cj) (by rw[mN n2];exact ck) ne e1 e2 sj sk
 mu:=r.mu
 sup:=r.sup
 out:=r.out
 bas:=r.bas
 io0:=λh=>by
  obtain⟨a,b⟩:=r.io0 h;refine⟨a,?_⟩;by_cases e:i=0
  ·subst e;rw[lK] at b;cases b
  ·rw[mN e] at b;exact b
 len:=by rw[aaF];exact r.len
end
noncomputable def wu (i:Nat)(g:Ev->SR):Ev->SR:=λρ=>match g ρ with
 | .nx ρ'=>.nx (ρ'.set i none)
 | .bk ρ'=>.bk (ρ'.set i none)
 | .ct ρ'=>.ct (ρ'.set i none)
 | .rt u ρ'=>.rt u (ρ'.set i none)
 |r=>r
section
variable {e:abd}{TQ:List aca}{st:aca}{m m1:Md}{g:Ev->SR}{g1:Ev->R (U×Ev)}{h1:Ev->R (Bool×Ev)}
theorem Jz (hi:G.io=true->i≠0){D:oI}(h:QW X.K G m (wu i g) D σ H):QW X.K (G.un i) m g D σ H:=by
 obtain⟨Z,A,ρ,q,f⟩:=h;obtain⟨A',q'⟩:=q.un hi;refine⟨Z,A',ρ,q',?_⟩;unfold wu at f;cases e:g ρ with
 |nx=>rw[e] at f;exact λA2 σ2 H2 q2=>f A2 σ2 H2 q2.reun
 |bk=>rw[e] at f;exact λA2 σ2 H2 q2=>f A2 σ2 H2 q2.reun
 |ct=>rw[e] at f;exact λA2 σ2 H2 q2=>f A2 σ2 H2 q2.reun
 |rt=>rw[e] at f;exact λA2 σ2 H2 v q2 vm=>f A2 σ2 H2 v q2.reun vm
 |exc=>rw[e] at f;exact f
 |stk=>rw[e] at f;exact f.elim
def tR (i:Nat)(h:B6 X (G.un i) m TQ g)(hi:G.io=true->i≠0:=by decide):B6 X G m TQ (wu i g):=⟨h.un.to λ_ _ _ z=>Jz hi z⟩
end
end L2
namespace Hc.Ts
section
variable {O:aeS}(key:acS->O.α)
def GG (l:List acS):Prop:=l.Pairwise λx y=>O.kle (key x) (key y)
structure MI (T o ra rb:List acS):Prop where
 perm:(o++(ra++rb)).Perm T
 so:GG key o
 sa:GG key ra
 sb:GG key rb
 oa:∀x∈o,∀y∈ra,O.kle (key x) (key y)
 ob:∀x∈o,∀y∈rb,O.kle (key x) (key y)
structure MH (T ra rb o:List acS):Prop where
 perm:((ra++rb)++o).Perm T
 so:GG key o
 sa:GG key ra
 sb:GG key rb
 oa:∀x∈ra,∀y∈o,O.kle (key x) (key y)
 ob:∀x∈rb,∀y∈o,O.kle (key x) (key y)
variable {key}
end
structure GH (M:Model)(A:aar)(E:ZF->ZT->Prop)(s:ZT)(O:aeS)(key:acS->O.α)(knd:SortKind)(D:acS->Prop):Prop where
 lt:∀(x y:acS) (st:aa6) (Q:Option Bool->aa6->Prop),D x->D y->acx st=knd->Q (some (O.blt (key x) (key y))) st->wpS M A E s (lt' x y) Q st
end Hc.Ts
namespace Hc.Ts
noncomputable def Ey (lo n m:Nat):StateT aa6 Sem AscSt:=forIn [n:m] ((none,n):AscSt) λ_ c=>do
 let some sm ←ltAt' (lo+c.2) (lo+c.2-1)|pure (.done (some none,c.2))
 if sm=true then pure (.done (none,c.2)) else pure (.yield (none,c.2+1))
noncomputable def Ez (lo n m:Nat):StateT aa6 Sem (Option Nat):=do
 adX lo (lo+n)
 let c ←Ey lo n m
 match c.1 with
 |some r=>pure r
 |none=>pure (some c.2)
noncomputable def NU (lo:Nat)(c:DescSt):StateT aa6 Sem (ForInStep DescSt):=do
 let some sm ←ltAt' (lo+c.2.1) (lo+c.2.1-1)|pure (.done (some none,c.2.1,c.2.2))
 if sm=true then
  if c.2.2>0 then do
   adX (lo+c.2.1-(c.2.2+1)) (lo+c.2.1)
   pure (.yield (none,c.2.1+1,0))
  else pure (.yield (none,c.2.1+1,0))
 else do
  let some lg ←ltAt' (lo+c.2.1-1) (lo+c.2.1)|pure (.done (some none,c.2.1,c.2.2))
  if lg=true then pure (.done (none,c.2.1,c.2.2)) else pure (.yield (none,c.2.1+1,c.2.2+1))
noncomputable def JA (lo n m:Nat):StateT aa6 Sem DescSt:=forIn [n:m] ((none,n,0):DescSt) λ_ c=>NU lo c
noncomputable def EA (lo n m:Nat):StateT aa6 Sem (Option Nat):=do
 liftM (rule "list.sort.descending-run")
 let c ←JA lo (n+1) m
 match c.1 with
 |some r=>pure r
 |none=>
  if c.2.2>0 then do
   adX (lo+c.2.1-(c.2.2+1)) (lo+c.2.1)
   Ez lo c.2.1 m
  else Ez lo c.2.1 m
theorem As (lo m:Nat):countRun' lo m=(do
  let c ←Ey lo 1 m
  match c.1 with
  |some r=>pure r
  |none=>
   if (c.2==m)=true then pure (some c.2)
   else if c.2>1 then do
    let some rs ←ltAt' lo (lo+c.2-1)|pure none
    if rs=true then pure (some c.2)
    else do
     adX lo (lo+c.2)
     EA lo c.2 m
   else EA lo c.2 m):=by kernel_rfl
section
variable {A:aar}{O:aeS}{key:acS->O.α}{knd:SortKind}{D:acS->Prop}{lo:Nat}{a0:Array acS}{st0:aa6}
noncomputable def kx (key:acS->O.α)(l:Array acS)(i:Nat):O.α:=key ((l[i]?).getD (Value.none,Value.none))
def Au {l m:Array acS}(h:l[i]? = m[j]?):kx key l i=kx key m j:=by unfold kx;rw[h]
theorem CA {l:Array acS}(hm:lo+m<=l.size)(k:Nat):kx key (mirror l (lo+n) (lo+m) ((lo+m-(lo+n)) / 2)) (lo+k)=if n<=k/\k<m then kx key l (lo+(n+m-1-k)) else kx key l (lo+k):=by
 have e:=getElem?_mirror_all (i:=lo+n) hm (lo+k);by_cases c:n<=k/\k<m
 ·rw[hV (by lia)] at e;rw[hV c];exact Au (e.trans (by congr 1;lia))
 ·rw[hU (by lia)] at e;rw[hU c];exact Au e
theorem i7 {l:Array acS}(hm:lo+m<=l.size)(he:∀k,n<=k->k<m->kx key l (lo+k)=kx key l (lo+m-1))(k:Nat):kx key (mirror l (lo+n) (lo+m) ((lo+m-(lo+n)) / 2)) (lo+k)=kx key l (lo+k):=by
 rw[CA hm];split
 ·rename_i c;rw[he _ (by lia) (by lia),he k c.1 c.2]
 ·rfl
theorem JB {l:Array acS}{p d:Nat}(hp:lo+p<l.size)(hd:d<=p)(k:Nat):kx key (bubble l (lo+p) d) (lo+k)=if k=p-d then kx key l (lo+p) else if p-d<k/\k<=p then kx key l (lo+(k-1)) else kx key l (lo+k):=by
 have e:=getElem?_bubble hp d (by lia) (lo+k);by_cases c:k=p-d
 ·rw[hV (by lia)] at e;rw[hV c];exact Au e
 ·rw[hU (by lia)] at e;rw[hU c];by_cases c2:p-d<k/\k<=p
  ·rw[hV (by lia)] at e;rw[hV c2];exact Au (e.trans (by congr 1;lia))
  ·rw[hU (by lia)] at e;rw[hU c2];exact Au e
def GI (key:acS->O.α)(lo:Nat)(l:Array acS)(n:Nat):Prop:=∀i j,i<=j->j<n->O.kle (kx key l (lo+i)) (kx key l (lo+j))
def QY (key:acS->O.α)(lo:Nat)(l:Array acS)(n:Nat):Prop:=∀i j,i<=j->j<n->O.kle (kx key l (lo+j)) (kx key l (lo+i))
structure SB (lo:Nat)(a0:Array acS)(st0 st:aa6):Prop where
 perm:(aaC st).Perm a0
 same:∀k,k<lo->(aaC st)[k]? = a0[k]?
 rest:st=setArr st0 (aaC st)
def SB.size {st:aa6}(h:SB lo a0 st0 st):(aaC st).size=a0.size:=h.perm.size_eq
theorem SB.put {st:aa6}(h:SB lo a0 st0 st){l:Array acS}(hp:l.Perm (aaC st))(hs:∀k,k<lo->l[k]? = (aaC st)[k]?):SB lo a0 st0 (setArr st l):=by
 refine⟨hp.trans h.perm,λk hk=>(hs k hk).trans (h.same k hk),?_⟩;have:=h.rest;generalize aaC st=z at this;subst this;rfl
theorem SB.mir {st:aa6}(h:SB lo a0 st0 st)(hm:lo+m<=a0.size):SB lo a0 st0 (setArr st (mirror (aaC st) (lo+n) (lo+m) ((lo+m-(lo+n)) / 2))):=by
 refine h.put (mirror_perm _ _ _ _) λk hk=>?_;rw[getElem?_mirror_all (by rw[h.size];exact hm),hU (by lia)]
theorem SB.bub {st:aa6}(h:SB lo a0 st0 st){p d:Nat}(hp:lo+p<a0.size)(hd:d<=p):SB lo a0 st0 (setArr st (bubble (aaC st) (lo+p) d)):=by
 refine h.put (bubble_perm _ _ _) λk hk=>?_;rw[getElem?_bubble (by rw[h.size];exact hp) d (by lia),hU (by lia),hU (by lia)]
def SB.kind {st:aa6}(h:SB lo a0 st0 st)(kd:acx st0=knd):acx st=knd:=by rw[h.rest];exact kd
theorem u6 (C:GH M A E s O key knd D){st:aa6}{Q:Option Bool->aa6->Prop}(kd:acx st0=knd)(hD:∀p∈a0.toList,D p)(hB:SB lo a0 st0 st)(hi:i<a0.size)(hj:j<a0.size)(h:Q (some (O.blt (kx key (aaC st) i) (kx key (aaC st) j))) st):wpS M A E s (ltAt' i j) Q st:=by
 have fd:∀i,i<a0.size->∃p,(aaC st)[i]? = some p/\D p/\kx key (aaC st) i=key p:=λi hi=>by
  have zu:i<(aaC st).size:=by rw[hB.size];exact hi
  refine⟨(aaC st)[i],getElem?_pos _ i zu,hD _ ((aeg.mp hB.perm).mem_iff.mp (by simp)),?_⟩;unfold kx;rw[getElem?_pos _ i zu];rfl
 obtain⟨p,e1,d1,k1⟩:=fd i hi;obtain⟨q,e2,d2,k2⟩:=fd j hj;rw[k1,k2] at h;rw[ltAt'_eq];refine aaK (wpS_get ?_);dsimp only;rw[elem'_eq,elem'_eq,e1,e2];refine aaK (abo (aaK (abo ?_)));exact C.lt p q st Q d1 d2 (hB.kind kd) h
def yy {st:aa6}{Q:Unit->aa6->Prop}(h:Q () (setArr st (mirror (aaC st) i j ((j-i) / 2)))):wpS M A E s (adX i j) Q st:=by
 rw[reverseSlice'_eq];exact wpS_modify h
theorem Av (C:GH M A E s O key knd D){st:aa6}{Q:AscSt->aa6->Prop}(kd:acx st0=knd)(hD:∀p∈a0.toList,D p)(hm:lo+m<=a0.size)(n1:1<=n)(nm:n<=m)(hB:SB lo a0 st0 st)(ha:GI key lo (aaC st) n)(h:∀r,n<=r->r<=m->GI key lo (aaC st) r->(r=m\/O.klt (kx key (aaC st) (lo+r)) (kx key (aaC st) (lo+r-1)))->Q (none,r) st):wpS M A E s (Ey lo n m) Q st:=by
 unfold Ey;refine adG (I:=λx c b_=>b_=st/\c=(none,x)/\GI key lo (aaC st) x) ?go ?out ⟨rfl,rfl,ha⟩
 case out=>
  rintro c b_ ⟨rfl,rfl,Dg⟩;have e:max n m=m:=(by lia)
  rw[e] at Dg ⊢;exact h m nm (ZP _) Dg (.inl rfl)
 case go=>
  rintro x c b_ h1 h2 ⟨rfl,rfl,Dg⟩;dsimp only;refine aaK (u6 C kd hD hB (by lia) (by lia) ?_);dsimp only;cases e:O.blt (kx key (aaC b_) (lo+x)) (kx key (aaC b_) (lo+x-1)) with
  |true=>
   rw[hV rfl];exact abo (h x h1 (by lia) Dg (.inr e))
  |false=>
   rw[hU ZE];refine abo ⟨rfl,rfl,λi j zp hj=>?_⟩;by_cases c1:j<x
   ·exact Dg i j zp c1
   ·have:j=x:=(by lia)
    subst this;by_cases c2:i=j
    ·subst c2;exact abt _
    ·have:=Dg i (j-1) (by lia) (by lia);rw[show lo+(j-1)=lo+j-1 by lia] at this;exact acq this e
theorem Aw (C:GH M A E s O key knd D){st:aa6}{Q:Option Nat->aa6->Prop}(kd:acx st0=knd)(hD:∀p∈a0.toList,D p)(hm:lo+m<=a0.size)(n1:1<=n)(nm:n<=m)(hB:SB lo a0 st0 st)(hd:QY key lo (aaC st) n)(h:∀r b_,SB lo a0 st0 b_->1<=r->r<=m->GI key lo (aaC b_) r->Q (some r) b_):wpS M A E s (Ez lo n m) Q st:=by
 unfold Ez;refine aaK (yy ?_);have Q4:=hB.mir (n:=0) (m:=n) (by lia);have hz:lo+n<=(aaC st).size:=by rw[hB.size];lia
 rw[aev] at Q4;refine aaK (Av C kd hD hm n1 nm Q4 (λi j zp hj=>?_) λr r1 r2 r3 _=>abo (h r _ Q4 (by lia) r2 r3));have e1:=CA (key:=key) (lo:=lo) (n:=0) hz i;have e2:=CA (key:=key) (lo:=lo) (n:=0) hz j;rw[aev,hV (by lia)] at e1 e2;rw[e1,e2];exact hd _ _ (by lia) (by lia)
theorem JC (C:GH M A E s O key knd D){st:aa6}{Q:DescSt->aa6->Prop}(kd:acx st0=knd)(hD:∀p∈a0.toList,D p)(hm:lo+m<=a0.size)(n1:1<=n)(nm:n<=m)(hB:SB lo a0 st0 st)(hd:QY key lo (aaC st) n)(h:∀r q b_,SB lo a0 st0 b_->n<=r->r<=m->QY key lo (aaC b_) r->q+1<=r->(∀i,r-(q+1)<=i->i<r->kx key (aaC b_) (lo+i)=kx key (aaC b_) (lo+r-1))->Q (none,r,q) b_):wpS M A E s (JA lo n m) Q st:=by
 unfold JA;refine adG (I:=λx c b_=>∃q,c=(none,x,q)/\SB lo a0 st0 b_/\QY key lo (aaC b_) x/\q+1<=x/\∀i,x-(q+1)<=i->i<x->kx key (aaC b_) (lo+i)=kx key (aaC b_) (lo+x-1)) ?go ?out
  ⟨0,rfl,hB,hd,(by lia),λi a1 a2=>by congr 1;lia⟩
 case out=>
  rintro c b_ ⟨q,rfl,b1,b2,b3,b4⟩;have e:max n m=m:=(by lia)
  rw[e] at b2 b3 b4 ⊢;exact h m q b_ b1 nm (ZP _) b2 b3 b4
 case go=>
  rintro x c b_ h1 h2 ⟨q,rfl,b1,b2,b3,b4⟩;have hz:lo+x<=(aaC b_).size:=by rw[b1.size];lia
  unfold NU;dsimp only;refine aaK (u6 C kd hD b1 (by lia) (by lia) ?_);dsimp only;cases e:O.blt (kx key (aaC b_) (lo+x)) (kx key (aaC b_) (lo+x-1)) with
  |true=>
   rw[hV rfl];have nx:∀l:Array acS,(∀k,kx key l (lo+k)=kx key (aaC b_) (lo+k))->QY key lo l (x+1):=by
    intro l hl i j zp hj;rw[hl,hl];by_cases c1:j<x
    ·exact b2 i j zp c1
    ·have:j=x:=(by lia)
     subst this;by_cases c2:i=j
     ·subst c2;exact abt _
     ·have:=b2 i (j-1) (by lia) (by lia);rw[show lo+(j-1)=lo+j-1 by lia] at this;exact acq (ady e) this
   by_cases c:q>0
   ·rw[hV c];refine aaK (yy ?_);have e3:lo+x-(q+1)=lo+(x-(q+1)):=(by lia)
    rw[e3];refine abo ⟨0,rfl,b1.mir (by lia),nx _ (i7 hz b4),(by lia),λi a1 a2=>?_⟩;congr 1;lia
   ·rw[hU c];exact abo ⟨0,rfl,b1,nx _ (λ_=>rfl),(by lia),λi a1 a2=>by congr 1;lia⟩
  |false=>
   rw[hU ZE];refine aaK (u6 C kd hD b1 (by lia) (by lia) ?_);dsimp only;cases e2:O.blt (kx key (aaC b_) (lo+x-1)) (kx key (aaC b_) (lo+x)) with
   |true=>
    rw[hV rfl];exact abo (h x q b_ b1 h1 (by lia) b2 b3 b4)
   |false=>
    rw[hU ZE];have eq:kx key (aaC b_) (lo+x)=kx key (aaC b_) (lo+x-1):=KeyOrd.kle_antisymm e2 e;refine abo ⟨q+1,rfl,b1,λi j zp hj=>?_,(by lia),λi a1 a2=>?_⟩
    ·by_cases c1:j<x
     ·exact b2 i j zp c1
     ·have:j=x:=(by lia)
      subst this;by_cases c2:i=j
      ·subst c2;exact abt _
      ·rw[eq];have:=b2 i (j-1) (by lia) (by lia);rw[show lo+(j-1)=lo+j-1 by lia] at this;exact this
    ·rw[show lo+(x+1)-1=lo+x by lia];by_cases c1:i=x
     ·subst c1;rfl
     ·rw[eq];exact b4 i (by lia) (by lia)
theorem Ax (C:GH M A E s O key knd D){st:aa6}{Q:Option Nat->aa6->Prop}(kd:acx st0=knd)(hD:∀p∈a0.toList,D p)(hm:lo+m<=a0.size)(nm:n+1<=m)(hB:SB lo a0 st0 st)(hd:QY key lo (aaC st) (n+1))(h:∀r b_,SB lo a0 st0 b_->1<=r->r<=m->GI key lo (aaC b_) r->Q (some r) b_):wpS M A E s (EA lo n m) Q st:=by
 unfold EA;refine aaK (wpS_lift (acJ ⟨rfl,?_⟩));refine aaK (JC C kd hD hm (by lia) nm hB hd λr q b_ b1 r1 r2 b2 b3 b4=>?_);dsimp only;have hz:lo+r<=(aaC b_).size:=by rw[b1.size];lia
 by_cases c:q>0
 ·rw[hV c];refine aaK (yy ?_);have e3:lo+r-(q+1)=lo+(r-(q+1)):=(by lia)
  rw[e3];refine Aw C kd hD hm (by lia) r2 (b1.mir (by lia)) (λi j zp hj=>?_) h;have e1:=i7 (key:=key) hz b4 i;have e2:=i7 (key:=key) hz b4 j;rw[e1,e2];exact b2 i j zp hj
 ·rw[hU c];exact Aw C kd hD hm (by lia) r2 b1 b2 h
theorem Ay (C:GH M A E s O key knd D){st:aa6}{Q:Option Nat->aa6->Prop}(kd:acx st0=knd)(hD:∀p∈a0.toList,D p)(hm:lo+m<=a0.size)(m1:1<=m)(hB:SB lo a0 st0 st)(h:∀r b_,SB lo a0 st0 b_->1<=r->r<=m->GI key lo (aaC b_) r->Q (some r) b_):wpS M A E s (countRun' lo m) Q st:=by
 rw[As];refine aaK (Av C kd hD hm (ZP 1) m1 hB (λi j zp hj=>by rw[show i=j by lia];exact abt _) λn n1 n2 ha ho=>?_);dsimp only;by_cases c:n=m
 ·rw[hV (by simpa using c)];exact abo (h n st hB n1 n2 ha)
 ·rw[hU (by simpa using c)];have hl:=ho.resolve_left c;by_cases c2:n>1
  ·rw[hV c2];refine aaK (u6 C kd hD hB (by lia) (by lia) ?_);dsimp only;cases e:O.blt (kx key (aaC st) lo) (kx key (aaC st) (lo+n-1)) with
   |true=>
    rw[hV rfl];exact abo (h n st hB n1 n2 ha)
   |false=>
    rw[hU ZE];have hz:lo+n<=(aaC st).size:=by rw[hB.size];lia
    have al:∀k,0<=k->k<n->kx key (aaC st) (lo+k)=kx key (aaC st) (lo+n-1):=by
     intro k _ hk;have p1:=ha 0 k (by lia) hk;have p2:=ha k (n-1) (by lia) (by lia);rw[show lo+(n-1)=lo+n-1 by lia] at p2;exact KeyOrd.kle_antisymm p2 (acq (show O.kle _ (kx key (aaC st) lo) from e) p1)
    refine aaK (yy ?_);have Q4:=hB.mir (n:=0) (m:=n) (by lia);rw[aev] at Q4;refine Ax C kd hD hm (by lia) Q4 (λi j zp hj=>?_) h;have e1:=i7 (key:=key) (n:=0) hz al i;have e2:=i7 (key:=key) (n:=0) hz al j;rw[aev] at e1 e2;rw[e1,e2];by_cases c3:j<n
    ·rw[al i (by lia) (by lia),al j (by lia) c3];exact abt _
    ·have:j=n:=(by lia)
     subst this;by_cases c4:i=j
     ·subst c4;exact abt _
     ·rw[al i (by lia) (by lia)];exact ady hl
  ·rw[hU c2];have:n=1:=(by lia)
   subst this;refine Ax C kd hD hm (by lia) hB (λi j zp hj=>?_) h;by_cases c4:i=j
   ·subst c4;exact abt _
   ·have Yo:i=0:=(by lia)
    have Yp:j=1:=(by lia)
    subst Yo;subst Yp;exact ady hl
theorem CB (C:GH M A E s O key knd D){st:aa6}{ok:Nat}{Q:Bool->aa6->Prop}(kd:acx st0=knd)(hD:∀p∈a0.toList,D p)(hn:lo+n<=a0.size)(hok:ok<=n)(hB:SB lo a0 st0 st)(ha:GI key lo (aaC st) ok)(h:∀b_,SB lo a0 st0 b_->GI key lo (aaC b_) n->Q true b_):wpS M A E s (binarySort' lo n ok) Q st:=by
 rw[binarySort'_eq];refine aaK (wpS_mono (adG (I:=λk c b_=>c=(none,())/\SB lo a0 st0 b_/\GI key lo (aaC b_) (min k n))
  (Q:=λc b_=>c=(none,())/\SB lo a0 st0 b_/\GI key lo (aaC b_) n) ?go ?out ?at0) ?end_)
 case end_=>
  rintro c b_ ⟨rfl,b1,b2⟩;exact abo (h b_ b1 b2)
 case at0=>
  refine⟨rfl,hB,λi j zp hj=>?_⟩;by_cases c:ok=0
  ·rw[show i=j by lia];exact abt _
  ·exact ha i j zp (by lia)
 case out=>
  rintro c b_ ⟨e,b1,b2⟩;have e2:min (max (max ok 1) n) n=n:=(by lia)
  rw[e2] at b2;exact⟨e,b1,b2⟩
 case go=>
  rintro k c BC QP Xj ⟨rfl,b1,b2⟩;have e1:min k n=k:=(by lia)
  rw[e1] at b2;have hk:lo+k<a0.size:=(by lia)
  refine aaK (wpS_mono (adG (I:=λx c oH=>oH=BC/\∃l r,c=(none,l,r)/\l<=r/\r<=k/\r-l<=k-x/\
    (∀i,i<l->O.kle (kx key (aaC BC) (lo+i)) (kx key (aaC BC) (lo+k)))/\∀i,r<=i->i<k->O.klt (kx key (aaC BC) (lo+k)) (kx key (aaC BC) (lo+i)))
   (Q:=λc oH=>oH=BC/\∃l,c=(none,l,l)/\l<=k/\(∀i,i<l->O.kle (kx key (aaC BC) (lo+i)) (kx key (aaC BC) (lo+k)))/\∀i,l<=i->i<k->O.klt (kx key (aaC BC) (lo+k)) (kx key (aaC BC) (lo+i))) ?go2 ?out2 ?OE) ?end2)
  case OE=>exact⟨rfl,0,k,rfl,(by lia),(by lia),(by lia),λi hi=>(by lia),λi a1 a2=>(by lia)⟩
  case out2=>
   rintro c oH ⟨rfl,l,r,rfl,q1,q2,q3,q4,q5⟩;have:l=r:=(by lia)
   subst this;exact⟨rfl,l,rfl,q2,q4,q5⟩
  case go2=>
   rintro x c oH _ hx ⟨rfl,l,r,rfl,q1,q2,q3,q4,q5⟩;dsimp only;by_cases c:l≥r
   ·rw[hV c];have:l=r:=(by lia)
    subst this;exact abo ⟨rfl,l,rfl,q2,q4,q5⟩
   ·rw[hU c];refine aaK (u6 C kd hD b1 hk (by lia) ?_);cases e:O.blt (kx key (aaC oH) (lo+k)) (kx key (aaC oH) (lo+(l+r) / 2)) with
    |true=>
     simp only[if_true];exact abo ⟨rfl,l,(l+r) / 2,rfl,(by lia),(by lia),(by lia),q4,λi a1 a2=>KeyOrd.klt_of_klt_of_kle e (b2 _ _ a1 a2)⟩
    |false=>
     simp only[Z9,if_false];exact abo ⟨rfl,(l+r) / 2+1,r,rfl,(by lia),(by lia),(by lia),λi a1=>acq (b2 i ((l+r) / 2) (by lia) (by lia)) (show O.kle _ _ from e),q5⟩
  case end2=>
   rintro c oH ⟨rfl,l,rfl,q2,q4,q5⟩;dsimp only;rw[moveDown'_eq];have e2:lo+k-(lo+l)=k-l:=(by lia)
   refine aaK (wpS_modify (abo ⟨rfl,?_,?_⟩))
   ·rw[e2];exact b1.bub hk (by lia)
   ·rw[show min (k+1) n=k+1 by lia];have hz:lo+k<(aaC oH).size:=by rw[b1.size];exact hk
    intro i j zp hj;show O.kle (kx key (bubble (aaC oH) (lo+k) (lo+k-(lo+l))) (lo+i)) (kx key (bubble (aaC oH) (lo+k) (lo+k-(lo+l))) (lo+j));rw[e2,JB hz (by lia),JB hz (by lia),show k-(k-l)=l by lia]
    repeat' split
    all_goals first
     | (exfalso;lia)
     |exact abt _
     |exact q4 _ (by lia)
     |exact ady (q5 _ (by lia) (by lia))
     |exact b2 _ _ (by lia) (by lia)
end
end Hc.Ts
namespace Hc.Ts
noncomputable def yz (lo n:Nat):StateT aa6 Sem (ForInStep (Option Unit×Nat)):=do
 modify λst=>setPending st ((ab8 st).push (lo,n,0))
 pure (.yield (none,lo+n))
noncomputable def XB (pw:Nat)(_:Nat)(_:Option Unit×Unit):StateT aa6 Sem (ForInStep (Option Unit×Unit)):=do
 let st ←get
 let some (_,_,old):=(if (ab8 st).size>1 then (ab8 st)[(ab8 st).size-2]? else none)|pure (.done (none,()))
 if old<=pw then pure (.done (none,())) else do
  let r ←mergeAt' ((ab8 st).size-2)
  if (!r)=true then pure (.done (some (),())) else pure (.yield (none,()))
noncomputable def Vr (pw:Nat)(st:aa6):aa6:=setPending st ((ab8 st).modify ((ab8 st).size-1) λx=>match x with|(p,n,_)=>(p,n,pw))
noncomputable def Sv (size lo n pw:Nat):StateT aa6 Sem (ForInStep (Option Unit×Nat)):=do
 let c ←forIn [0:size] ((none,()):Option Unit×Unit) (XB pw)
 match c.1 with
 |some r=>pure (.done (some r,lo))
 |none=>do
  modify (Vr pw)
  yz lo n
noncomputable def Ut (size lo n:Nat):StateT aa6 Sem (ForInStep (Option Unit×Nat)):=do
 let st ←get
 let some (p1,n1,_):=(ab8 st).back? | yz lo n
 Sv size lo n (power' size (2*p1+n1) (2*p1+n1+n1+n) size)
noncomputable def WQ (size Di:Nat)(_:Nat)(c:Option Unit×Nat):StateT aa6 Sem (ForInStep (Option Unit×Nat)):=
 if c.2≥size then pure (.done (none,c.2)) else do
  let some n ←countRun' c.2 (size-c.2)|pure (.done (some (),c.2))
  if n<Di then do
   liftM (rule "list.sort.binary-insertion")
   let r ←binarySort' c.2 (min (size-c.2) Di) n
   if (!r)=true then pure (.done (some (),c.2)) else Ut size c.2 (min (size-c.2) Di)
  else Ut size c.2 n
noncomputable def XC (p:Array (Nat×Nat×Nat)):Nat:=
 if Option.any (λx=>decide (x<(p[p.size-2+1]?).elim 0 λx=>x.2.1)) (if p.size-2>0 then Option.map (λx=>x.2.1) p[p.size-2-1]? else none)=true then p.size-2-1 else p.size-2
noncomputable def WR (_:Nat)(_:Option Unit×Unit):StateT aa6 Sem (ForInStep (Option Unit×Unit)):=do
 let st ←get
 if (ab8 st).size<=1 then pure (.done (none,())) else do
  let r ←mergeAt' (XC (ab8 st))
  if (!r)=true then pure (.done (some (),())) else pure (.yield (none,()))
theorem yA:sortRuns'=(do
  let st ←get
  let c ←forIn [0:(aaC st).size] ((none,0):Option Unit×Nat) (WQ (aaC st).size (minRun' (aaC st).size (aaC st).size 0))
  match c.1 with
  |some r=>pure r
  |none=>do
   let d ←forIn [0:(aaC st).size] ((none,()):Option Unit×Unit) WR
   match d.1 with
   |some r=>pure r
   |none=>pure ()):=by kernel_rfl
section
variable {A:aar}{O:aeS}{key:acS->O.α}{knd:SortKind}{D:acS->Prop}{a0:Array acS}
theorem LP {l:Array acS}(h:GI key 0 l l.size):GG key l.toList:=by
 refine aez.mpr λi j hi hj zp=>?_;have at_:∀k,(hk:k<l.toList.length)->kx key l (0+k)=key l.toList[k]:=λk hk=>by
  unfold kx;rw[acD,←Z4,Zw hk];rfl
 have:=h i j (by lia) (by rwa [Z5] at hj)
 rwa [at_ i hi,at_ j hj] at this
def Sz (key:acS->O.α)(a0:Array acS)(st:aa6):Prop:=failedOf st=none/\(aaC st).toList.Perm a0.toList/\GG key (aaC st).toList/\(ab8 st).size<=1
theorem Az (C:GH M A E s O key knd D)(hD:∀p∈a0.toList,D p){st:aa6}(hk:acx st=knd)(hf:failedOf st=none)(ha:aaC st=a0)(hp:ab8 st=(List.toArray []))(hz:a0.size<64)(h1:1<=a0.size){Q:Unit->aa6->Prop}
  (q:∀b_,failedOf b_=none->(aaC b_).toList.Perm a0.toList->GG key (aaC b_).toList->Q () b_):wpS M A E s sortRuns' Q st:=by
 have Yq:minRun' a0.size a0.size 0=a0.size:=by
  obtain⟨f,hf⟩:∃f,a0.size=f+1:=⟨a0.size-1,(by lia)⟩;have:minRun' (f+1) a0.size 0=a0.size:=by rw[minRun'_succ,hV hz];rfl
  rw[←hf] at this;exact this
 rw[yA];refine aaK (wpS_get ?_);rw[ha,Yq];have push:∀b_,SB 0 a0 st b_->GI key 0 (aaC b_) a0.size->∀{Q:ForInStep (Option Unit×Nat)->aa6->Prop},(∀oH,Sz key a0 oH->Q (.yield (none,0+a0.size)) oH)->wpS M A E s (Ut a0.size 0 a0.size) Q b_:=by
  intro b_ b T4 Q h;have pe:ab8 b_=(List.toArray []):=by rw[b.rest];exact hp
  unfold Ut;refine aaK (wpS_get ?_);rw[pe];show wpS M A E s (yz 0 a0.size) Q b_;unfold yz;refine aaK (wpS_modify (abo (h _ ⟨?_,?_,?_,?_⟩)))
  ·rw[b.rest];exact hf
  ·exact aeg.mp b.perm
  ·rw[←b.size] at T4;exact LP T4
  ·show ((ab8 b_).push _).size<=1;rw[pe];exact ZP 1
 have Xl:∀p∈a0.toList,D p:=hD;refine aaK (wpS_mono (adG (I:=λx c b_=>c.1=none/\((x=0/\c.2=0/\b_=st)\/(c.2=a0.size/\Sz key a0 b_))) (Q:=λc b_=>c.1=none/\Sz key a0 b_) ?go ?out ⟨rfl,.inl ⟨rfl,rfl,rfl⟩⟩) ?post)
 case out=>
  rintro⟨c1,lo⟩ b_ ⟨e,h⟩;rcases h with⟨x,_⟩|⟨_,h⟩
  ·lia
  ·exact⟨e,h⟩
 case go=>
  rintro x ⟨c1,lo⟩ b_ _ hx ⟨e,h⟩;dsimp only at e h;unfold WQ;dsimp only;rcases h with⟨rfl,rfl,rfl⟩|⟨rfl,h⟩
  ·rw[hU (by lia)];have b0:SB 0 a0 b_ b_:=⟨by rw[ha],λ_ _=>by rw[ha],rfl⟩;refine aaK (Ay C hk Xl (by lia) (by lia) b0 λn oH b1 n1 n2 T4=>?_);dsimp only;rw[Nat.sub_zero,aes] at *;by_cases c3:n<a0.size
   ·rw[hV c3];refine aaK (wpS_lift (acJ ⟨rfl,?_⟩));refine aaK (CB C hk Xl (by lia) (by lia) b1 T4 λQU b2 Wj=>?_);rw[hU (by decide)];exact push QU b2 Wj λYr o=>⟨rfl,.inr ⟨acD _,o⟩⟩
   ·rw[hU c3];obtain rfl:n=a0.size:=(by lia)
    exact push oH b1 T4 λYr o=>⟨rfl,.inr ⟨acD _,o⟩⟩
  ·rw[hV (ZP _)];exact abo ⟨rfl,h⟩
 case post=>
  rintro⟨c1,lo⟩ b_ ⟨e,h⟩;dsimp only at e ⊢;subst e;dsimp only;refine aaK (wpS_mono (adG (I:=λx c b_=>c=(none,())/\Sz key a0 b_) (Q:=λc b_=>c=(none,())/\Sz key a0 b_) ?_ ?_ ⟨rfl,h⟩) ?_)
  ·rintro x c oH _ hx ⟨rfl,h2⟩;unfold WR;refine aaK (wpS_get ?_);rw[hV h2.2.2.2];exact abo ⟨rfl,h2⟩
  ·rintro c oH ⟨rfl,h2⟩;exact⟨rfl,h2⟩
  ·rintro c oH ⟨rfl,h2⟩;exact abo (q oH h2.1 h2.2.1 h2.2.2.1)
end
end Hc.Ts
namespace Hc.Ts
section
variable {A:aar}{O:aeS}{key:acS->O.α}{knd:SortKind}{D:acS->Prop}
theorem xC {vs:List ZF}{l:List acS}(h:l.Perm (vs.zip vs)):(l.map (·.2)).Perm vs/\∀p∈l,p=(p.2,p.2):=by
 have e:(vs.zip vs).map (·.2)=vs:=by
  induction vs with
  |nil=>rfl
  |cons v r ih=>rw[ac7,ZR,List.map_snd_zip (by simp)]
 refine⟨by have:=h.map (·.2);rwa [e] at this,λp hp=>?_⟩;have hp:=h.mem_iff.mp hp;clear h e
 induction vs with
 |nil=>cases hp
 |cons v r ih=>
  rw[ac7,ZK] at hp;rcases hp with hp|hp
  ·subst hp;rfl
  ·exact ih hp
theorem JD {vs:List ZF}{P:Fin->ZT->Prop}(ho:s.heap.get? a=some (aet "list" vs.toArray n))(hz:vs.length<64)(hk:2<=vs.length->∀(h6:abT) (Q:SortKind->ZT->Prop),(∀b o,b≠a->s.heap.get? b=some o->h6.get? b=some o)->Q knd {s with heap:=h6}->Z1 (Z8 prog w) A (keyKind' vs.toArray) Q E {s with heap:=h6})(hC:2<=vs.length->∀h6:abT,(∀b o,b≠a->s.heap.get? b=some o->h6.get? b=some o)->GH (Z8 prog w) A E {s with heap:=h6} O key knd D)(hD:∀v∈vs,D (v,v))(h:∀out:List ZF,out.Perm vs->out.Pairwise (λx y=>O.kle (key (x,x)) (key (y,y)))->P (.done (.ret .none)) {s with heap:=sortedHeap s.heap a vs out.toArray}) :
  Z1 (Z8 prog w) A (Builtin.«list.sort» ⟨[.ref a],[]⟩) P E s:=by
 have BF:vs.length<=ZH:=by rw[abw];lia
 have la:a<s.heap.objs.size:=ZU ho;rw[list_sort_plain];refine Zv (listItems_at ho rfl (Zv (listUpdate_at ho rfl ?_ (hsz:=by rw[ZI];exact BF))));obtain⟨e1,o1⟩:∃e1,(s.heap.update a (acK λ_=>(List.toArray []))).get? a=some (aet "list" (List.toArray []) e1):=⟨_,get?_update_seq ho (λ_=>(List.toArray []))⟩;refine Zv (seqEpoch_at o1 rfl (Zv (wpAny_newTuple (Zv (wpAny_newList (aaW ?_))) (by simpa using BF))));have kp:∀b o,b≠a->s.heap.get? b=some o->(((s.heap.update a (acK λ_=>(List.toArray []))).push (aet "tuple" vs.toArray 0)).push (aet "list" (List.toArray []) 0)).get? b=some o:=λb o hb e=>
  Zx _ (Zx _ ((Heap.get?_update_ne _ _ _ _ hb).trans e))
 have o6:(((s.heap.update a (acK λ_=>(List.toArray []))).push (aet "tuple" vs.toArray 0)).push (aet "list" (List.toArray []) 0)).get? a=some (aet "list" (List.toArray []) e1):=Zx _ (Zx _ o1);change Z1 (Z8 prog w) A _ P E {s with heap:=((s.heap.update a (acK λ_=>(List.toArray []))).push (aet "tuple" vs.toArray 0)).push (aet "list" (List.toArray []) 0)};dsimp only;have fin:∀b_:aa6,failedOf b_=none->(aaC b_).toList.Perm (pairsOf vs).toList->GG key (aaC b_).toList->Z1 (Z8 prog w) A (do
   let touched:=(←seqEpoch a) != e1
   Builtin.List.listUpdate (.ref a) λ_=>(aaC b_).map (·.2)
   if let some e:=failedOf b_ then rule "list.sort.comparison-raised";throw e
   if touched then rule "list.sort.modified";raiseError "ValueError" "list modified during sort"
   ret .none) P E {s with heap:=((s.heap.update a (acK λ_=>(List.toArray []))).push (aet "tuple" vs.toArray 0)).push (aet "list" (List.toArray []) 0)}:=by
  intro b_ f1 f2 f3;rw[adC] at f2;obtain⟨m1,m2⟩:=xC f2;refine Zv (seqEpoch_at o6 rfl (Zv (listUpdate_at o6 rfl ?_ (hsz2:=by
   rw[Array.size_map,←Z5,f2.length_eq,adg,aes];lia))))
  rw[f1];simp only[bne_self_eq_false,Z9,if_false];refine Zy ?_;have e:(aaC b_).map (·.2)=((aaC b_).toList.map (·.2)).toArray:=by apply Array.ext';simp
  rw[e];refine h _ m1 (aaO.mpr (abv (λ{x y} hx hy r=>?_) f3));rw[←m2 x hx,←m2 y hy];exact r
 by_cases h2:vs.length<2
 ·rw[hV (by rw[ZI];exact h2),hV (by rw[ZI];exact h2)];refine Zv (Zy ?_);rw[StateT.run_pure];refine Zv (Zy ?_);refine fin (SortSt.mk' general' (vs.toArray.zip vs.toArray) (List.toArray []) 7 none) rfl (aa5 _) ?_;change GG key (pairsOf vs).toList;rw[adC]
  match vs,h2 with
  | [],_=>exact List.Pairwise.nil
  | [v],_=>exact aaA _ _
  |_::_::_,h2=>exact absurd h2 (by simp)
 ·rw[hU (by rw[ZI];exact h2),hU (by rw[ZI];exact h2)];refine Zv (hk (by lia) _ _ kp ?_);refine Zv (aaN (Az (hC (by lia) _ kp) (a0:=pairsOf vs) (λp hp=>?_) (st:=SortSt.mk' knd (vs.toArray.zip vs.toArray) (List.toArray []) 7 none) rfl rfl rfl rfl (by rw[←Z5,adC,adg];lia) (by rw[←Z5,adC,adg];lia)
   (Q:=λ_ b_=>failedOf b_=none/\(aaC b_).toList.Perm (pairsOf vs).toList/\GG key (aaC b_).toList) λb_ a1 a2 a3=>⟨a1,a2,a3⟩) ?_ λ_ _ e=>e)
  ·rw[adC] at hp;obtain⟨m1,m2⟩:=xC (aa5 (vs.zip vs));rw[m2 p hp];exact hD _ (m1.mem_iff.mp (abI hp))
  ·rintro⟨⟨⟩,b_⟩ s' ⟨rfl,f1,f2,f3⟩;exact fin b_ f1 f2 f3
end
end Hc.Ts
namespace Hc.Ts
open PySem.W
noncomputable def gz:List Int->List Int->Bool
 | [],[]=>false
 | [],_::_=>true
 |_::_,[]=>false
 |x::xs,y::ys=>if x=y then gz xs ys else decide (x<y)
theorem mO:∀a,gz a a=false
 | []=>rfl
 |x::xs=>by unfold gz;rw[hV rfl];exact mO xs
theorem oV:∀a b c,gz a b=true->gz b c=true->gz a c=true
 | [],[],_,h,_=>by cases h
 | [],_::_,[],_,h=>by cases h
 | [],_::_,_::_,_,_=>rfl
 |_::_,[],_,h,_=>by cases h
 |_::_,_::_,[],_,h=>by cases h
 |x::xs,y::ys,z::zs,h1,h2=>by
  unfold gz at h1 h2 ⊢;by_cases e1:x=y
  ·subst e1;rw[hV rfl] at h1;by_cases e2:x=z
   ·subst e2;rw[hV rfl] at h2 ⊢;exact oV xs ys zs h1 h2
   ·rw[hU e2] at h2 ⊢;exact h2
  ·rw[hU e1] at h1;have h1:=of_decide_eq_true h1;by_cases e2:y=z
   ·subst e2;rw[hU e1];exact hG h1
   ·rw[hU e2] at h2;have h2:=of_decide_eq_true h2;rw[hU (by lia)];exact hG (by lia)
theorem u7:∀a b c,gz a c=true->gz a b=true\/gz b c=true
 | [],[],_::_,_=>.inr rfl
 | [],_::_,_::_,_=>.inl rfl
 | [],_,[],h=>by cases h
 |_::_,_,[],h=>by cases h
 |_::_,[],_::_,_=>.inr rfl
 |x::xs,y::ys,z::zs,h=>by
  unfold gz at h ⊢;by_cases e:x=z
  ·subst e;rw[hV rfl] at h;by_cases e2:x=y
   ·subst e2;rw[hV rfl,hV rfl];exact u7 xs ys zs h
   ·rw[hU e2,hU (λq=>e2 q.symm),decide_eq_true_eq,decide_eq_true_eq];lia
  ·rw[hU e] at h;have h:=of_decide_eq_true h;by_cases e2:x=y
   ·subst e2;exact .inr (by rw[hU e];exact hG h)
   ·by_cases e3:y=z
    ·subst e3;exact .inl (by rw[hU e];exact hG h)
    ·rw[hU e2,hU e3,decide_eq_true_eq,decide_eq_true_eq];lia
theorem jT:∀a b,gz a b=false->gz b a=false->a=b
 | [],[],_,_=>rfl
 | [],_::_,h,_=>by cases h
 |_::_,[],_,h=>by cases h
 |x::xs,y::ys,h1,h2=>by
  unfold gz at h1 h2;by_cases e:x=y
  ·subst e;rw[hV rfl] at h1 h2;rw[jT xs ys h1 h2]
  ·rw[hU e] at h1;rw[hU (λq=>e q.symm)] at h2;have h1:=of_decide_eq_false h1;have h2:=of_decide_eq_false h2;lia
noncomputable def LQ:aeS:=⟨List Int,gz,mO,oV,u7,jT⟩
noncomputable def yB (h:abT)(v:ZF):List Int:=match v with
 | .ref a=>match h.get? a with
  |some o=>match o.data with
   | .seq its _=>its.toList.map numOf
   |_=>[]
  |none=>[]
 |_=>[]
def AA (h:abT)(v:ZF):Prop:=∃a its ns,v=.ref a/\h.IsTuple a its/\abA its.toList ns/\ns≠[]
theorem AB:∀{vs:List ZF} {ns:List Int},abA vs ns->vs.map numOf=ns
 |_,_,.nil=>rfl
 |_,_,.cons n t r=>by rw[ZR,AB r];rfl
theorem p8 {its:Array ZF}(t:h.IsTuple a its)(i:abA its.toList ns):yB h (.ref a)=ns:=by
 obtain⟨o,e,_,n,d⟩:=t;unfold yB;dsimp only;rw[e];dsimp only;rw[d];exact AB i
section
variable {A:aar}{b fin:Bool}{Q:Bool->ZT->Prop}
theorem AD:∀{xs ys:List ZF} {ns ms:List Int} {i:Nat},abA xs ns->abA ys ms->fin=decide (ns.length<ms.length)->Q (gz ns ms) s->KatLex prog w A b fin Q (xs.zip ys) i s
 |_,_,_,_,i,.nil,.nil,hf,h=>by subst hf;exact kat_nil h
 |_,_,_,_,i,.nil,.cons m t r,hf,h=>by subst hf;exact kat_nil (by rw[show decide (([]:List Int).length<(m::_).length)=true from hG (by simp)];exact h)
 |_,_,_,_,i,.cons n t r,.nil,hf,h=>by subst hf;exact kat_nil (by rw[show decide ((n::_).length<([]:List Int).length)=false from hJ (by simp)];exact h)
 |_,_,_,_,i,.cons n t r,.cons m u q,hf,h=>by
  refine kat_cons (wpAny_eqBool_int ?_);unfold gz at h;by_cases e:n=m
  ·subst e;rw[hV rfl] at h;rw[beq_self_eq_true];refine kat_yes (AD r q ?_ h);rw[hf];simp
  ·rw[hU e] at h;rw[show (n==m)=false from beq_eq_false_iff_ne.mpr e];refine kat_no ?_;cases hb:(b&&i==0) with
   |true=>exact oneLt_int h
   |false=>exact kat_one _ _ (lt_int h)
theorem LS {hp:abT}(keep:∀v,AA hp v->AA s.heap v/\yB s.heap v=yB hp v):GH (Z8 prog w) A E s LQ (λx=>yB hp x.1) (tuples' true) (λx=>AA hp x.1) where
 lt:=λx y st Q dx dy kd q=>by
  obtain⟨k1,k2⟩:=keep _ dx;obtain⟨k3,k4⟩:=keep _ dy;obtain⟨a,xs,ns,e1,t1,i1,_⟩:=k1;obtain⟨c,ys,ms,e2,t2,i2,_⟩:=k3;rw[←k2,←k4,e1,e2,p8 t1 i1,p8 t2 i2] at q;rw[lt'_eq];refine aaK (wpS_get ?_);rw[kd,e1,e2];obtain⟨o1,g1,_,n1,d1⟩:=t1;obtain⟨o2,g2,_,n2,d2⟩:=t2;refine aaK (wpS_lift (ach (kat_lt g1 d1 g2 d2 (AD i1 i2 ?_ ⟨rfl,?_⟩))))
  ·rw[←i1.length,←i2.length,Z5,Z5]
  ·exact abo q
end
end Hc.Ts
namespace Hc.Dw
open PySem.W PySem.Calls
section
variable {A:aar}{d r I:ZY}
def P5 (hh:A.handled=none)(MJ:d≠I):Walks prog w A I [I,d] [I] ds.size (λi v=>∃e,ds[i]? = some e/\v=e.key) (λi h=>h.IsKeyIter I d i ds.size ep/\qW h d ds ep) where
 sub:=λb hb=>by simp at hb;simp[hb]
 frame:=λ_ _ _ st hk=>⟨st.1.at λo e=>hk I (by simp) o e,st.2.at λo e=>hk d (by simp) o e⟩
 item:=λi s Q E hi st hQ=>Sr st.1 st.2 hi λh' t' sb=>hQ _ h' s.toks ⟨_,getElem?_pos ds i hi,rfl⟩ ⟨t',st.2.at λo e=>sb.extBut _ _ MJ e⟩ λb o hb e=>sb.extBut b o (λh=>hb (by simp[h])) e
 done:=λs Q E st hQ=>Ss hh st.1 st.2 (ZP _) λh' eb=>hQ h' s.toks λb o hb e=>eb b o (λh=>hb (by simp[h])) e
 self:=λ_ _ _ _ st hQ=>wpAny_pyIter_keyiter st.1 hQ
def SA (lo:(d==abu)=false):KdlSrc prog w "dict" d d ds.size (λi v=>∃e,ds[i]? = some e/\v=e.key) (λh=>qW h d ds ep) where
 type:=λ_ hm=>hm.ty
 there:=λ_ hm=>⟨hm.lt,hm.lt⟩
 keep:=λ_ _ hm hk=>hm.at λo e=>hk d (.inl rfl) o e
 notList:=by decide
 notTuple:=by decide
 hint:=λ_ _ _ _ hm hq=>kdl_hint_dict hm.ty hq
 iter:=λ_ s hh hm=>⟨_,_,(λ_ _ hq=>Sq lo hm hq),P5 hh (Z6 hm.lt),⟨⟨_,ZQ _ rfl,rfl,rfl⟩,hm.at λo e=>Zx _ e⟩⟩
theorem mP {P:Nat->ZF->Prop}{OK:abT->Prop}(K:KdlSrc prog w T r d n P OK)(hh:A.handled=none)(hok:OK s.heap)(hn:n<=ZH){Q:List ZF->ZT->Prop}(q:∀h' tk cy,(∀b o,s.heap.get? b=some o->h'.get? b=some o)->ItemsOf P cy n->Q cy.toList {s with heap:=h',toks:=tk}):Z1 (Z8 prog w) A (collect (.ref r)) Q E s:=by
 have lt:=K.there _ hok;unfold collect;refine Zv (wpAny_runValue (acG PySem.F.entry_proto_collect ?_));rw[abX PySem.F.plain_proto_collect _];change Z1 _ A.in1 (newList [] >>= λl=>again (.builtin "list.__iadd__" ⟨[l,.ref r],[]⟩)) _ _ s;refine Zv (aat (Zy ⟨plainId_quiet PySem.F.plain_list_iadd _,acG PySem.F.entry_list_iadd ?_⟩));rw[abX PySem.F.plain_list_iadd _];have hS:(s.heap.push {cls:=.type "list",data:=.seq ([]:List ZF).toArray}).get? s.heap.objs.size=some {cls:=.type "list",data:=.seq (List.toArray []) 0}:=ZQ _ rfl;change Z1 _ A.in1 (Builtin.List.listExtendWith (.ref s.heap.objs.size) (.ref r) (.ref s.heap.objs.size)) _ _ _;refine kdl_extend (A:=A) (R:=λx s'=>match x with
  | .ok (.ret v)=>Z1 (Z8 prog w) A (match v with
   | .ref a=>do match (←load a).data with
    | .seq xs _=>pure xs.toList
    |_=>unsupported "internal:collect"
   |_=>unsupported "internal:collect") Q E s'
  | .ok _=>False
  | .error e=>E e s') (s:={s with heap:=s.heap.push {cls:=.type "list",data:=.seq ([]:List ZF).toArray}}) K hh (K.keep _ _ hok λb _ o e=>Zx _ e) _ (acz lt.1) (acz lt.2) _ 0 hS (λh' tk cy c' k' Ox Km=>?_) hn
 change Z1 _ A (load s.heap.objs.size >>= _) _ _ _;refine Zv (wpAny_load Ox ?_);exact Zy (q h' tk cy (λb o e=>k' b o (Z6 (ZU e)) (Zx _ e)) Km)
end
end Hc.Dw
namespace Hc.Sy
open PySem.SetTable Hc.Sx
def QZ:Slot "set_iterator" "__next__" "set_iterator.__next__":=by
 refine .of (owner:="set_iterator") (n:="__next__") ?_ (by decide+kernel) (by decide+kernel) (by decide+kernel) ?_ ?_
 ·rw[typeLookup_type,builtinLookup_eq_fast];kernel_rfl
 ·first|exact .inl (by decide+kernel)|exact .inr (by decide+kernel)
 ·rw[isSubtype_type];kernel_rfl
def WS:entryFor table "set_iterator.__next__"=some Builtin.«set_iterator.__next__»:=entryFor_of_tree (by kernel_rfl)
def WT (a:ZF):argsOk "set_iterator.__next__" ⟨[a],[]⟩:=by unfold argsOk;kernel_rfl
def WU:Slot "set_iterator" "__iter__" "set_iterator.__iter__":=by
 refine .of (owner:="set_iterator") (n:="__iter__") ?_ (by decide+kernel) (by decide+kernel) (by decide+kernel) ?_ ?_
 ·rw[typeLookup_type,builtinLookup_eq_fast];kernel_rfl
 ·first|exact .inl (by decide+kernel)|exact .inr (by decide+kernel)
 ·rw[isSubtype_type];kernel_rfl
def XD:entryFor table "set_iterator.__iter__"=some Builtin.«dict_keyiterator.__iter__»:=entryFor_alias (id':="dict_keyiterator.__iter__") (by kernel_rfl) rfl (by decide+kernel) (by kernel_rfl)
def XF (a:ZF):argsOk "set_iterator.__iter__" ⟨[a],[]⟩:=by unfold argsOk;kernel_rfl
def XG:entryFor table "set.__iter__"=some Builtin.«frozenset.__iter__»:=entryFor_alias (id':="frozenset.__iter__") (by kernel_rfl) rfl (by decide+kernel) (by kernel_rfl)
def XH (a:ZF):argsOk "set.__iter__" ⟨[a],[]⟩:=by unfold argsOk;kernel_rfl
def n8 (w:acd)(h:abT)(a:ZY)(es:Array (Int×ZF))(ep:Nat)(t:aaY):Prop:=
 ∃o,h.get? a=some o/\o.ExactSet/\o.data=.set es ep t/\t.fits es.size=true/\t.plain=true/\(BH w=true\/t.led=true)/\R6 t.place/\t.place.size=es.size
theorem n8.at {es:Array (Int×ZF)}{t:aaY}(x:n8 w h a es ep t)(e:∀o,h.get? a=some o->h'.get? a=some o):n8 w h' a es ep t:=by
 obtain⟨o,q,r⟩:=x;exact⟨o,e o q,r⟩
theorem n8.ty {es:Array (Int×ZF)}{t:aaY}(x:n8 w s.heap a es ep t):s.TypeIs (.ref a) "set":=by
 obtain⟨o,e,c,_⟩:=x;exact⟨o,e,c.1⟩
theorem n8.lt {es:Array (Int×ZF)}{t:aaY}(x:n8 w h a es ep t):a<h.objs.size:=by
 obtain⟨o,e,_⟩:=x;exact ZU e
noncomputable def wx (w:acd)(a:ZY)(ep:Nat)(es:Array (Int×ZF)):Array (Int×ZF):=if BH w=true then aeR (w.params.setOrder a ep) es else es
noncomputable def fK (w:acd)(t:aaY):Nat->Nat
 |0=>0
 |i+1=>if BH w=true then 0 else t.place.getD i 0+1
noncomputable def P6 (w:acd)(a:ZY)(n ep:Nat)(t:aaY)(i:Nat):Array ZF:=(List.toArray [.int (fK w t i:Nat) 0,.int i 0,.ref a,.int n 0,.int ep 0])
def CC (w:acd)(h:abT)(it a:ZY)(n ep:Nat)(t:aaY)(i:Nat):Prop:=∃o,h.get? it=some o/\o.cls=.type "set_iterator"/\o.data=.fields (P6 w a n ep t i)
theorem CC.at {t:aaY}(x:CC w h it a n ep t i)(e:∀o,h.get? it=some o->h'.get? it=some o):CC w h' it a n ep t i:=by
 obtain⟨o,q,r⟩:=x;exact⟨o,e o q,r⟩
def fW {A:aar}{α:Type}{b:Bool}{x y:Sem α}{Q:α->ZT->Prop}(h:b=false)(q:Z1 M A y Q E s):Z1 M A (if b=true then x else y) Q E s:=by
 rw[h,hU ZE];exact q
section
variable {A:aar}{es:Array (Int×ZF)}{t:aaY}
theorem SD (x:n8 w s.heap a es ep t)(q:Q (.ref s.heap.objs.size) {s with heap:=s.heap.push {cls:=.type "set_iterator",data:=.fields (P6 w a es.size ep t 0)}}):Z1 (Z8 prog w) A (pyIter (.ref a)) Q E s:=by
 have ty:=x.ty;obtain⟨o,e1,e2,e3,e4,e5,e6,e7,e8⟩:=x;refine aeM ty PySem.F.slot_set_iter (aav PySem.F.slot_set_iter ty XG ?_ (XH _));unfold Builtin.«frozenset.__iter__» Builtin.Frozenset.slot0 slotArgs;simp only[List.isEmpty_nil,acf,Z9,↓reduceIte,bind_assoc,aaL,bne_self_eq_false];unfold Builtin.Frozenset.addrOf Builtin.Frozenset.sizeOf;refine Zv (Zy ?_)
 try dsimp only
 refine Zv (Zy ?_);refine Zv (Zv (ad_ e1 e3 e4 (Zy ?_)));unfold setDrawn setsByText;refine Zv (Zv (aaP e1 e3 e4 ?_));dsimp only;refine Zv (Zv (aby (Zy (Zy ?_))));have nd:(!(w.params.followText "set-order")&&(!t.plain&&decide (es.size>1)))=false:=by rw[e5];simp
 refine fW nd ?_;refine Zv (Zy ?_);unfold setEpoch;refine Zv (Zv (aaP e1 e3 e4 (Zy ?_)));refine Zv (aat (Zy ⟨_,rfl,"set_iterator",_,⟨_,ZQ _ rfl,rfl⟩,QZ.lookup,?_⟩));simpa [aei,P6,fK] using q
theorem yC {Q:Option (ZF×Nat)->ZT->Prop}(x:n8 w s.heap a es ep t)(hi:i<es.size){e:Int×ZF}(he:(wx w a ep es)[i]? = some e)(q:Q (some (e.2,fK w t (i+1))) s) :
  Z1 (Z8 prog w) A (setNext a (fK w t i) i ep) Q E s:=by
 obtain⟨o,e1,e2,e3,e4,e5,e6,e7,e8⟩:=x;unfold setNext;refine Zv (aaP e1 e3 e4 ?_);dsimp only;unfold setsByText;refine Zv (Zv (aby (Zy ?_)));unfold wx at he;by_cases b:BH w=true
 ·rw[hV b] at he;rw[hV (show (Z8 prog w).w.params.followText "set-order"=true from b),hU (by simp)];unfold setWalk setsByText;refine Zv (Zv (aaP e1 e3 e4 ?_));dsimp only;refine Zv (Zv (aby (Zy ?_)));rw[hV (show (Z8 prog w).w.params.followText "set-order"=true from b)];refine Zv (aby (Zy (Zy ?_)));have Ys:(aeR ((Z8 prog w).w.params.setOrder a ep) es)[i]? = some e:=he;rw[Ys];have z:fK w t i=0:=by
   cases i with
   |zero=>rfl
   |succ i=>show (if BH w=true then 0 else _)=0;rw[hV b]
  have z':fK w t (i+1)=0:=by show (if BH w=true then 0 else _)=0;rw[hV b]
  rw[z'] at q;rw[z];exact q
 ·rw[hU b] at he;rw[hU (show ¬(Z8 prog w).w.params.followText "set-order"=true from b)];have led:t.led=true:=e6.resolve_left b;have nd:(!t.plain&&decide (es.size>1))=false:=by rw[e5];rfl
  refine fW nd ?_;refine Zv (adu (a:=()) (by show (if (!t.led && !es.isEmpty)=true then _ else _)=_;rw[led];rfl) (Zy ?_));have hb:below t.place (fK w t i)=i:=by
   obtain⟨b1,b2,b3⟩:=pT (j:=fK w t i) e7;rcases adt (below t.place (fK w t i)) i with z|z|z
   ·exfalso;cases i with
    |zero=>lia
    |succ i=>
     have hs:fK w t (i+1)=t.place.getD i 0+1:=by show (if BH w=true then 0 else _)=_;rw[hU b]
     have g:t.place.getD i 0=t.place[i]'(by lia):=by simp[ads,show i<t.place.size from by lia]
     have:=b2 i (by lia) (by lia);rw[hs,g] at this;lia
   ·exact z
   ·exfalso;have:=b1 i (by lia) z;cases i with
    |zero=>exact absurd this (Nat.not_lt_zero _)
    |succ i=>
     have hs:fK w t (i+1)=t.place.getD i 0+1:=by show (if BH w=true then 0 else _)=_;rw[hU b]
     have g:t.place.getD i 0=t.place[i]'(by lia):=by simp[ads,show i<t.place.size from by lia]
     have r:=(show t.place[i]'(by lia)<t.place[i+1]'(by lia) from e7 i (i+1) (by lia) (by lia) (by lia));rw[hs,g] at this;lia
  rw[hb,he,getElem?_pos t.place i (by lia)];have hs:fK w t (i+1)=t.place.getD i 0+1:=by show (if BH w=true then 0 else _)=_;rw[hU b]
  have g:t.place.getD i 0=t.place[i]'(by lia):=by simp[ads,show i<t.place.size from by lia]
  rw[hs,g] at q;exact q
theorem SE {Q:Option ZF->ZT->Prop}(k:CC w s.heap it a es.size ep t i)(x:n8 w s.heap a es ep t)(ne:it≠a)(hi:i<es.size){e:Int×ZF}(he:(wx w a ep es)[i]? = some e)
  (q:∀h',CC w h' it a es.size ep t (i+1)->abp it s.heap h'->Q (some e.2) {s with heap:=h'}):Z1 (Z8 prog w) A (adO (.ref it)) Q E s:=by
 obtain⟨oi,i1,i2,i3⟩:=k;have ty:s.TypeIs (.ref it) "set_iterator":=⟨oi,i1,i2⟩;have x0:=x;obtain⟨o,e1,e2,e3,e4,e5,e6,e7,e8⟩:=x;unfold adO;refine Zv (ach (aaw (name:=ZL "__next__") ty QZ (aav QZ ty WS ?_ (WT _))));unfold Builtin.«set_iterator.__next__»;refine Zv (Zy ?_);refine Zv (aeC i1 i3 ?_);change Z1 _ _ (setEntries a >>= _) _ _ s;refine Zv (ad_ e1 e3 e4 ?_);rw[hU (by simp)];change Z1 _ _ (setNext a (fK w t i:Int).toNat (i:Int).toNat (ep:Int).toNat >>= _) _ _ s;rw[aau,aau,aau];refine Zv (yC x0 hi he ?_);dsimp only;change Z1 _ _ (setField (.ref it) 0 _ >>= _) _ _ s;refine Zv (acw i1 i3 (by simp[P6]) ?_);have Xm:=aa_ (Obj.mapFields (·.setIfInBounds 0 (aei (fK w t (i+1):Nat)))) i1 (acH (abh i3 _));have Wl:=abh i3 (·.setIfInBounds 0 (aei (fK w t (i+1):Nat)));change Z1 _ _ (setField (.ref it) 1 _ >>= _) _ _ _;refine Zv (acw Xm Wl (by simp[P6]) ?_);refine Zy ⟨_,rfl,Zy (q _ ⟨_,aa_ _ Xm (acH (abh Wl _)),(adw ..).trans ((adw ..).trans i2),?_⟩ ((aaJ ..).trans (aaJ ..)))⟩;rw[abh Wl];simp[P6,aei]
end
end Hc.Sy
namespace Hc.Sy
open PySem.SetTable Hc.Sx PySem.W
section
variable {A:aar}{es:Array (Int×ZF)}{t:aaY}
theorem EB {α:Type}(next:Nat->Nat):∀(n k:Nat) (left:List α) (out:Array α),left.length=n->(pickOrder.go next n k left out).toList.Perm (out.toList++left)
 |0,k,left,out,h=>by
  have:left=[]:=adM h;subst this;unfold pickOrder.go;rw[aad]
 |n+1,k,left,out,h=>by
  have hl:next k % left.length<left.length:=acN _ (by lia)
  unfold pickOrder.go;rw[Zw hl];dsimp only;refine (EB next n (k+1) _ _ (by rw[List.length_eraseIdx_of_lt hl];lia)).trans ?_;rw[Array.toList_push,aac];refine abq _ ?_;rw[List.eraseIdx_eq_take_drop_succ,List.singleton_append];refine List.perm_middle.symm.trans ?_;rw[←aa4 hl,adE]
def xD {α:Type}(next:Nat->Nat)(xs:Array α):(aeR next xs).toList.Perm xs.toList:=by
 have:=EB next xs.size 0 xs.toList (List.toArray []) (by simp)
 simpa [aeR] using this
theorem AE:(wx w a ep es).toList.Perm es.toList:=by
 unfold wx;split
 ·exact xD _ _
 ·exact aa5 _
def AF:(wx w a ep es).size=es.size:=by
 have:=(AE (w:=w) (a:=a) (ep:=ep) (es:=es)).length_eq;simpa using this
theorem yD {Q:Option (ZF×Nat)->ZT->Prop}(x:n8 w s.heap a es ep t)(q:Q none s):Z1 (Z8 prog w) A (setNext a (fK w t es.size) es.size ep) Q E s:=by
 obtain⟨o,e1,e2,e3,e4,e5,e6,e7,e8⟩:=x;unfold setNext;refine Zv (aaP e1 e3 e4 ?_);dsimp only;unfold setsByText;refine Zv (Zv (aby (Zy ?_)));by_cases b:BH w=true
 ·rw[hV (show (Z8 prog w).w.params.followText "set-order"=true from b),hU (by simp)];unfold setWalk setsByText;refine Zv (Zv (aaP e1 e3 e4 ?_));dsimp only;refine Zv (Zv (aby (Zy ?_)));rw[hV (show (Z8 prog w).w.params.followText "set-order"=true from b)];refine Zv (aby (Zy (Zy ?_)));have hz:(aeR ((Z8 prog w).w.params.setOrder a ep) es)[es.size]? = none:=by
   have:=(xD ((Z8 prog w).w.params.setOrder a ep) es).length_eq;rw[adk (by simpa using Nat.le_of_eq this)]
  rw[hz];exact q
 ·rw[hU (show ¬(Z8 prog w).w.params.followText "set-order"=true from b)];have led:t.led=true:=e6.resolve_left b;have nd:(!t.plain&&decide (es.size>1))=false:=by rw[e5];rfl
  refine fW nd ?_;refine Zv (adu (a:=()) (by show (if (!t.led && !es.isEmpty)=true then _ else _)=_;rw[led];rfl) (Zy ?_));have hb:es.size<=below t.place (fK w t es.size):=by
   obtain⟨b1,b2,b3⟩:=pT (j:=fK w t es.size) e7;rcases ac3 (below t.place (fK w t es.size)) es.size with z|z
   ·exfalso;obtain⟨m,hm⟩:∃m,es.size=m+1:=⟨es.size-1,(by lia)⟩;have hs:fK w t es.size=t.place.getD m 0+1:=by rw[hm];show (if BH w=true then 0 else _)=_;rw[hU b]
    have g:t.place.getD m 0=t.place[m]'(by lia):=by simp[ads,show m<t.place.size from by lia]
    have:=b2 m (by lia) (by lia);rw[hs,g] at this;lia
   ·exact z
  rw[adk hb];exact q
theorem SF {Q:Option ZF->ZT->Prop}(hh:A.handled=none)(k:CC w s.heap it a es.size ep t es.size)(x:n8 w s.heap a es ep t)
  (q:∀h',Heap.ExtBut it s.heap h'->Q none {s with heap:=h'}):Z1 (Z8 prog w) A (adO (.ref it)) Q E s:=by
 obtain⟨oi,i1,i2,i3⟩:=k;have ty:s.TypeIs (.ref it) "set_iterator":=⟨oi,i1,i2⟩;have x0:=x;obtain⟨o,e1,e2,e3,e4,e5,e6,e7,e8⟩:=x;unfold adO;refine Zv (ach (aaw (name:=ZL "__next__") ty QZ (aav QZ ty WS ?_ (WT _))));unfold Builtin.«set_iterator.__next__»;refine Zv (Zy ?_);refine Zv (aeC i1 i3 ?_);change Z1 _ _ (setEntries a >>= _) _ _ s;refine Zv (ad_ e1 e3 e4 ?_);rw[hU (by simp)];change Z1 _ _ (setNext a (fK w t es.size:Int).toNat (es.size:Int).toNat (ep:Int).toNat >>= _) _ _ s;rw[aau,aau,aau];refine Zv (yD x0 ?_);dsimp only;change Z1 _ _ (setField (.ref it) 2 .none >>= _) _ _ s;refine Zv (acw i1 i3 (by simp[P6]) ?_);change Z1 _ _ (newExc (.type "StopIteration") [] >>= _) _ _ _;refine Zv ?_;simp only[newExc,newTuple];refine Zv (aat (hd:=by size_fits) ?_);refine Zv (m:=acV _ _) (adu (a:=Value.none) (by first|rfl|(simp only[acV];rfl)) (aat (hd:=by size_fits) ?_));simp only[raiseNew];refine Zv (wpAny_handled ?_);rw[show A.in1.handled=none from hh];refine Zv (Zy (wpAny_throw ?_));refine Zv (ac0 (b:=true) (T:="StopIteration") ⟨_,ZQ _ rfl,rfl⟩ isSubtype_stop ?_);exact Zy (q _ (((aaJ ..).extBut.push _).push _))
theorem P7 (hh:A.handled=none)(MJ:a≠it):Walks prog w A it [it,a] [it] es.size (λi v=>∃e,(wx w a ep es)[i]? = some e/\v=e.2) (λi h=>CC w h it a es.size ep t i/\n8 w h a es ep t) where
 sub:=λb hb=>by simp at hb;simp[hb]
 frame:=λ_ _ _ st hk=>⟨st.1.at λo e=>hk it (by simp) o e,st.2.at λo e=>hk a (by simp) o e⟩
 item:=λi s Q E hi st hQ=>by
  have zu:i<(wx w a ep es).size:=by rw[AF];exact hi
  exact SE st.1 st.2 (Ne.symm MJ) hi (getElem?_pos _ i zu) λh' t' sb=>hQ _ h' s.toks ⟨_,getElem?_pos _ i zu,rfl⟩ ⟨t',st.2.at λo e=>sb.extBut _ _ MJ e⟩ λb o hb e=>sb.extBut b o (λh=>hb (by simp[h])) e
 done:=λs Q E st hQ=>SF hh st.1 st.2 λh' eb=>hQ h' s.toks λb o hb e=>eb b o (λh=>hb (by simp[h])) e
 self:=λi s Q E st hQ=>by
  obtain⟨oi,i1,i2,i3⟩:=st.1;have ty:s.TypeIs (.ref it) "set_iterator":=⟨oi,i1,i2⟩;refine aeM ty WU (aav WU ty XD ?_ (XF _));change Z1 _ _ (ret (.ref it)) _ _ s;exact Zy ⟨_,rfl,"set_iterator",_,ty,QZ.lookup,hQ⟩
theorem SG {Q:Bool->ZT->Prop}(hT:s.TypeIs (.ref a) "set")(h:Q false s):Z1 (Z8 prog w) A (aea (.ref a)) Q E s:=by
 unfold aea;refine Zv (acC hT PySem.F.slot_set_len.lookup ?_);generalize hid:("set.__len__":String)=id0
 wp_delta
 rw[show splitId id0=some ("set","__len__") from by subst hid;decide+kernel];subst hid;refine Zv (ac0 (T:="set") (b:=true) hT (by rw[isSubtype_type];kernel_rfl) ?_);refine wpAny_ite_split (λxU=>absurd xU (by decide)) (λ_=>?_);refine wpAny_ite_split (λ_=>?_) (λxU=>absurd (by decide+kernel) xU);refine Zv (aeq hT ?_);exact Zy h
def Vs:KdlSrc prog w "set" a a es.size (λi v=>∃e,(wx w a ep es)[i]? = some e/\v=e.2) (λh=>n8 w h a es ep t) where
 type:=λ_ hm=>hm.ty
 there:=λ_ hm=>⟨hm.lt,hm.lt⟩
 keep:=λ_ _ hm hk=>hm.at λo e=>hk a (.inl rfl) o e
 notList:=by decide
 notTuple:=by decide
 hint:=λ_ _ _ _ hm hq=>SG hm.ty hq
 iter:=λ_ s hh hm=>⟨_,_,(λ_ _ hq=>SD hm hq),P7 hh (Z6 hm.lt),⟨⟨_,ZQ _ rfl,rfl,rfl⟩,hm.at λo e=>Zx _ e⟩⟩
end
end Hc.Sy
namespace Hc.Sy
open PySem.SetTable Hc.Sx PySem.W
noncomputable abbrev tI (prog:abM)(w:acd):adb prog w (List Int):=tupleKind (aew prog w)
section
variable {A:aar}
theorem u9 {α β:Type}(f:α->β->Sem (ForInStep β))(b:β)(xs:Array α)(h:∀x∈xs.toList,f x b=pure (.yield b)):forIn xs b f=pure b:=by
 rw[←aeu];generalize xs.toList=l at h
 induction l with
 |nil=>rfl
 |cons x l ih=>
  rw[ada,h x ZA,pure_bind];exact ih λy hy=>h y (ZC _ hy)
def NV {its:Array ZF}{o:Obj}{Q:Option (Array ZF)->ZT->Prop}(e1:s.heap.get? a=some o)(e3:o.data=.seq its n)(q:Q (some its) s):Z1 (Z8 prog w) A (seqItems? (.ref a)) Q E s:=by
 unfold seqItems?;refine Zv (wpAny_load e1 ?_);rw[e3];exact Zy q
theorem u_ {ks:List Int}{vs:List ZF}(h:ItemsAre (aew prog w) ks vs):∀v∈vs,∃n t,v=.int n t:=by
 induction h with
 |nil=>intro v hv;cases hv
 | @cons k v' ks vs h1 _ ih=>
  intro v hv;rcases ZK.mp hv with rfl|hv
  ·obtain⟨t,rfl⟩:=Value.isInt_shape h1;exact⟨k,t,rfl⟩
  ·exact ih v hv
theorem XI:rQ (tI prog w) where
 cls:=λ{A E s k a Q} hk q=>by
  obtain⟨o,its,n,e1,e2,e3,e4⟩:=hk;have ty:s.TypeIs (.ref a) "tuple":=⟨o,e1,e2⟩;unfold ofAClassStatement;refine Zv (aeq ty ?_);change Z1 _ _ (pure true >>= _) _ _ s;refine Zv (Zy ?_);change Z1 _ _ (seqItems? (.ref a) >>= _) _ _ s;refine Zv (NV e1 e3 ?_);dsimp only;rw[u9]
  ·exact Zv (Zy (Zy q))
  ·intro x hx;obtain⟨n,t,rfl⟩:=u_ e4 x hx;rfl
 byv:=λ{A E s k a Q} hk q=>by
  obtain⟨o,its,n,e1,e2,e3,e4⟩:=hk;have ty:s.TypeIs (.ref a) "tuple":=⟨o,e1,e2⟩;unfold hashByValue;refine Zv (acC ty PySem.F.slot_tuple_hash.lookup ?_);change Z1 _ _ (seqItems? (.ref a) >>= _) _ _ s;refine Zv (NV e1 e3 ?_);dsimp only[Option.getD];rw[u9]
  ·exact Zv (Zy (Zy q))
  ·intro x hx;obtain⟨n,t,rfl⟩:=u_ e4 x hx;rfl
 kept:=λ{h h' k a d o es ep t} hk ho hd hs=>by
  obtain⟨o1,its,n,e1,e2,e3,e4⟩:=hk;have ne:a≠d:=λz=>by
   subst z;rw[e1] at ho;cases ho;rw[e3] at hd;cases hd
  exact⟨o1,its,n,hs.extBut _ _ ne e1,e2,e3,e4⟩
end
end Hc.Sy
namespace L2
open Hc.Dw Hc.Ts
noncomputable def SH:V->Int
 | .int i=>i
 |_=>0
noncomputable def cO (H:Hp)(b:ZY):List Int:=match H b with
 |some (.tup xs)=>xs.map SH
 |_=>[]
theorem AG (ns:List Int):(ns.map V.int).map SH=ns:=by
 induction ns with
 |nil=>rfl
 |cons n r ih=>rw[ZR,ZR,ih];rfl
def FY (K:ZD)(H:Hp)(p:ZY)(bs:List ZY):Prop:=gD K H p (bs.map V.ref)\/jj K H p (bs.map V.ref)\/∃ep es,H p=some (DN p ep es)/\es.map (·.2.1)=bs
theorem iI:∀{bs:List ZY} {its:List ZF},bw (bs.map V.ref) its->its=bs.map Value.ref
 | [],_,.nil=>rfl
 |b::bs,_,.cons r t=>by rw[ZR,iI t];cases r;rfl
theorem xE:∀(bs:List ZY),bw (bs.map V.ref) (bs.map Value.ref)
 | []=>.nil
 |b::bs=>.cons rfl (xE bs)
theorem xF {bs:List ZY}{out:List ZF}(h:out.Perm (bs.map Value.ref)):∃jE:List ZY,out=jE.map Value.ref/\jE.Perm bs:=by
 let g:ZF->ZY:=λv=>match v with
  | .ref a=>a
  |_=>0
 refine⟨out.map g,?_,?_⟩
 ·rw[aaZ]
  conv=>lhs;rw[←List.map_id out]
  apply abm;intro v hv;obtain⟨b,_,rfl⟩:=aal.mp (h.mem_iff.mp hv);rfl
 ·have:=h.map g;rw[aaZ] at this;have e:bs.map (g∘Value.ref)=bs:=by
   conv=>rhs;rw[←List.map_id bs]
   apply abm;intro b _;rfl
  rw[e] at this;exact this
theorem LU (I:aN X pins σ H s)(h:H b=some (.tup (ns.map V.int)))(n:ns≠[]):AA s.heap (.ref b)/\yB s.heap (.ref b)=cO H b:=by
 obtain⟨_,its,rv,it,_⟩:=I.hok b _ h;have ia:=eR rv;refine⟨⟨b,its.toArray,ns,rfl,it,by simpa using ia,n⟩,?_⟩;rw[p8 it (by simpa using ia)];unfold cO;rw[h];exact (AG ns).symm
theorem xG {v:ZF}(t:AA h v)(k:∀b its,h.IsTuple b its->h'.IsTuple b its):AA h' v/\yB h' v=yB h v:=by
 obtain⟨a,its,ns,rfl,q,i,n⟩:=t;refine⟨⟨a,its,ns,rfl,k a its q,i,n⟩,?_⟩;rw[p8 q i,p8 (k a its q) i]
theorem EC {h:abT}:∀{vs:List ZF},(∀v∈vs,AA h v)->∃fs,PySem.W.KatTups h vs fs/\fs.length=vs.length/\∀f∈fs,∃n t,f=.int n t
 | [],_=>⟨[],.nil,rfl,λf hf=>by cases hf⟩
 |v::vs,hv=>by
  obtain⟨fs,k1,k2,k3⟩:=EC (vs:=vs) λu hu=>hv u (ZC _ hu);obtain⟨a,its,ns,rfl,⟨o,e,c,n,d⟩,i,ne⟩:=hv v ZA;have:∃m t r,its.toList=.int m t::r:=by
   generalize its.toList=l at i;cases i with
   |nil=>exact absurd rfl ne
   |cons m t r=>exact⟨m,t,_,rfl⟩
  obtain⟨m,t,r,el⟩:=this;refine⟨.int m t::fs,.cons e c d (by rw[←Z4,el];rfl) k1,by rw[ZM,ZM,k2],λf hf=>?_⟩;rcases ZK.mp hf with rfl|hf
  ·exact⟨m,t,rfl⟩
  ·exact k3 f hf
noncomputable def SI:ZF->ZY
 | .ref a=>a
 |_=>0
theorem va {O:aeS}{p:ZY}{bs:List ZY}{Q:VK}(kf:ZY->O.α)(knd:SortKind)(I:aN X pins σ H s)(hz:bs.length<64)(hu:X.A.units+64<abn)
  (kk:∀(A:aar) (E:ZF->ZT->Prop) (kN:List ZY) (s6:ZT) (Q6:SortKind->ZT->Prop),kN.Perm bs->2<=kN.length->(∀b o,s.heap.get? b=some o->s6.heap.get? b=some o)->Q6 knd s6->Z1 (Z8 X.prog X.w) A (keyKind' (kN.map Value.ref).toArray) Q6 E s6)
  (kc:2<=bs.length->∀(A:aar) (E:ZF->ZT->Prop) (s6:ZT),A.units<abn->(∀b o,s.heap.get? b=some o->s6.heap.get? b=some o)->GH (Z8 X.prog X.w) A E s6 O (λx=>kf (SI x.1)) knd (λx=>∃b∈bs,x.1=.ref b))
  (T5:∀(Q:List ZF->ZT->Prop) (E:ZF->ZT->Prop),(∀h1 tk (kN:List ZY),kN.Perm bs->(∀b o,s.heap.get? b=some o->h1.get? b=some o)->Q (kN.map Value.ref) {s with heap:=h1,toks:=tk})->Z1 (Z8 X.prog X.w) X.A.in1 (collect (.ref p)) Q E s)
  (q:∀(l:ZY) (jE:List ZY),H l=none->jE.Perm bs->jE.Pairwise (λx y=>O.blt (kf y) (kf x)=false)->Q (.ref l) (cE H l (.lst (jE.map V.ref)))) :
  Z1 (Z8 X.prog X.w) X.A (call (.builtin "sorted") [.ref p]) (EP X pins σ Q) X.xe s:=by
 refine aey kind_sorted plain_sorted entry_sorted (args_sorted1 _) ?_;unfold Builtin.«sorted»;refine Zv (m:=checkCount "sorted" 1 1 _) (Zy ?_);refine Zv (T5 _ _ λh1 tk kN E7 k1=>?_);have hz:kN.length<64:=by rw[E7.length_eq];exact hz
 have BF:kN.length<=ZH:=by rw[abw];lia
 have I1:aN X pins σ H {s with heap:=h1,toks:=tk}:=I.kept (t':=tk) k1;refine Zv (wpAny_newList ?_ (by rw[Zz];exact BF));have QK:(h1.push {cls:=.type "list",data:=.seq (kN.map Value.ref).toArray}).get? h1.objs.size=some (aet "list" (kN.map Value.ref).toArray 0):=ZQ _ rfl;have kt:∀(h6:abT),(∀b o,b≠h1.objs.size->(h1.push {cls:=.type "list",data:=.seq (kN.map Value.ref).toArray}).get? b=some o->h6.get? b=some o)->∀b o,s.heap.get? b=some o->h6.get? b=some o:=λh6 k6 b o e=>
  k6 b o (Z6 (ZU (k1 b o e))) (Zx _ (k1 b o e))
 refine Zv (aaW (aav slot_list_sort ⟨_,QK,rfl⟩ entry_list_sort (JD (s:={s with heap:=h1.push {cls:=.type "list",data:=.seq (kN.map Value.ref).toArray},toks:=tk}) (O:=O) (key:=λx=>kf (SI x.1)) (knd:=knd) (D:=λx=>∃b∈bs,x.1=.ref b) QK (by rw[Zz];exact hz)
  (λh2 h6 Q6 k6 q6=>kk _ _ kN _ _ E7 (by rw[Zz] at h2;exact h2) (kt h6 k6) q6) (λh2 h6 k6=>kc (by rw[Zz] at h2;rw[←E7.length_eq];exact h2) _ _ _ (by show X.A.units+1+1<abn;lia) (kt h6 k6)) (λv hv=>by
   obtain⟨b,hb,rfl⟩:=aal.mp hv;exact⟨b,E7.mem_iff.mp hb,rfl⟩) λout hp hw=>⟨_,rfl,?_⟩) (args_list_sort _)))
 obtain⟨jE,e,E5⟩:=xF hp;subst e;obtain⟨ee,he⟩:=sortedHeap_at (out:=(jE.map Value.ref).toArray) QK;have keep:∀b o,h1.get? b=some o->(sortedHeap (h1.push {cls:=.type "list",data:=.seq (kN.map Value.ref).toArray}) h1.objs.size (kN.map Value.ref) (jE.map Value.ref).toArray).get? b=some o:=λb o e=>by
  have hb:=ZU e;rw[sortedHeap_old (Z6 hb) (by rw[aaU];exact abF hb)];exact Zx _ e
 have QJ:(jE.map V.ref).length<=ZH:=by rw[Zz,E5.length_eq];exact BF
 refine Zy ⟨_,rfl,.ref h1.objs.size,_,I1.laid (t':=tk) keep (ZP _) (show bT X.prog X.w _ _ _ (.lst _) from ⟨QJ,jE.map Value.ref,ee,xE jE,by simpa using he⟩),rfl,q _ jE (I1.hok.fresh (ZP _)) (E5.trans E7) ?_⟩;exact aaO.mp hw
theorem sC {p:ZY}{bs:List ZY}{Q:VK}(I:aN X pins σ H s)(hz:bs.length<64)(hu:X.A.units+64<abn)(tu:∀b∈bs,∃ns:List Int,H b=some (.tup (ns.map V.int))/\ns≠[])
  (T5:∀(Q:List ZF->ZT->Prop) (E:ZF->ZT->Prop),(∀h1 tk (kN:List ZY),kN.Perm bs->(∀b o,s.heap.get? b=some o->h1.get? b=some o)->Q (kN.map Value.ref) {s with heap:=h1,toks:=tk})->Z1 (Z8 X.prog X.w) X.A.in1 (collect (.ref p)) Q E s)
  (q:∀(l:ZY) (jE:List ZY),H l=none->jE.Perm bs->jE.Pairwise (λx y=>gz (cO H y) (cO H x)=false)->Q (.ref l) (cE H l (.lst (jE.map V.ref)))) :
  Z1 (Z8 X.prog X.w) X.A (call (.builtin "sorted") [.ref p]) (EP X pins σ Q) X.xe s:=by
 have tI:∀b∈bs,AA s.heap (.ref b)/\yB s.heap (.ref b)=cO H b:=λb hb=>by
  obtain⟨ns,e,ne⟩:=tu b hb;exact LU I e ne
 have kt:∀(h6:abT),(∀b o,s.heap.get? b=some o->h6.get? b=some o)->∀b its,s.heap.IsTuple b its->h6.IsTuple b its:=λh6 k6 b its ⟨o,e,z⟩=>⟨o,k6 b o e,z⟩;refine va (O:=LQ) (cO H) (tuples' true) I hz hu (λA E kN s6 Q6 E7 h2 k6 q6=>?_) (λ_ A E s6 hA k6=>?_) T5 q
 ·obtain⟨fs,f1,f2,f3⟩:=EC (h:=s6.heap) (vs:=kN.map Value.ref) λv hv=>by
   obtain⟨b,hb,rfl⟩:=aal.mp hv;exact (xG (tI b (E7.mem_iff.mp hb)).1 (kt _ k6)).1
  exact PySem.W.kat_kind (T:=.type "int") f1 (by rw[f2,Zz];lia) (λv hv=>by
   obtain⟨n,t,rfl⟩:=f3 v hv;exact PySem.W.Looks.of_pure rfl) (by decide) q6
 ·have c:=LS (prog:=X.prog) (w:=X.w) (A:=A) (E:=E) (s:=s6) (hp:=s.heap) λv hv=>xG hv (kt _ k6);refine⟨λx y st Q dx dy kd qq=>?_⟩;obtain⟨b,hb,e1⟩:=dx;obtain⟨d,hd,e2⟩:=dy;refine c.lt x y st Q (by rw[e1];exact (tI b hb).1) (by rw[e2];exact (tI d hd).1) kd ?_;rw[e1,e2,(tI b hb).2,(tI d hd).2];rw[e1,e2] at qq;exact qq
theorem yE (hc:X.calm=true)(hu:X.A.units+64<abn):ez X (.builtin "sorted") (λxs H Q=>∃(p:ZY) (bs:List ZY),xs=[.ref p]/\FY X.K H p bs/\bs.length<64/\(∀b∈bs,∃ns:List Int,H b=some (.tup (ns.map V.int))/\ns≠[])/\
  ∀(l:ZY) (jE:List ZY),H l=none->jE.Perm bs->jE.Pairwise (λx y=>gz (cO H y) (cO H x)=false)->Q (.ref l) (cE H l (.lst (jE.map V.ref)))):=by
 intro pins s σ H xs us Q I r h;obtain⟨p,bs,rfl,src,hz,tu,q⟩:=h;obtain⟨u,rfl,rx⟩:=i0 r;cases rx;have BF:bs.length<=ZH:=by rw[abw];lia
 have T5:∀(Q:List ZF->ZT->Prop) (E:ZF->ZT->Prop),(∀h1 tk (kN:List ZY),kN.Perm bs->(∀b o,s.heap.get? b=some o->h1.get? b=some o)->Q (kN.map Value.ref) {s with heap:=h1,toks:=tk})->Z1 (Z8 X.prog X.w) X.A.in1 (collect (.ref p)) Q E s:=by
  intro Q E hq;rcases src with hs|hs|⟨ep,es,hs,rfl⟩
  ·obtain⟨its,rv,pl,_⟩:=I.list hs;obtain⟨o,e,c,n,d⟩:=pl.isList;have e2:=iI rv;subst e2;exact acM p (.inl rfl) e c d (λh1 k1=>by simpa using hq h1 s.toks bs (aa5 _) k1) (by rw[ZI,Zz];exact BF)
  ·obtain⟨its,rv,pl,_⟩:=I.tuple hs;obtain⟨o,e,c,n,d⟩:=pl;have e2:=iI rv;subst e2;exact acM p (.inr rfl) e c d (λh1 k1=>by simpa using hq h1 s.toks bs (aa5 _) k1) (by rw[ZI,Zz];exact BF)
  ·obtain⟨lo,ds,rd,n,at_⟩:=I.rawD hs;refine mP (A:=X.A.in1) (SA lo) (I.ok.hd hc) rd (by rw[n];rw[Zz] at BF;exact BF) λh1 tk cy k1 ia=>?_;have e:cy.toList=(es.map (·.2.1)).map Value.ref:=by
    apply ab5;intro i;rw[Z4,aaZ,Z2];by_cases hi:i<cy.size
    ·rw[getElem?_pos cy i hi];obtain⟨en,e1,e2⟩:=ia.2 i _ (getElem?_pos cy i hi);have zu:i<ds.size:=by rw[←ia.1];exact hi
     rw[getElem?_pos ds i zu] at e1;cases e1;obtain⟨x,m,ek,_⟩:=at_ i zu;rw[m,e2,ek];rfl
    ·rw[getElem?_neg cy i hi,List.getElem?_eq_none (by rw[←n,←ia.1];lia)];rfl
   rw[e];exact hq h1 tk _ (aa5 _) k1
 exact sC I hz hu tu T5 q
end L2
namespace L2
open Hc.Dw Hc.Ts
noncomputable def sS (ns:List Int):U:=.tup (ns.map .int)
noncomputable def P8:U->Option (List Int)
 | .tup xs=>match jq xs with
  |some (n::ns)=>some (n::ns)
  |_=>none
 |_=>none
noncomputable def AH:List U->Option (List (List Int))
 | []=>some []
 |u::us=>match P8 u,AH us with
  |some ns,some dC=>some (ns::dC)
  |_,_=>none
noncomputable def FZ (x:List Int):List (List Int)->List (List Int)
 | []=>[x]
 |y::r=>if gz y x=true then y::FZ x r else x::y::r
noncomputable def xH (l:List (List Int)):List (List Int):=l.foldr FZ []
theorem qX (x:List Int):∀l,(FZ x l).Perm (x::l)
 | []=>.refl _
 |y::r=>by
  unfold FZ;split
  ·exact ((qX x r).cons y).trans (.swap x y r)
  ·exact .refl _
theorem oW:∀l,(xH l).Perm l
 | []=>.refl _
 |x::l=>(qX x _).trans ((oW l).cons x)
def SJ (l:List (List Int)):Prop:=l.Pairwise λx y=>gz y x=false
theorem ED (x:List Int):∀{l},SJ l->SJ (FZ x l)
 | [],_=>aaA _ _
 |y::r,h=>by
  obtain⟨h1,h2⟩:=aaa.mp h;unfold FZ;split
  ·rename_i c;refine aaa.mpr ⟨λz hz=>?_,ED x h2⟩;rcases ZK.mp ((qX x r).mem_iff.mp hz) with rfl|hz
   ·exact KeyOrd.klt_asymm (O:=LQ) c
   ·exact h1 z hz
  ·rename_i c;have c:gz y x=false:=by simpa using c
   refine aaa.mpr ⟨λz hz=>?_,h⟩;rcases ZK.mp hz with rfl|hz
   ·exact c
   ·exact acq (O:=LQ) (a:=x) (b:=y) (c:=z) c (h1 z hz)
theorem vb:∀l,SJ (xH l)
 | []=>List.Pairwise.nil
 |x::l=>ED x (vb l)
theorem yF:∀{l m:List (List Int)},l.Perm m->SJ l->SJ m->l=m
 | [],m,p,_,_=>(List.nil_perm.mp p).symm
 |x::l,[],p,_,_=>absurd p.length_eq (by simp)
 |x::l,y::m,p,h1,h2=>by
  obtain⟨a1,a2⟩:=aaa.mp h1;obtain⟨b1,b2⟩:=aaa.mp h2;have e:x=y:=by
   have hx:x∈y::m:=p.mem_iff.mp ZA;have hy:y∈x::l:=p.mem_iff.mpr ZA;rcases ZK.mp hx with rfl|hx
   ·rfl
   ·rcases ZK.mp hy with rfl|hy
    ·rfl
    ·exact jT x y (b1 x hx) (a1 y hy)
  subst e;rw[yF (p.cons_inv) a2 b2]
theorem LV {u:U}(h:P8 u=some ns):u=sS ns/\ns≠[]:=by
 unfold P8 at h;split at h
 ·split at h
  ·rename_i xs n r e;cases h;rw[kq e];exact⟨rfl,by simp⟩
  ·cases h
 ·cases h
theorem mQ:∀{us:List U} {dC:List (List Int)},AH us=some dC->us=dC.map sS/\∀ns∈dC,ns≠[]
 | [],_,h=>by cases h;exact⟨rfl,λns hn=>by cases hn⟩
 |u::us,dC,h=>by
  unfold AH at h;split at h
  ·rename_i ns r e1 e2;cases h;obtain⟨e3,n3⟩:=LV e1;obtain⟨e4,n4⟩:=mQ e2;refine⟨by rw[ZR,←e3,←e4],λz hz=>?_⟩;rcases ZK.mp hz with rfl|hz
   ·exact n3
   ·exact n4 z hz
  ·cases h
theorem P9 (h:Rp K H A (sS ns) v):∃b,v=.ref b/\H b=some (.tup (ns.map V.int))/\ns.length<=ZH:=by
 unfold sS Rp at h;obtain⟨b,ys,e,q,l,r⟩:=h;rw[r.toI] at q;exact⟨b,e,q,by simpa using l⟩
def P_ (q:H b=some (.tup (ns.map V.int)))(l:ns.length<=ZH):Rp K H A (sS ns) (.ref b):=by
 unfold sS Rp;exact⟨b,_,rfl,q,by simpa using l,mH ns⟩
def yG (q:H b=some (.tup (ns.map V.int))):cO H b=ns:=by unfold cO;rw[q];exact AG ns
theorem kY:∀{dC:List (List Int)} {xs:List V},aO K H A (dC.map sS) xs->∃bs:List ZY,xs=bs.map V.ref/\bs.map (cO H)=dC/\∀b∈bs,H b=some (.tup ((cO H b).map V.int))/\(cO H b).length<=ZH
 | [],xs,h=>by rw[abj] at h;unfold aO at h;subst h;exact⟨[],rfl,rfl,λb hb=>by cases hb⟩
 |ns::dC,xs,h=>by
  rw[ZR] at h;unfold aO at h;obtain⟨x,r,rfl,h1,h2⟩:=h;obtain⟨b,rfl,q,l⟩:=P9 h1;obtain⟨bs,rfl,e,z⟩:=kY h2;refine⟨b::bs,rfl,by rw[ZR,e,yG q],λc hc=>?_⟩;rcases ZK.mp hc with rfl|hc
  ·rw[yG q];exact⟨q,l⟩
  ·exact z c hc
theorem AI {bs:List ZY}(h:∀b∈bs,H b=some (.tup ((cO H b).map V.int))/\(cO H b).length<=ZH):aO K H A ((bs.map (cO H)).map sS) (bs.map V.ref):=by
 induction bs with
 |nil=>exact aO.nil
 |cons b bs ih=>exact aO.cons (P_ (h b ZA).1 (h b ZA).2) (ih λc hc=>h c (ZC _ hc))
noncomputable def oX (us:List U):R U:=match AH us with
 |some dC=>if dC.length<64 then .ok (.lst ((xH dC).map sS)) else .stk
 |none=>.stk
noncomputable def CD:List U->R U:=λus=>match us with
 | [.lst xs]=>oX xs
 | [.tup xs]=>oX xs
 | [.dct ks _]=>if Us ks=true then oX ks else .stk
 |_=>.stk
def yH (K:ZD):List V->Hp->VK->Prop:=λxs H Q=>∃(p:ZY) (bs:List ZY),xs=[.ref p]/\FY K H p bs/\bs.length<64/\(∀b∈bs,∃ns:List Int,H b=some (.tup (ns.map V.int))/\ns≠[])/\
  ∀(l:ZY) (jE:List ZY),H l=none->jE.Perm bs->jE.Pairwise (λx y=>gz (cO H y) (cO H x)=false)->Q (.ref l) (cE H l (.lst (jE.map V.ref)))
theorem F0:mj K (yH K) .O CD:=λA H vs us z Q h mu e q=>by
 have fin:∀(xs:List U) (p:ZY) (bs:List ZY),oX xs=.ok z->aO K H A xs (bs.map V.ref)->FY K H p bs->yH K [.ref p] H Q:=by
  intro xs p bs e r src;unfold oX at e;split at e
  ·rename_i dC e1;split at e
   ·rename_i hz;cases e;obtain⟨e2,ne⟩:=mQ e1;subst e2;obtain⟨kN,e3,e4,e5⟩:=kY r;have e6:bs=kN:=by
     have:Function.Injective V.ref:=λa b h=>by cases h;rfl
     exact (List.map_inj_right λ_ _ h=>by cases h;rfl).mp e3
    subst e6;have n1:bs.length=dC.length:=by rw[←e4,Zz]
    refine⟨p,bs,rfl,src,(by lia),λb hb=>⟨_,(e5 b hb).1,ne _ (by rw[←e4];exact abI hb)⟩,λl jE hn hp hw=>?_⟩;have e7:jE.map (cO H)=xH dC:=yF ((hp.map (cO H)).trans (by rw[e4];exact (oW dC).symm)) (aaO.mpr hw) (vb dC);refine q _ _ (cN hn _) ⟨l,rfl,hn,?_⟩;rw[←e7];refine cq mu (AI λb hb=>e5 b (hp.mem_iff.mp hb)) hn ?_;have:ZH=16777216:=rfl;rw[Zz,Zz,hp.length_eq];lia
   ·cases e
  ·cases e
 unfold CD at e;split at e
 ·obtain⟨v,rfl,p⟩:=h.one;unfold Pk at p;obtain⟨a,ys,rfl,h1,l1,r1⟩:=p;have e':=e;unfold oX at e';split at e'
  ·rename_i dC e1;have r2:=r1;rw[(mQ e1).1] at r2;obtain⟨bs,rfl,_⟩:=kY r2;exact fin _ a bs e r1 (.inl (gD.of h1))
  ·cases e'
 ·obtain⟨v,rfl,p⟩:=h.one;unfold Pk at p;obtain⟨a,ys,rfl,h1,l1,r1⟩:=p;have e':=e;unfold oX at e';split at e'
  ·rename_i dC e1;have r2:=r1;rw[(mQ e1).1] at r2;obtain⟨bs,rfl,_⟩:=kY r2;exact fin _ a bs e r1 (.inr (.inl (jj.of h1)))
  ·cases e'
 ·rename_i ks ws;split at e
  ·rename_i c;obtain⟨v,rfl,p⟩:=h.one;unfold Pk at p;obtain⟨a,ys,rfl,h1,l1,r1⟩:=p;obtain⟨es,ep,q1,kt,e1,e2⟩:=Jy c h1;refine fin ks a (es.map (·.2.1)) e ?_ (.inr (.inr ⟨ep,es,q1,rfl⟩));subst e1;clear e fin e2 r1 h1 c q1 h
   induction es with
   |nil=>exact aO.nil
   |cons x es ih=>exact aO.cons (NT (kt x ZA)) (ih λy hy=>kt y (ZC _ hy))
  ·cases e
 ·cases e
def JE (K:ZD):List V->Hp->VK->Prop:=λxs H Q=>∃(p:ZY) (ns:List Int),xs=[.ref p]/\(gD K H p (ns.map V.int)\/jj K H p (ns.map V.int))/\ns.length<64/\
  ∀(l:ZY) (rF:List Int),H l=none->rF.Perm ns->rF.Pairwise (·<=·)->Q (.ref l) (cE H l (.lst (rF.map V.int)))
noncomputable def p9:List U->R U:=λus=>match kG us with
 | .ok z=>.ok z
 |_=>CD us
theorem vc:mj K (λxs H Q=>JE K xs H Q\/yH K xs H Q) .O p9:=λA H vs us z Q h mu e q=>by
 unfold p9 at e;split at e
 ·rename_i z' e1;cases e;exact .inl (qM A H vs us _ Q h mu e1 q)
 ·exact .inr (F0 A H vs us z Q h mu e q)
theorem qY (hc:X.calm=true)(hu:X.A.units+64<abn):ez X (.builtin "sorted") (λxs H Q=>JE X.K xs H Q\/yH X.K xs H Q):=by
 intro pins s σ H xs us Q I r h;rcases h with h|h
 ·exact lB pins s σ H xs us Q I r h
 ·exact yE hc hu pins s σ H xs us Q I r h
end L2
namespace L2
open Hc.Dw Hc.Ts Hc.Sx Hc.Sy
noncomputable def JF (cy:List (List Int))(x:List Int):List (List Int):=if x∈cy then cy else cy++[x]
noncomputable def mR (l:List (List Int)):List (List Int):=l.foldl JF []
def F1 (w:acd)(l:ZY)(bs:List ZY)(h:abT):Prop:=∃es ep t,n8 w h l es ep t/\(es.toList.map (·.2)).Perm (bs.map Value.ref)
theorem JG {vs:List ZF}(h:abA vs ns):ItemsAre (aew prog w) ns vs:=by
 induction h with
 |nil=>exact .nil
 |cons n t _ ih=>exact .cons (intKind_is _ _ _ _) ih
section
variable {e:abd}{oh p1 p2:Pos}{b1:Bool}{ga:Ev->R (List U×Ev)}
noncomputable def p_ (H:Hp)(bs:List ZY)(i:Nat):List Int×ZY:=(cO H (bs.getD i 0),bs.getD i 0)
theorem xI (H:Hp)(bs:List ZY):∀n,n<=bs.length->(fD (p_ H bs) n).map (·.1)=mR ((bs.take n).map (cO H))
 |0,_=>by simp[fD,mR]
 |n+1,h=>by
  have hn:n<bs.length:=(by lia)
  have ih:=xI H bs n (by lia);have e1:bs.take (n+1)=bs.take n++[bs[n]]:=abW hn;have e2:p_ H bs n=(cO H bs[n],bs[n]):=by unfold p_;simp[acU,Zw hn]
  rw[e1,aae];unfold mR at ih ⊢;rw[List.foldl_append,←ih];show (ox (fD (p_ H bs) n) (p_ H bs n).1 (p_ H bs n).2).map (·.1)=JF ((fD (p_ H bs) n).map (·.1)) (cO H bs[n]);rw[e2];unfold ox JF;dsimp only;by_cases c:cO H bs[n]∈(fD (p_ H bs) n).map (·.1)
  ·rw[hV c,hV c]
  ·rw[hU c,hU c,aae];rfl
def AJ (H:Hp)(bs:List ZY):(fD (p_ H bs) bs.length).map (·.1)=mR (bs.map (cO H)):=by
 rw[xI H bs _ (ZP _),adN]
def NW (w:acd)(K:ZD):List V->Hp->VK->Prop:=λxs H Q=>∃(p:ZY) (bs:List ZY),xs=[.ref p]/\gD K H p (bs.map V.ref)/\(∀b∈bs,H b=some (.tup ((cO H b).map V.int)))/\(mR (bs.map (cO H))).length<2046/\
 ∀(l:ZY) (kN:List ZY),H l=none->kN.map (cO H)=mR (bs.map (cO H))->(∀b∈kN,b∈bs)->Q (.ref l) (cE H l (.ext (F1 w l kN)))
theorem F2 (hc:X.calm=true)(hu:X.A.units+64<abn):ez X (.type "set") (NW X.w X.K):=by
 intro pins s σ H xs us Q I r h;obtain⟨p,bs,rfl,hs,tu,hb,q⟩:=h;obtain⟨u,rfl,rx⟩:=i0 r;cases rx;obtain⟨its,rv,pl,_⟩:=I.list hs;have e2:=iI rv;subst e2;have sz:(bs.map Value.ref).toArray.size=bs.length:=by simp
 refine An (knd:=tI X.prog X.w) (val:=p_ H bs) XI (λ{h h' k a} hk m=>?_) (show X.A.units+1+1+1<abn by lia) (I.ok.hd hc) pl.isList (λi v hv=>?_) (λj hj=>?_) ?_ λh' tk hS hk=>?_
 ·obtain⟨o,its,n,e1,e2,e3,e4⟩:=hk;obtain⟨o',BD,MF,n',e3'⟩:=m a its ⟨o,e1,e2,n,e3⟩;exact⟨o',its,n',BD,MF,e3',e4⟩
 ·rw[←Z4] at hv;rw[Z2] at hv;unfold p_;cases z:bs[i]? with
  |none=>rw[z] at hv;cases hv
  |some b=>rw[z] at hv;simp only[acU,z,abO];exact (Z0 hv).symm
 ·have hj:j<bs.length:=by rw[sz] at hj;exact hj
  have em:bs.getD j 0=bs[j]:=by simp[acU,Zw hj]
  unfold p_;rw[em];obtain⟨_,its,rv,it,_⟩:=I.hok _ _ (tu _ (acr hj));obtain⟨o,h1,h2,n,h3⟩:=it;exact⟨o,_,n,h1,h2,h3,by simpa using JG (eR rv)⟩
 ·rw[sz];have:=congrArg List.length (AJ H bs);rw[Zz] at this;lia
 ·rw[sz] at hS;obtain⟨o,es,ep,t,C,g1,g2,g3,g4,g5⟩:=hS;have Wm:n8 X.w h' s.heap.objs.size es ep t:=⟨o,g1,g2,g3,g4.fits,g4.pl,g5,g4.tab.ris,g4.tab.sz⟩;have mem:∀x∈fD (p_ H bs) bs.length,x.1=cO H x.2/\x.2∈bs:=λx hx=>by
   obtain⟨j,hj,rfl⟩:=nO _ _ x hx;refine⟨rfl,?_⟩;have em:bs.getD j 0=bs[j]:=by simp[acU,Zw hj]
   show bs.getD j 0∈bs;rw[em];exact acr hj
  refine⟨.ref s.heap.objs.size,_,I.laid (a:=s.heap.objs.size) (o:=.ext (F1 X.w s.heap.objs.size ((fD (p_ H bs) bs.length).map (·.2)))) (t':=tk) hk (ZP _)
   ⟨⟨es,ep,t,Wm,?_⟩,⟨o,g1⟩,λh1 h2 ⟨es,ep,t,r,z⟩ k=>⟨es,ep,t,r.at k,z⟩⟩,rfl,q _ _ (I.hok.fresh (ZP _)) ?_ λb hb=>?_⟩
  ·refine (g4.per.map (·.2)).trans (List.Perm.of_eq ?_);rw[aaZ,aaZ];rfl
  ·rw[←AJ H bs,aaZ];exact abm λx hx=>(mem x hx).1.symm
  ·obtain⟨x,hx,rfl⟩:=aal.mp hb;exact (mem x hx).2
def JH (w:acd):List V->Hp->VK->Prop:=λxs H Q=>∃(p:ZY) (bs:List ZY),xs=[.ref p]/\H p=some (.ext (F1 w p bs))/\bs.length<64/\(∀b∈bs,∃ns:List Int,H b=some (.tup (ns.map V.int))/\ns≠[])/\
  ∀(l:ZY) (jE:List ZY),H l=none->jE.Perm bs->jE.Pairwise (λx y=>gz (cO H y) (cO H x)=false)->Q (.ref l) (cE H l (.lst (jE.map V.ref)))
theorem CF (hc:X.calm=true)(hu:X.A.units+64<abn):ez X (.builtin "sorted") (JH X.w):=by
 intro pins s σ H xs us Q I r h;obtain⟨p,bs,rfl,hs,hz,tu,q⟩:=h;obtain⟨u,rfl,rx⟩:=i0 r;cases rx;obtain⟨⟨es,ep,t,Wm,per⟩,_,_⟩:=I.hok p _ hs;refine sC I hz hu tu (λQ E hq=>?_) q;have n:es.size=bs.length:=by have:=per.length_eq;simpa using this
 refine mP (A:=X.A.in1) Vs (I.ok.hd hc) Wm (by rw[n,abw];lia) λh1 tk cy k1 ia=>?_;have e:cy.toList=(wx X.w p ep es).toList.map (·.2):=by
  apply ab5;intro i;rw[Z4,Z2,Z4];by_cases hi:i<cy.size
  ·rw[getElem?_pos cy i hi];obtain⟨en,e1,e2⟩:=ia.2 i _ (getElem?_pos cy i hi);rw[e1,e2];rfl
  ·rw[getElem?_neg cy i hi,getElem?_neg _ i (by rw[AF,←ia.1];exact hi)];rfl
 obtain⟨kN,e3,e4⟩:=xF ((AE.map (·.2)).trans per);rw[e,e3];exact hq h1 tk kN e4 k1
noncomputable def jU:List U->R U:=λus=>match us with
 | [.lst xs]=>match AH xs with
  |some dC=>if (mR dC).length<64 then .ok (.lst ((xH (mR dC)).map sS)) else .stk
  |none=>.stk
 |_=>.stk
theorem AK:∀(l cy:List (List Int)) (x:List Int),x∈l.foldl JF cy->x∈cy\/x∈l
 | [],cy,x,h=>.inl h
 |y::l,cy,x,h=>by
  rcases AK l _ x h with z|z
  ·unfold JF at z;split at z
   ·exact .inl z
   ·rcases aab.mp z with z|z
    ·exact .inl z
    ·exact .inr (by rw[ZV.mp z];exact ZA)
  ·exact .inr (ZC _ z)
theorem AL:mj K (λvs H Q=>NW w K vs H λx H2=>JH w [x] H2 Q) .O jU:=λA H vs us z Q h mu e q=>by
 unfold jU at e;split at e
 ·rename_i xs;split at e
  ·rename_i dC e1;split at e
   ·rename_i hl;cases e;obtain⟨v,rfl,p⟩:=h.one;unfold Pk at p;obtain⟨a,ys,rfl,h1,l1,r1⟩:=p;obtain⟨e2,ne⟩:=mQ e1;subst e2;obtain⟨bs,rfl,e4,e5⟩:=kY r1;refine⟨a,bs,rfl,gD.of h1,λb hb=>(e5 b hb).1,by rw[e4];lia,λl kN hn k2 sub=>?_⟩;have sm:=cN hn (.ext (F1 w l kN));have kb:∀b∈bs,cO (cE H l (.ext (F1 w l kN))) b=cO H b:=λb hb=>by
     rw[yG (sm _ _ (e5 b hb).1)]
    have ln:kN.length=(mR dC).length:=by rw[←e4,←k2,Zz]
    refine⟨l,kN,rfl,bC,(by lia),λb hb=>⟨_,sm _ _ (e5 b (sub b hb)).1,?_⟩,λl' jE Q2 hp hw=>?_⟩
    ·have:cO H b∈mR (bs.map (cO H)):=by rw[←k2];exact abI hb
     rcases AK _ _ _ this with z|z
     ·cases z
     ·rw[e4] at z;exact ne _ z
    ·have Yt:(jE.map (cO H)).Pairwise λx y=>gz y x=false:=by
      refine aaO.mpr (abv (λ{x y} hx hy z=>?_) hw);rw[kb x (sub x (hp.mem_iff.mp hx)),kb y (sub y (hp.mem_iff.mp hy))] at z;exact z
     have e7:jE.map (cO H)=xH (mR dC):=yF ((hp.map (cO H)).trans (by rw[k2,e4];exact (oW _).symm)) Yt (vb _);have UI:=sm.trans (cN Q2 (.lst (jE.map V.ref)));have na:H l'=none:=by
      cases z:H l' with
      |none=>rfl
      |some o=>rw[sm _ _ z] at Q2;cases Q2
     refine q _ _ UI ⟨l',rfl,na,?_⟩;rw[←e7];refine cq (λb hb=>?_) ?_ Q2 ?_
     ·have m:=mu b hb;obtain⟨o,z⟩:=m.ex;rw[sm b o z,←z];exact m
     ·have k3:jE.map (cO H)=jE.map (cO (cE H l (.ext (F1 w l kN)))):=abm λb hb=>(kb b (sub b (hp.mem_iff.mp hb))).symm;rw[k3];refine AI λb hb=>?_;have zx:=sub b (hp.mem_iff.mp hb);rw[kb b zx];exact⟨sm _ _ (e5 b zx).1,(e5 b zx).2⟩
     ·have:ZH=16777216:=rfl;rw[Zz,Zz,hp.length_eq];lia
   ·cases e
  ·cases e
 ·cases e
def vd (hc:X.calm=true)(hu:X.A.units+64<abn)(ha:DA X G [e] b1 true ga)(hm:X.mg "sorted"=none)(Wf:X.mg "set"=none)(hg:Gl X "sorted":=by rfl)(TN:Gl X "set":=by rfl)
  (he:ZX [e] X.env=(false,acP e X.env)::ZX [] X.env:=by rfl) (sJ:(abL oh (ZX [] X.env)).any (·.1)=false:=by rfl)
  (T3:ZX [.Call (.Name "set" p2) [e] [] oh] X.env=(false,acP (.Call (.Name "set" p2) [e] [] oh) X.env)::ZX [] X.env:=by rfl) (Kp:(abL pos (ZX [] X.env)).any (·.1)=false:=by rfl) :
  DE X G (.Call (.Name "sorted" p1) [.Call (.Name "set" p2) [e] [] oh] [] pos) b1 .O (dP jU ga):=⟨(mw (CF hc hu) hg hm iB (eN (kS (F2 hc hu) TN Wf Im ha.un (by decide) (by decide) he sJ) kD T3) (by decide) (by decide) T3 Kp).to λ_ _ _ h=>tO (p:=true) (AL (K:=X.K)) h⟩
end
end L2
namespace L2
open Hc.Dw Hc.Ts
section
variable {e:abd}{tl:TE}{jc cpos p1:Pos}{b1:Bool}{m1:Md}{g1:Ev->R (U×Ev)}
noncomputable def vf (ns:List Int):Bool:=decide (ns.length<=1000000)&&ns.all λn=>decide (0<=n/\n<=1000000000)
theorem mS (ns:List Int):∀j,j<=ns.length->preSum (λi=>ns.getD i 0) j=(ns.take j).sum
 |0,_=>rfl
 |j+1,h=>by
  unfold preSum;rw[mS ns j (by lia),abW (show j<ns.length by lia),List.sum_append];simp[acU,Zw (show j<ns.length by lia)]
theorem xJ:∀{ns:List Int},(ns.all λn=>decide (0<=n/\n<=1000000000))=true->0<=ns.sum/\ns.sum<=ns.length*1000000000
 | [],_=>by simp
 |n::ns,h=>by
  rw[ace,Z3] at h;obtain⟨a,b⟩:=xJ h.2;have:=of_decide_eq_true h.1;rw[List.sum_cons,ZM];constructor
  ·lia
  ·push_cast;lia
end
end L2
namespace L2
open Hc.Dw Hc.Ts
noncomputable def vg:ZF->Int×Tok
 | .int n t=>(n,t)
 |_=>(0,0)
theorem xK (h:abA its ns):intItems (its.map vg).toArray=its.toArray/\∀i,numAt (its.map vg).toArray i=ns.getD i 0:=by
 constructor
 ·unfold intItems;rw[List.map_toArray,aaZ];congr 1
  induction h with
  |nil=>rfl
  |cons n t _ ih=>rw[ZR,ih];rfl
 ·induction h with
  |nil=>intro i;unfold numAt;simp
  |cons n t _ ih=>
   intro i;cases i with
   |zero=>unfold numAt;simp[vg]
   |succ i=>
    have:=ih i;unfold numAt at this ⊢;simpa [acU] using this
def NY (K:ZD):List V->Hp->VK->Prop:=λxs H Q=>∃p ns,xs=[.ref p]/\gD K H p (ns.map V.int)/\vf ns=true/\Q (.int ns.sum) H
theorem F3 (hc:X.calm=true):ez X (.builtin "sum") (NY X.K):=by
 intro pins s σ H xs us Q I r h;obtain⟨p,ns,rfl,hs,sm,q⟩:=h;obtain⟨u,rfl,rx⟩:=i0 r;cases rx;obtain⟨its,rv,pl,_⟩:=I.list hs;have hI:=eR rv;obtain⟨t1,t2⟩:=xK hI;have sz:(its.map vg).toArray.size=ns.length:=by simp[hI.length]
 unfold vf at sm;rw[Z3] at sm;have s1:=of_decide_eq_true sm.1;have fe:numAt (its.map vg).toArray=λi=>ns.getD i 0:=funext t2;refine sum_intList (xs:=(its.map vg).toArray) (I.ok.hd hc) (by rw[t1];exact pl.isList) (λj hj=>?_) λh' tk t' k=>?_
 ·rw[sz] at hj;have al:=sm.2;rw[fe];refine⟨?_,?_⟩
  ·have:=aaT.mp al ns[j] (acr hj);have:=of_decide_eq_true this;unfold InLong;simp only[acU,Zw hj,abO];lia
  ·rw[mS ns (j+1) (by lia)];have UJ:((ns.take (j+1)).all λn=>decide (0<=n/\n<=1000000000))=true:=aaT.mpr λx hx=>aaT.mp al x (List.mem_of_mem_take hx);obtain⟨p1,p2⟩:=xJ UJ;have:(ns.take (j+1)).length<=1000000:=by rw[abx];lia
   unfold InLong;lia
 ·have e:preSum (numAt (its.map vg).toArray) (its.map vg).toArray.size=ns.sum:=by rw[fe,sz,mS ns ns.length (ZP _),adN]
  rw[e];exact⟨.int ns.sum,H,I.kept (t':=tk) k,⟨t',rfl⟩,q⟩
noncomputable def vh:List U->R U:=λus=>match us with
 | [.lst xs]=>match jq xs with
  |some ns=>if vf ns=true then .ok (.int ns.sum) else .stk
  |none=>.stk
 |_=>.stk
theorem JI:mj K (NY K) .S vh:=λA H vs us z Q h mu e q=>by
 unfold vh at e;split at e
 ·rename_i xs;split at e
  ·rename_i ns hb;split at e
   ·rename_i hl;cases e;obtain⟨v,rfl,p⟩:=h.one;unfold Pk at p;obtain⟨a,ys,rfl,h1,l1,r1⟩:=p;rw[kq hb] at r1;rw[r1.toI] at h1;exact⟨a,ns,rfl,gD.of h1,hl,q _ H (aR.refl _) (show Rp K H A _ _ from dE)⟩
   ·cases e
  ·cases e
 ·cases e
noncomputable def wy:Int->List Int->Int
 |m,[]=>m
 |m,n::ns=>wy (if m<n then n else m) ns
theorem AM (ns:List Int)(n0:Int):∀j,j<=ns.length->(n0::ns).getD (argBest (λi j=>decide ((n0::ns).getD i 0>(n0::ns).getD j 0)) j) 0=wy n0 (ns.take j)
 |0,_=>by simp[argBest,wy]
 |j+1,h=>by
  have ih:=AM ns n0 j (by lia);have hj:j<ns.length:=(by lia)
  have Yu:∀(l:List Int) (m x:Int),wy m (l++[x])=if wy m l<x then x else wy m l:=by
   intro l
   induction l with
   |nil=>intro m x;rfl
   |cons y l ih=>intro m x;exact ih _ x
  rw[abW hj,Yu,←ih];have g:(n0::ns).getD (j+1) 0=ns[j]:=by simp[acU,Zw hj]
  rw[argBest];by_cases c:(n0::ns).getD (argBest (λi j=>decide ((n0::ns).getD i 0>(n0::ns).getD j 0)) j) 0<ns[j]
  ·rw[hV c,hV (by rw[g];exact hG c),g]
  ·rw[hU c,hU (by rw[g,decide_eq_true_eq];exact c)]
def NZ (K:ZD):List V->Hp->VK->Prop:=λxs H Q=>∃p n0 ns,xs=[.ref p]/\gD K H p ((n0::ns).map V.int)/\Q (.int (wy n0 ns)) H
theorem F4 (hc:X.calm=true):ez X (.builtin "max") (NZ X.K):=by
 intro pins s σ H xs us Q I r h;obtain⟨p,n0,ns,rfl,hs,q⟩:=h;obtain⟨u,rfl,rx⟩:=i0 r;cases rx;obtain⟨its,rv,pl,_⟩:=I.list hs;have hI:=eR rv;obtain⟨t1,t2⟩:=xK hI;have sz:(its.map vg).toArray.size=ns.length+1:=by simp[hI.length]
 have fe:numAt (its.map vg).toArray=λi=>(n0::ns).getD i 0:=funext t2;refine max_intList (xs:=(its.map vg).toArray) (I.ok.hd hc) (by rw[t1];exact pl.isList) (by rw[sz];lia) λv h' tk hv k=>?_;obtain⟨t,rfl⟩:=intItems_at hv;rw[sz,Nat.add_sub_cancel,fe];dsimp only;rw[AM ns n0 _ (ZP _),adN];exact⟨.int _,H,I.kept (t':=tk) k,⟨t,rfl⟩,q⟩
noncomputable def vi:List U->R U:=λus=>match us with
 | [.lst xs]=>match jq xs with
  |some (n::ns)=>.ok (.int (wy n ns))
  |_=>.stk
 |_=>.stk
theorem JJ:mj K (NZ K) .S vi:=λA H vs us z Q h mu e q=>by
 unfold vi at e;split at e
 ·rename_i xs;split at e
  ·rename_i n ns hb;cases e;obtain⟨v,rfl,p⟩:=h.one;unfold Pk at p;obtain⟨a,ys,rfl,h1,l1,r1⟩:=p;rw[kq hb] at r1;rw[r1.toI] at h1;exact⟨a,n,ns,rfl,gD.of h1,q _ H (aR.refl _) (show Rp K H A _ _ from dE)⟩
  ·cases e
 ·cases e
end L2
namespace Hc.Ts
open PySem.W
theorem AN:∀a b,HT.lexLt a b=gz a b
 | [],[]=>rfl
 | [],_::_=>rfl
 |_::_,[]=>rfl
 |x::xs,y::ys=>by
  rw[HT.lexLt_cons,gz,AN xs ys]
section
variable {A:aar}
theorem items_int {vs:List ZF}(h:abA vs ns):ItemsAre (aew prog w) ns vs:=by
 induction h with
 |nil=>exact .nil
 |cons n t _ ih=>exact .cons (intKind_is _ _ _ _) ih
theorem SK {t:ZY}{its:Array ZF}(h:s.heap.IsTuple t its)(i:abA its.toList ns):IsTupleKey (aew prog w) s.heap ns t:=by
 obtain⟨o,e,c,n,d⟩:=h;exact⟨o,its,n,e,c,d,items_int i⟩
end
end Hc.Ts
namespace L2
open Hc.Dw Hc.Ts
theorem xM {α β:Type}{f:α->β}:∀{l:List α},(l.map f).Nodup->∀a∈l,∀b∈l,f a=f b->a=b
 | [],_,a,ha,_,_,_=>by cases ha
 |x::l,h,a,ha,b,hb,e=>by
  rw[ZR] at h;obtain⟨h1,h2⟩:=aaS.mp h;rcases ZK.mp ha with ea|Dg
  ·rcases ZK.mp hb with eb|zx
   ·rw[ea,eb]
   ·exact absurd (by rw[←ea,e];exact abI zx) h1
  ·rcases ZK.mp hb with eb|zx
   ·exact absurd (by rw[←eb,←e];exact abI Dg) h1
   ·exact xM h2 a Dg b zx e
end L2
namespace L2
def SM (K:ZD)(f:Bool->Bool):R2:=λx y H Q=>∃p xs ds dx,y=.ref p/\(gD K H p xs\/jj K H p xs)/\a7 K H dx x/\ir K H ds xs/\(∀d∈ds,cB d<=30)/\Q (.bl (f (ds.any λd=>iu d dx))) H
open Classical in
noncomputable def sT (its:List ZF)(ds:List D)(dx:D)(u:ZF):Bool:=decide (∃(i:Nat) (d:D),its[i]? = some u/\ds[i]? = some d/\iu d dx=true)
open Classical in
def tT {ds:List D}{dx:D}{u:ZF}:sT its ds dx u=true↔∃(i:Nat) (d:D),its[i]? = some u/\ds[i]? = some d/\iu d dx=true:=by
 unfold sT;exact decide_eq_true_iff
theorem EE {ds:List D}{dx:D}(hl:its.length=ds.length):its.any (sT its ds dx)=ds.any λd=>iu d dx:=by
 rw[aaR,List.any_eq_true,List.any_eq_true];constructor
 ·rintro⟨u,_,h⟩;obtain⟨i,d,_,h2,h3⟩:=tT.mp h;exact⟨d,aan h2,h3⟩
 ·rintro⟨d,hd,h⟩;obtain⟨i,hi,e⟩:=List.mem_iff_getElem.mp hd;have OB:i<its.length:=(by lia)
  exact⟨its[i],acr OB,tT.mpr ⟨i,d,Zw OB,by rw[Zw hi,e],h⟩⟩
theorem AO (I:aN X pins σ H s){A:aar}(hA:A.units+30<abn){x:V}{v:ZF}{dx:D}(rx:bA x v)(hx:a7 X.K H dx x){ds:List D}(rv:bw xs its)(hs:ir X.K H ds xs)(hd:∀d∈ds,cB d<=30) :
  ∀u∈its,ab1 A s u v (sT its ds dx u):=λu hu=>by
 have l1:=rv.length;have l2:=hs.length;have at_:∀(i:Nat) (d:D),its[i]? = some u->ds[i]? = some d->ab1 A s u v (iu d dx):=λi d h1 h2=>by
  have hi:i<its.length:=(ZN.mp h1).1;have h3:xs[i]? = some (xs[i]'(by lia)):=Zw _;obtain⟨u',g1,g2⟩:=rv.get h3;rw[h1] at g1;cases g1;exact uj I 30 d dx _ x u v A (hd d (aan h2)) hA (hs.get h2 h3) hx g2 rx
 by_cases c:∃(i:Nat) (d:D),its[i]? = some u/\ds[i]? = some d/\iu d dx=true
 ·obtain⟨i,d,h1,h2,h3⟩:=c;have e:sT its ds dx u=true:=tT.mpr ⟨i,d,h1,h2,h3⟩;rw[e,←h3];exact at_ i d h1 h2
 ·have e:sT its ds dx u=false:=acL.mpr λz=>c (tT.mp z);obtain⟨i,hi,eu⟩:=List.mem_iff_getElem.mp hu;have h1:its[i]? = some u:=by rw[Zw hi,eu]
  have h2:ds[i]? = some (ds[i]'(by lia)):=Zw _;have e2:iu (ds[i]'(by lia)) dx=false:=by
   cases z:iu (ds[i]'(by lia)) dx with
   |false=>rfl
   |true=>exact absurd ⟨i,_,h1,h2,z⟩ c
  rw[e,←e2];exact at_ i _ h1 h2
theorem CG (hu:X.A.units+64<abn):l6 X (aa9 .In) (SM X.K id):=by
 intro pins s σ H x y v u Q I rx ry h;obtain⟨p,xs,ds,dx,rfl,hq,hx,hs,hd,q⟩:=h;cases ry;rcases hq with hq|hq
 ·obtain⟨its,r,pl,hz⟩:=I.list hq;refine SeqAt.in_listAt (sT its ds dx) pl.isList (λw hw=>AO I (by show X.A.units+1+30<abn;lia) rx hx r hs hd w (by simpa using hw)) ⟨.bl _,H,I,rfl,?_⟩;rw[show its.toArray.any (sT its ds dx)=its.any (sT its ds dx) by simp,EE (by rw[←r.length,←hs.length])];exact q
 ·obtain⟨its,r,pl,hz⟩:=I.tuple hq;refine SeqAt.in_tupleAt (sT its ds dx) pl (λw hw=>AO I (by show X.A.units+1+30<abn;lia) rx hx r hs hd w (by simpa using hw)) ⟨.bl _,H,I,rfl,?_⟩;rw[show its.toArray.any (sT its ds dx)=its.any (sT its ds dx) by simp,EE (by rw[←r.length,←hs.length])];exact q
noncomputable def vj:U->Option (List U)
 | .lst us=>some us
 | .tup us=>some us
 |_=>none
noncomputable def F5 (f:Bool->Bool):U->U->R U:=λu w=>match fP u,(vj w).bind fU with
 |some dx,some ds=>if (ds.all λd=>decide (cB d<=30))=true then .ok (.bl (f (ds.any λd=>iu d dx))) else .stk
 |_,_=>.stk
theorem CH {f:Bool->Bool}:gy K (SM K f) .S (F5 f):=λA H x y u w z Q hx hy mu e q=>by
 unfold F5 at e;split at e
 ·rename_i dx ds h1 h2;split at e
  ·rename_i hd;cases e;cases w with
   |lst us=>
    unfold Pk at hy;obtain⟨a,xs,rfl,h3,l1,r1⟩:=hy;exact⟨a,xs,ds,dx,rfl,.inl (gD.of h3),yj hx h1,nI r1 h2,λd m=>of_decide_eq_true (aaT.mp hd d m),q _ H (aR.refl _) (show Rp K H A _ _ from iw)⟩
   |tup us=>
    unfold Pk at hy;obtain⟨a,xs,rfl,h3,l1,r1⟩:=hy;exact⟨a,xs,ds,dx,rfl,.inr (jj.of h3),yj hx h1,nI r1 h2,λd m=>of_decide_eq_true (aaT.mp hd d m),q _ H (aR.refl _) (show Rp K H A _ _ from iw)⟩
   |_=>cases h2
  ·cases e
 ·cases e
end L2
namespace L2
open Hc.Dw Hc.Ts
noncomputable def Qa:U->U->R Bool
 | .int a,.int b=>.ok (a==b)
 | .bl a,.bl b=>.ok (a==b)
 | .str a,.str b=>.ok (a==b)
 |_,_=>.stk
noncomputable def kl (f:Bool->Bool):U->U->R U:=λu w=>(Qa u w).bind λb=>.ok (.bl (f b))
theorem fu:gy K WA .S (kl id):=λA H x y u w z Q hx hy mu e q=>by
 unfold kl at e;obtain⟨b,e1,e2⟩:=R.bind_ok e;unfold Qa at e1;split at e1
 ·cases e1;cases e2;rw[hx.int,hy.int];refine⟨rfl,?_⟩;rw[tJ];exact q _ H (aR.refl _) (show Rp K H A _ _ from iw)
 ·cases e1;cases e2;rw[hx.bl,hy.bl];refine⟨rfl,?_⟩;rw[xZ];exact q _ H (aR.refl _) (show Rp K H A _ _ from iw)
 ·cases e1;cases e2;rw[hx.str,hy.str];refine⟨rfl,?_⟩;rw[tK];exact q _ H (aR.refl _) (show Rp K H A _ _ from iw)
 ·cases e1
theorem EF:gy K WB .S (kl not):=λA H x y u w z Q hx hy mu e q=>by
 unfold kl at e;obtain⟨b,e1,e2⟩:=R.bind_ok e;unfold Qa at e1;split at e1
 ·cases e1;cases e2;rw[hx.int,hy.int];refine⟨rfl,?_⟩;rw[tJ];exact q _ H (aR.refl _) (show Rp K H A _ _ from iw)
 ·cases e1;cases e2;rw[hx.bl,hy.bl];refine⟨rfl,?_⟩;rw[xZ];exact q _ H (aR.refl _) (show Rp K H A _ _ from iw)
 ·cases e1;cases e2;rw[hx.str,hy.str];refine⟨rfl,?_⟩;rw[tK];exact q _ H (aR.refl _) (show Rp K H A _ _ from iw)
 ·cases e1
end L2
namespace L2
section
variable {A:aar}{k:List U}{xs:List (List U×ZY×ZF)}{r:ZF}
theorem SN (hr:(cw prog w).room A)(hk:(cw prog w).is s.heap k b)(hd:s.heap.DictOfH (cw prog w) a xs)(hz:xs.length<=ZH)
  (h1:∀p,aeH xs k=some p->Q p.2 {s with toks:=s.toks+GC (.tup k)})
  (h2:aeH xs k=none->∀h',h'.DictOfH (cw prog w) a (storedH xs k b r)->abp a s.heap h'->Q r {s with heap:=h',toks:=s.toks+GC (.tup k)}) :
  Z1 (Z8 prog w) A (dictSetDefault a (.ref b) r) Q E s:=by
 obtain⟨o,es,ep,ho,he,hdat,hl,hi,hn⟩:=hd;unfold dictSetDefault;refine aaW (Zv ((cw prog w).pyHash hr hk (Zv (wpAny_dictFind_heap hr hk ho hdat hl hi hn (λVQ=>?_) (λj p hj=>?_)))))
 ·have nk:∀x∈xs,x.1≠k:=λx hx hc=>by
   obtain⟨j,hj⟩:=List.getElem?_of_mem hx;obtain⟨x1,x2⟩:=x;dsimp only at hc;subst hc;exact VQ j x2 hj
  have e0:aeH xs k=none:=by
   unfold aeH;rw[adl,ade];intro x hx hc;exact nk x hx (of_decide_eq_true hc)
  refine Zv (acJ (Zv (wpAny_updateDictKeys ho hdat (Zy ?_) (by rw[size_of_entries hl];exact hz) (by simp))));have hs:=aaJ s.heap a (Obj.mapDictKeys λx=>x.push {hash:=(cw prog w).hash k,key:=.ref b,val:=r});have hg:=aa_ (h:=s.heap) (Obj.mapDictKeys λx=>x.push {hash:=(cw prog w).hash k,key:=.ref b,val:=r}) ho (by
   obtain⟨c,d,dt,sl⟩:=o;cases hdat;obtain⟨h1,_⟩:=he;cases h1;rfl)
  have Wn:storedH xs k b r=xs++[(k,b,r)]:=by unfold storedH;rw[e0];rfl
  refine h2 e0 _ ⟨_,es.push {hash:=(cw prog w).hash k,key:=.ref b,val:=r},ep+1,hg,?_,?_,?_,?_,?_⟩ hs
  ·obtain⟨c,d,dt,sl⟩:=o;cases hdat;exact he
  ·obtain⟨c,d,dt,sl⟩:=o;cases hdat;rfl
  ·rw[Wn,Array.toList_push,hl,aae];rfl
  ·rw[Wn];intro x hx;rcases aab.mp hx with hx|hx
   ·exact (cw prog w).keeps (hi x hx) ho hdat hs
   ·rw[ZV] at hx;subst hx;exact (cw prog w).keeps hk ho hdat hs
  ·rw[Wn,aae,abH];refine⟨hn,aaA _ _,λx hx y hy=>?_⟩;rw[ZR,abj,ZV] at hy;subst hy;obtain⟨z,hz,rfl⟩:=aal.mp hx;exact nk z hz
 ·have e1:aeH xs k=some p:=by
   unfold aeH;have hm:(k,p)∈xs:=aan hj;cases hf:xs.find? (λx=>decide (x.1=k)) with
   |none=>
    rw[ade] at hf;exact absurd (hG rfl) (hf _ hm)
   |some y=>
    have y0:=List.find?_some hf;have y1:y.1=k:=of_decide_eq_true y0;have y2:=List.mem_of_find?_eq_some hf;rw[←xM hn _ hm _ y2 y1.symm];rfl
  refine Zv (adx ho hdat ?_);rw[entry_at hl,hj];exact Zv (acJ (Zy (h1 p e1)))
def yI (lo:(a==abu)=false):MeetsIn prog w (Builtin.«dict.setdefault» ⟨[.ref a,.ref b,r],[]⟩) λA R s=>(cw prog w).room A.in1/\∃k xs,(cw prog w).is s.heap k b/\s.heap.DictOfH (cw prog w) a xs/\xs.length<=ZH/\
  (∀p,aeH xs k=some p->R (.ok (.ret p.2)) {s with toks:=s.toks+GC (.tup k)})/\
  (aeH xs k=none->∀h',h'.DictOfH (cw prog w) a (storedH xs k b r)->abp a s.heap h'->R (.ok (.ret r)) {s with heap:=h',toks:=s.toks+GC (.tup k)}):=by
 rintro A R s ⟨hr,k,xs,hk,hd,hz,h1,h2⟩;unfold Builtin.«dict.setdefault»;refine Zv ?_;unfold Builtin.Dict.keyAndDefault;refine Zv (wpAny_notOrdered_dict hd.typeIs (Zy ?_));dsimp only;rw[hU (by rw[lo];exact ZE)];exact Zv (SN hr hk hd hz (λp e=>Zy (h1 p e)) λe h' d' hs=>Zy (h2 e h' d' hs))
end
end L2
namespace L2
section
variable {d:V}{r:ZF}{k:List U}{A:aar}
theorem F6 (k:List U){xs:List (List U×ZY×ZF)}(p:ad0 Pj es xs):jk es k=none↔aeH xs k=none:=by
 have:=(mz k p).isSome_eq;rw[Option.isSome_map] at this;cases h1:jk es k<;>cases h2:aeH xs k<;>rw[h1,h2] at this<;>simp at this<;>simp
theorem JK (hu:A.units+64<abn)(I:aN X pins σ H s)(g:gG H a es)(kb:B1 H k b)(hz:es.length<=ZH)(rd:bA d r)(h1:∀v w' s',jk es k=some v->aN X pins σ H s'->bA v w'->Q w' s')(h2:jk es k=none->∀ep s',aN X pins σ (cE H a (DN a ep (B2 es k b d))) s'->Q r s') :
  Z1 (Z8 X.prog X.w) A (call (.builtin "dict.setdefault") [.ref a,.ref b,r]) Q E s:=by
 obtain⟨xs,rel,dd⟩:=g.of I.hok;refine call_meetsIn adY dd.typeIs PySem.F.entry_dict_setdefault (PySem.F.args_dict_setdefault_3 _ _ _) (yI (g.lo I.hok)) ⟨HA hu,k,xs,kb.tk I.hok,dd,by rw[←Paired.length rel];exact hz,λp e=>?_,λe h' UD hs=>?_⟩
 ·have:=mz k rel;rw[e] at this;cases hv:jk es k with
  |none=>rw[hv] at this;exact this.elim
  |some v=>rw[hv] at this;exact h1 v _ _ hv (I.tok _) this
 ·obtain⟨q,ds,ep,hq,e2,e3,e4,_,_⟩:=UD;refine h2 ((F6 k rel).mpr e) ep _ ?_;exact DB I g.mut hs ⟨q,hq⟩ ⟨⟨g.lo I.hok,q,ds,_,hq,e2,e3,Hz k rd rel,e4⟩,⟨q,hq⟩,λg1 g2 ⟨l,o,ds,xs,z1,z2⟩ kp=>⟨l,o,ds,xs,kp _ z1,z2⟩⟩
end
def SO (td ty tx:TE):TE:=λσ H Q=>td σ H λx H1=>∃a,x=.ref a/\RZ H1 a/\ty σ H1 λy H2=>tx σ H2 λz H3=>∃es k b,gG H3 a es/\y=.ref b/\B1 H3 k b/\es.length<=ZH/\(∀v,jk es k=some v->Q v H3)/\(jk es k=none->∀ep,Q z (cE H3 a (DN a ep (B2 es k b z))))
section
variable {o e f:abd}{jc cpos:Pos}{td ty tx:TE}
theorem LW (hu:X.A.units+64<abn)(ho:PE X o td)(he:PE X e ty)(hf:PE X f tx)(m:M2 X o "setdefault" jc e f cpos):PE X (.Call (.Attribute o "setdefault" jc) [e,f] [] cpos) (SO td ty tx):=by
 intro pins s σ H Q I h;refine wpAny_Call_method m.base m.few m.line PySem.F.plainAttrs_dict adY PySem.F.type_dict_setdefault (eK (ho pins s σ H _ I h) λu s1 ⟨x,H1,I1,rx,a,ex,d,q1⟩=>?_);subst ex;obtain rfl:u=Value.ref a:=rx;obtain⟨t1,t2⟩:=R0 I1 d;refine⟨t1,t2,?_⟩;rw[m.trees];refine Calls.callWith_builtin rfl (Calls.evalArgs_plain (ael (eK (he pins s1 σ H1 _ I1 q1) λiv s2 ⟨y,H2,I2,ry,q2⟩=>
  ael (eK (hf pins s2 σ H2 _ I2 q2) λfv s3 ⟨z,H3,I3,rz,es,k,b,g,ey,kb,hz,q3,q4⟩=>Calls.spliced_nil ?_))))
 subst ey;cases ry;exact JK hu I3 g kb hz rz (λv w' s' hv I' rv=>⟨v,H3,I',rv,q3 v hv⟩) λhv ep s' I'=>⟨z,_,I',rz,q4 hv ep⟩
end
end L2
namespace L2
def jV (P:U->V->List ZY->Prop):List U->List V->List ZY->Prop
 | [],vs,L=>vs=[]/\L=[]
 |u::us,vs,L=>∃v r L1 L2,vs=v::r/\L=L1++L2/\P u v L1/\jV P us r L2
def Dp (K:ZD)(H:Hp)(A:ZY->Prop):Nat->U->V->List ZY->Prop
 |0,u,v,L=>∃a us xs,v=.ref a/\u=.lst us/\L=[a]/\H a=some (.lst xs)/\us.length<=ZH/\aO K H A us xs
 |n+1,u,v,L=>∃a us es M,v=.ref a/\u=.dct (es.map λp=>.tup p.1) us/\L=a::M/\gG H a es/\(es=[]->H a=some (.dK []))/\us.length<=ZH/\jV (Dp K H A n) us (es.map (·.2.2)) M
section
variable {A':ZY->Prop}
theorem jV.imp {P P':U->V->List ZY->Prop}:∀{us:List U} {vs:List V} {L:List ZY},(∀u v L',(∀b∈L',b∈L)->P u v L'->P' u v L')->jV P us vs L->jV P' us vs L
 | [],_,_,_,h=>h
 |u::us,vs,L,f,h=>by
  obtain⟨v,r,L1,L2,e1,e2,p,q⟩:=h;subst e2;exact⟨v,r,L1,L2,e1,rfl,f u v L1 (λb hb=>ZZ _ hb) p,jV.imp (λu v L' s=>f u v L' λb hb=>ZO _ (s b hb)) q⟩
theorem jV.length {P:U->V->List ZY->Prop}:∀{us:List U} {vs:List V} {L:List ZY},jV P us vs L->us.length=vs.length
 | [],_,_,⟨e,_⟩=>by subst e;rfl
 |u::us,_,_,⟨v,r,_,_,e,_,_,q⟩=>by subst e;rw[ZM,ZM,q.length]
theorem jV.mem {P:U->V->List ZY->Prop}:∀{us:List U} {vs:List V} {L:List ZY} {b:ZY},jV P us vs L->b∈L->∃u v L',P u v L'/\b∈L'
 | [],_,_,b,⟨_,e⟩,h=>by subst e;cases h
 |u::us,_,_,b,⟨v,r,L1,L2,_,e,p,q⟩,h=>by
  subst e;rcases aab.mp h with h|h
  ·exact⟨u,v,L1,p,h⟩
  ·exact q.mem h
theorem gG.mu (g:gG H a es):Mu (H a):=by
 rcases g.ob with⟨ep,q⟩|⟨_,q⟩<;>(rw[q];trivial)
theorem Dp.mu:∀{n:Nat} {u:U} {v:V} {L:List ZY} {b:ZY},Dp K H A n u v L->b∈L->Mu (H b)
 |0,u,v,L,b,h,hb=>by
  obtain⟨a,us,xs,_,_,e,q,_⟩:=h;subst e;rw[ZV] at hb;subst hb;rw[q];trivial
 |n+1,u,v,L,b,h,hb=>by
  obtain⟨a,us,es,M,_,_,e,g,_,_,al⟩:=h;subst e;rcases ZK.mp hb with rfl|hb
  ·exact g.mu
  ·obtain⟨u',v',L',p,hb⟩:=al.mem hb;exact Dp.mu p hb
def gG.re (g:gG H a es)(ka:H' a=H a)(t:∀b ys,H b=some (.tup ys)->H' b=some (.tup ys)):gG H' a es:=⟨by rw[ka];exact g.ob,g.nd,λe he=>(g.key e he).to t⟩
structure BI (A A':ZY->Prop)(H H':Hp):Prop where
 mu:∀b,A b->Mu (H b)
 ex:fB A H H'
 nw:∀b,A' b->A b\/H b=none
def BI.tup (g:BI A A' H H'):∀b ys,H b=some (.tup ys)->H' b=some (.tup ys):=λb ys q=>g.ex b _ (λz=>by have:=g.mu b z;rw[q] at this;exact this) q
theorem Dp.re (g:BI A A' H H'):∀{n:Nat} {u:U} {v:V} {L:List ZY},(∀b∈L,H' b=H b)->Dp K H A n u v L->Dp K H' A' n u v L
 |0,u,v,L,k,h=>by
  obtain⟨a,us,xs,e1,e2,e,q,l,r⟩:=h;subst e;exact⟨a,us,xs,e1,e2,rfl,by rw[k a ZA];exact q,l,r.re g.mu g.ex g.nw⟩
 |n+1,u,v,L,k,h=>by
  obtain⟨a,us,es,M,e1,e2,e,d,z,l,al⟩:=h;subst e;have ka:=k a ZA;exact⟨a,us,es,M,e1,e2,rfl,d.re ka g.tup,(by rw[ka];exact z),l,al.imp λu v L' s p=>Dp.re g (λb hb=>k b (ZC _ (s b hb))) p⟩
theorem jV.rps {P:U->V->List ZY->Prop}:∀{us:List U} {vs:List V} {L:List ZY},(∀u v L',(∀b∈L',b∈L)->P u v L'->Rp K H A' u v)->jV P us vs L->aO K H A' us vs
 | [],_,_,_,⟨e,_⟩=>by subst e;exact aO.nil
 |u::us,_,_,f,⟨v,r,L1,L2,e1,e2,p,q⟩=>by
  subst e1 e2;exact aO.cons (f u v L1 (λb hb=>ZZ _ hb) p) (q.rps λu v L' s=>f u v L' λb hb=>ZO _ (s b hb))
theorem gG.at (d:gG H a es)(z:es=[]->H a=some (.dK [])):Fv H a (es.map λp=>.tup p.1) (es.map (·.2.2)):=by
 by_cases hz:es=[]
 ·subst hz;exact .inl ⟨[],z rfl,rfl,rfl⟩
 ·exact .inr ⟨es,hz,d,rfl,rfl⟩
theorem Dp.rp:∀{n:Nat} {u:U} {v:V} {L:List ZY},(∀b,A' b->A b/\b∉L)->Dp K H A n u v L->Rp K H A' u v
 |0,u,v,L,k,h=>by
  obtain⟨a,us,xs,e1,e2,e,q,l,r⟩:=h;subst e e2;unfold Rp;exact⟨a,xs,e1,λz=>(k a z).2 ZA,q,l,r.mono λb z=>(k b z).1⟩
 |n+1,u,v,L,k,h=>by
  obtain⟨a,us,es,M,e1,e2,e,d,z,l,al⟩:=h;subst e e2;unfold Rp;exact⟨a,es.map (·.2.2),e1,λy=>(k a y).2 ZA,d.at z,l,al.rps λu v L' s p=>Dp.rp (λb y=>⟨(k b y).1,λw=>(k b y).2 (ZC _ (s b w))⟩) p⟩
structure At (K:ZD)(H:Hp)(A:ZY->Prop)(n:Nat)(v:V)(L:List ZY)(m:Nat)(u':U)(v':V)(L':List ZY)(F:U->U):Prop where
 sub:∀b∈L',b∈L
 nod:L.Nodup
 nod':L'.Nodup
 dp:Dp K H A m u' v' L'
 all:Dp K H A n (F u') v L
 put:∀H' A' w L3,BI A A' H H'->(∀b∈L,b∉L'->H' b=H b)->Dp K H' A' m w v' L3->L3.Nodup->(∀b∈L',b∈L3)->(∀b∈L3,b∈L'\/H b=none)->∃L4,Dp K H' A' n (F w) v L4/\L4.Nodup/\(∀b∈L,b∈L4)/\(∀b∈L3,b∈L4)/\(∀b∈L4,b∈L3\/b∈L)
def At.root {u:U}(h:Dp K H A n u v L)(nd:L.Nodup):At K H A n v L n u v L id:=⟨λb h=>h,nd,nd,h,h,λH' A' w L3 g k d n3 s1 s2=>⟨L3,d,n3,s1,λb hb=>hb,λb hb=>.inl hb⟩⟩
def Dp.ne {u:U}(h:Dp K H A n u v L)(hb:b∈L):H b≠none:=λe=>by
 have:=h.mu hb;rw[e] at this;exact this
theorem BI.trans {A2:ZY->Prop}(g:BI A A' H H')(un:∀b,H' b=none->H b=none)(g':BI A' A2 H' H2):BI A A2 H H2:=
 ⟨g.mu,λb o nb e=>g'.ex b o (λz=>by rcases g.nw b z with y|y;exact nb y;rw[e] at y;cases y) (g.ex b o nb e),λb z=>by
  rcases g'.nw b z with y|y
  ·exact g.nw b y
  ·exact .inr (un b y)⟩
theorem At.set {L3:List ZY}{w:U}(h:At K H A n v L m u' v' L' F)(g:BI A A' H H')(k:∀b∈L,b∉L'->H' b=H b)(un:∀b,H' b=none->H b=none)(d:Dp K H' A' m w v' L3)(n3:L3.Nodup)(s1:∀b∈L',b∈L3)(s2:∀b∈L3,b∈L'\/H b=none):∃L4,At K H' A' n v L4 m w v' L3 F/\(∀b∈L,b∈L4)/\(∀b∈L4,b∈L3\/b∈L):=by
 obtain⟨L4,d4,n4,z1,z3,z2⟩:=h.put H' A' w L3 g k d n3 s1 s2;refine⟨L4,⟨z3,n4,n3,d,d4,λH2 A2 w2 L5 g2 k2 d5 n5 t1 t2=>?_⟩,z1,z2⟩;obtain⟨L6,d6,n6,y1,y3,y2⟩:=h.put H2 A2 w2 L5 (g.trans un g2) (λb hb nb=>by
   rw[k2 b (z1 b hb) (λy=>by
    rcases s2 b y with y|y
    ·exact nb y
    ·exact h.all.ne hb y),k b hb nb]) d5 n5 (λb hb=>t1 b (s1 b hb)) (λb hb=>by
   rcases t2 b hb with y|y
   ·exact s2 b y
   ·exact .inr (un b y))
 refine⟨L6,d6,n6,λb hb=>?_,y3,λb hb=>(y2 b hb).imp id (z1 b)⟩;rcases z2 b hb with y|y
 ·exact y3 b (t1 b y)
 ·exact y1 b y
def At.keep (h:At K H A n v L m u' v' L' F)(g:BI A A' H H')(k:∀b∈L,H' b=H b)(un:∀b,H' b=none->H b=none):At K H' A' n v L m u' v' L' F:=
 ⟨h.sub,h.nod,h.nod',h.dp.re g λb hb=>k b (h.sub b hb),h.all.re g k,λH2 A2 w2 L5 g2 k2 d5 n5 t1 t2=>h.put H2 A2 w2 L5 (g.trans un g2) (λb hb nb=>by rw[k2 b hb nb,k b hb]) d5 n5 t1 λb hb=>(t2 b hb).imp id (un b)⟩
theorem tU {k w:U}:∀{ks us:List U},k∉ks->ks.length=us.length->aba (λk' u=>if k'=k then w else u) ks us=us
 | [],[],_,_=>rfl
 |x::ks,y::us,h,l=>by
  rw[abK,hU (λe=>h (by rw[e];exact ZA)),tU (λz=>h (ZC _ z)) (by simpa using l)]
noncomputable abbrev jW (es:List (List U×ZY×V)):List U:=es.map λp=>.tup p.1
def yJ {k:List U}:U.tup k∈jW es↔k∈es.map (·.1):=by
 rw[aal,aal];constructor
 ·rintro⟨p,hp,e⟩;exact⟨p,hp,pH.mp e⟩
 ·rintro⟨p,hp,e⟩;exact⟨p,hp,by rw[e]⟩
theorem jV.find {m:Nat}{k:List U}{x:V}:∀{es:List (List U×ZY×V)} {us:List U} {M:List ZY},jV (Dp K H A m) us (es.map (·.2.2)) M->(es.map (·.1)).Nodup->M.Nodup->jk es k=some x->
  ∃u' M',gQ (jW es) us (.tup k)=some u'/\k∈es.map (·.1)/\aba (λk' u=>if k'=.tup k then u' else u) (jW es) us=us/\(∀b∈M',b∈M)/\M'.Nodup/\Dp K H A m u' x M' /\
   ∀H' A' w M3,BI A A' H H'->(∀b∈M,b∉M'->H' b=H b)->Dp K H' A' m w x M3->M3.Nodup->(∀b∈M',b∈M3)->(∀b∈M3,b∈M'\/H b=none)->
    ∃M4,jV (Dp K H' A' m) (aba (λk' u=>if k'=.tup k then w else u) (jW es) us) (es.map (·.2.2)) M4/\M4.Nodup/\(∀b∈M,b∈M4)/\(∀b∈M3,b∈M4)/\(∀b∈M4,b∈M3\/b∈M)
 | [],_,_,_,_,_,e=>by cases e
 |e::es,us,M,al,nd,nM,hv=>by
  cases us with
  |nil=>obtain⟨z,_⟩:=al;cases z
  |cons u us=>
   obtain⟨v,r,L1,L2,e1,e2,p,q⟩:=al;rw[ZR] at e1;cases e1;subst e2;rw[ZR] at nd;obtain⟨UH,nd2⟩:=aaS.mp nd;obtain⟨n1,n2,n3⟩:=abH.mp nM;have ql:(jW es).length=us.length:=by rw[q.length,Zz,Zz]
   unfold jk at hv;rw[aa2] at hv;unfold jW;rw[ZR];unfold gQ;by_cases c:e.1=k
   ·rw[hG c] at hv;cases hv;have nk:U.tup k∉jW es:=λz=>UH (by rw[c];exact yJ.mp z);refine⟨u,L1,by rw[hV (by rw[c])],by rw[←c];exact ZA,by rw[abK,ite_self];exact congrArg _ (tU nk ql),λb hb=>ZZ _ hb,n1,p,λH' A' w M3 g kk d5 n5 t1 t2=>?_⟩;rw[abK,hV (by rw[c]),tU nk ql];have dj:∀b∈L2,b∉L1:=λb hb z=>n3 b z b hb rfl;refine⟨M3++L2,⟨_,_,M3,L2,rfl,rfl,d5,q.imp λu v L' s y=>y.re g λb hb=>kk b (ZO _ (s b hb)) (dj b (s b hb))⟩,?_,λb hb=>?_,λb hb=>ZZ _ hb,λb hb=>?_⟩
    ·refine abH.mpr ⟨n5,n2,λa ha b hb eq=>?_⟩;subst eq;rcases t2 a ha with y|y
     ·exact dj a hb y
     ·obtain⟨_,_,_,z1,z2⟩:=q.mem hb;exact z1.ne z2 y
    ·rcases aab.mp hb with y|y
     ·exact ZZ _ (t1 b y)
     ·exact ZO _ y
    ·exact (aab.mp hb).imp id (λy=>ZO _ y)
   ·rw[hJ c] at hv;obtain⟨u',M',y1,y2,y3,y4,y5,y6,y7⟩:=jV.find q nd2 n2 hv;have c':¬U.tup e.1=U.tup k:=λz=>c (pH.mp z);have dj:∀b∈L1,b∉L2:=λb hb z=>n3 b hb b z rfl;refine⟨u',M',by rw[hU c'];exact y1,ZC _ y2,by rw[abK,hU c',y3],λb hb=>ZO _ (y4 b hb),y5,y6,λH' A' w M3 g kk d5 n5 t1 t2=>?_⟩;obtain⟨M4,z1,z2,z3,z4,z5⟩:=y7 H' A' w M3 g (λb hb=>kk b (ZO _ hb)) d5 n5 t1 t2;rw[abK,hU c'];refine⟨L1++M4,⟨_,_,L1,M4,rfl,rfl,p.re g λb hb=>kk b (ZZ _ hb) λz=>dj b hb (y4 b z),z1⟩,?_,λb hb=>?_,λb hb=>ZO _ (z4 b hb),λb hb=>?_⟩
    ·refine abH.mpr ⟨n1,z2,λa ha b hb eq=>?_⟩;subst eq;rcases z5 a hb with y|y
     ·rcases t2 a y with x|x
      ·exact dj a ha (y4 a x)
      ·exact p.ne ha x
     ·exact dj a ha y
    ·rcases aab.mp hb with y|y
     ·exact ZZ _ y
     ·exact ZO _ (z3 b y)
    ·rcases aab.mp hb with y|y
     ·exact .inr (ZZ _ y)
     ·exact (z5 b y).imp id λz=>ZO _ z
theorem At.child {M:List ZY}{k:List U}{x:V}(h:At K H A n v L (m+1) (.dct (jW es) us) (.ref a) (a::M) F)(d:gG H a es)(z:es=[]->H a=some (.dK []))(l:us.length<=ZH)(al:jV (Dp K H A m) us (es.map (·.2.2)) M)(hv:jk es k=some x) :
  ∃u' L2,gQ (jW es) us (.tup k)=some u'/\F (.dct (mK (jW es) (.tup k)) (l7 (jW es) us (.tup k) u'))=F (.dct (jW es) us)/\At K H A n v L m u' x L2 (λw=>F (.dct (mK (jW es) (.tup k)) (l7 (jW es) us (.tup k) w))):=by
 obtain⟨na,nM⟩:=aaS.mp h.nod';obtain⟨u',M',y1,y2,y3,y4,y5,y6,y7⟩:=al.find d.nd nM hv;have hk:U.tup k∈jW es:=yJ.mpr y2;have e1:mK (jW es) (.tup k)=jW es:=hV hk;have e2:∀w,l7 (jW es) us (.tup k) w=aba (λk' u=>if k'=.tup k then w else u) (jW es) us:=λw=>hV hk;have e3:F (.dct (mK (jW es) (.tup k)) (l7 (jW es) us (.tup k) u'))=F (.dct (jW es) us):=by rw[e1,e2,y3]
 refine⟨u',M',y1,e3,⟨λb hb=>h.sub b (ZC _ (y4 b hb)),h.nod,y5,y6,by rw[e3];exact h.all,λH' A' w L3 g kk d5 n5 t1 t2=>?_⟩⟩;have ka:H' a=H a:=kk a (h.sub a ZA) λq=>na (y4 a q);obtain⟨M4,z1,z2,z3,z4,z5⟩:=y7 H' A' w L3 g (λb hb nb=>kk b (h.sub b (ZC _ hb)) nb) d5 n5 t1 t2;have n4:(a::M4).Nodup:=aaS.mpr ⟨λq=>by
  rcases z5 a q with y|y
  ·rcases t2 a y with x|x
   ·exact na (y4 a x)
   ·exact h.dp.ne ZA x
  ·exact na y,z2⟩
 obtain⟨L4,w1,w2,w3,w4,w5⟩:=h.put H' A' (.dct (jW es) (l7 (jW es) us (.tup k) w)) (a::M4) g (λb hb nb=>kk b hb λq=>nb (ZC _ (y4 b q)))
  ⟨a,_,es,M4,rfl,rfl,rfl,d.re ka g.tup,(by rw[ka];exact z),by rw[e2,aci];lia,by rw[e2];exact z1⟩ n4 (λb hb=>by
   rcases ZK.mp hb with rfl|hb
   ·exact ZA
   ·exact ZC _ (z3 b hb)) (λb hb=>by
   rcases ZK.mp hb with rfl|hb
   ·exact .inl ZA
   ·rcases z5 b hb with y|y
    ·exact (t2 b y).imp (λq=>ZC _ (y4 b q)) id
    ·exact .inl (ZC _ y))
 refine⟨L4,by rw[e1];exact w1,w2,w3,λb hb=>w4 b (ZC _ (z4 b hb)),λb hb=>?_⟩;rcases w5 b hb with y|y
 ·rcases ZK.mp y with rfl|y
  ·exact .inr (h.sub b ZA)
  ·rcases z5 b y with x|x
   ·exact .inl x
   ·exact .inr (h.sub b (ZC _ x))
 ·exact .inr y
theorem jV.snoc {P:U->V->List ZY->Prop}{u:U}(p:P u v L'):∀{us:List U} {vs:List V} {L:List ZY},jV P us vs L->jV P (us++[u]) (vs++[v]) (L++L')
 | [],_,_,⟨e1,e2⟩=>by subst e1 e2;exact⟨v,[],L',[],rfl,(aad _).symm,p,rfl,rfl⟩
 |w::us,_,_,⟨x,r,L1,L2,e1,e2,q,al⟩=>by subst e1 e2;exact⟨x,r++[v],L1,L2++L',rfl,aac _ _ _,q,al.snoc p⟩
theorem JL {k:List U}(h:jk es k=none):k∉es.map (·.1):=λz=>by
 obtain⟨e,he,rfl⟩:=aal.mp z;unfold jk at h;rw[adl,ade] at h;exact h e he (hG rfl)
def F7 {k:List U}(h:jk es k=none):jk (es++[(k,b,v)]) k=some v:=by
 unfold jk at h ⊢;rw[adl] at h;rw[List.find?_append,h];show Option.map _ (List.find? _ _)=_;rw[aa2,hG rfl];rfl
def F8 {k w u:U}(h:k∉ks)(l:ks.length=us.length):aba (λk' u=>if k'=k then w else u) (ks++[k]) (us++[u])=us++[w]:=by
 rw[List.zipWith_append l,tU h l];show _++[if k=k then w else u]=_;rw[hV rfl]
theorem AQ {k:U}:∀{ks us:List U},k∉ks->gQ ks us k=none
 | [],us,_=>by unfold gQ;rfl
 |x::ks,[],_=>by unfold gQ;rfl
 |x::ks,y::us,h=>by unfold gQ;rw[hU (λe=>h (by rw[e];exact ZA))];exact AQ λz=>h (ZC _ z)
theorem xN {k u:U}:∀{ks us:List U},k∉ks->ks.length=us.length->gQ (ks++[k]) (us++[u]) k=some u
 | [],[],_,_=>by show gQ [k] [u] k=_;unfold gQ;rw[hV rfl]
 |x::ks,y::us,h,l=>by show gQ (x::(ks++[k])) (y::(us++[u])) k=_;unfold gQ;rw[hU (λe=>h (by rw[e];exact ZA))];exact xN (λz=>h (ZC _ z)) (by simpa using l)
theorem At.new {H0:Hp}{c:ZY}{M:List ZY}{k:List U}{u0:U}(h:At K H0 A n v L (m+1) (.dct (jW es) us) (.ref a) (a::M) F)(d:gG H0 a es)(l:us.length<ZH)(al:jV (Dp K H0 A m) us (es.map (·.2.2)) M)(mu:∀b,A b->Mu (H0 b))(aa:∀b∈L,A b)(s0:aR H0 H)(nc:H0 c=none)(kb:B1 H k b)(hv:jk es k=none)(h':H'=cE H a (DN a ep (B2 es k b (.ref c))))(dc:∀H',H' c=H c->(∀b,Mu (H b)\/H' b=H b)->Dp K H' (λb=>A b\/b=c) m u0 (.ref c) [c]) :
  ∃L4 L2,gQ (jW es) us (.tup k)=none/\At K H' (λb=>A b\/b=c) n v L4 m u0 (.ref c) L2 (λw=>F (.dct (mK (jW es) (.tup k)) (l7 (jW es) us (.tup k) w)))/\(∀b∈L,b∈L4)/\(∀b∈L4,b∈L\/b=c)/\BI A (λb=>A b\/b=c) H0 H':=by
 have nk:=JL hv;have T6:U.tup k∉jW es:=λz=>nk (yJ.mp z);have ll:(jW es).length=us.length:=by rw[al.length,Zz,Zz]
 have pe:B2 es k b (.ref c)=es++[(k,b,.ref c)]:=by unfold B2;rw[hv];rfl
 rw[pe] at h';have aA:A a:=aa a (h.sub a ZA);have ha:H' a=some (DN a ep (es++[(k,b,.ref c)])):=by rw[h'];unfold cE;rw[hV rfl]
 have hb:∀b,b≠a->H' b=H b:=λb nb=>by rw[h'];unfold cE;rw[hU nb]
 have ca:c≠a:=λe=>by
  have:=mu a aA;rw[←e,nc] at this;exact this
 have cM:c∉M:=λz=>h.all.ne (h.sub c (ZC _ z)) nc;obtain⟨na,nM⟩:=aaS.mp h.nod';have g:BI A (λb=>A b\/b=c) H0 H':=⟨mu,λb o nb e=>by rw[hb b (λz=>nb (z▸aA))];exact s0 b o e,λb z=>z.imp id λe=>by rw[e];exact nc⟩;have un:∀b,H' b=none->H0 b=none:=λx e=>by
  by_cases xa:x=a
  ·rw[xa,ha] at e;cases e
  ·rw[hb x xa] at e;cases q:H0 x with
   |none=>rfl
   |some o=>rw[s0 x o q] at e;cases e
 have kL:∀b∈L,b≠a->H' b=H0 b:=λx hx xa=>by
  rw[hb x xa];cases q:H0 x with
  |none=>exact absurd q (h.all.ne hx)
  |some o=>exact s0 x o q
 have d2:gG H' a (es++[(k,b,.ref c)]):=⟨.inl ⟨ep,ha⟩,by
  rw[aae,abH];refine⟨d.nd,aaA _ _,λx hx y hy=>?_⟩;rw[ZR,abj,ZV] at hy;subst hy;exact λe=>nk (e▸hx),λe he=>by
  rcases aab.mp he with he|he
  ·exact (d.key e he).to g.tup
  ·rw[ZV] at he;subst he;refine kb.to λx ys q=>?_;rw[hb x (λz=>?_)]
   ·exact q
   ·have:=mu a aA;obtain⟨o,e⟩:=this.ex;rw[e] at this;rw[z,s0 a o e] at q;cases q;exact this⟩
 have em:(es++[(k,b,V.ref c)]).map (·.2.2)=es.map (·.2.2)++[.ref c]:=by rw[aae];rfl
 have ek:jW (es++[(k,b,V.ref c)])=jW es++[.tup k]:=by unfold jW;rw[aae];rfl
 have UJ:jV (Dp K H' (λb=>A b\/b=c) m) (us++[u0]) ((es++[(k,b,V.ref c)]).map (·.2.2)) (M++[c]):=by
  rw[em];refine jV.snoc (dc H' (hb c ca) λx=>?_) (al.imp λu v L' s p=>p.re g λx hx=>kL x (h.sub x (ZC _ (s x hx))) λe=>na (e▸s x hx));by_cases xa:x=a
  ·refine .inl ?_;have:=mu a aA;obtain⟨o,e⟩:=this.ex;rw[xa,s0 a o e,←e];exact this
  ·exact .inr (hb x xa)
 obtain⟨L4,h4,z1,z2⟩:=h.set (w:=.dct (jW (es++[(k,b,V.ref c)])) (us++[u0])) (L3:=a::(M++[c])) g (λx hx nx=>kL x hx λe=>nx (by rw[e];exact ZA)) un
  ⟨a,_,_,_,rfl,rfl,rfl,d2,(λe=>absurd e (by simp)),by rw[ZJ];exact l,UJ⟩
  (aaS.mpr ⟨λz=>by
   rcases aab.mp z with z|z
   ·exact na z
   ·rw[ZV] at z;exact ca z.symm,abH.mpr ⟨nM,aaA _ _,λx hx y hy e=>by
    rw[ZV] at hy;exact cM (hy▸e▸hx)⟩⟩)
  (λx hx=>by
   rcases ZK.mp hx with hx|hx
   ·rw[hx];exact ZA
   ·exact ZC _ (ZZ _ hx))
  (λx hx=>by
   rcases ZK.mp hx with hx|hx
   ·rw[hx];exact .inl ZA
   ·rcases aab.mp hx with hx|hx
    ·exact .inl (ZC _ hx)
    ·rw[ZV] at hx;rw[hx];exact .inr nc)
 obtain⟨u',L2,y1,y2,y3⟩:=h4.child d2 (λe=>absurd e (by simp)) (by rw[ZJ];exact l) UJ (F7 hv);rw[ek,xN T6 ll] at y1;cases y1;have e1:mK (jW es) (.tup k)=jW es++[.tup k]:=hU T6;have e2:∀w,l7 (jW es) us (.tup k) w=us++[w]:=λw=>hU T6;have e3:(λw=>F (.dct (mK (jW (es++[(k,b,V.ref c)])) (.tup k)) (l7 (jW (es++[(k,b,V.ref c)])) (us++[u0]) (.tup k) w)))=(λw=>F (.dct (mK (jW es) (.tup k)) (l7 (jW es) us (.tup k) w))):=by
  funext w;have m:U.tup k∈jW es++[.tup k]:=ZO _ ZA;rw[ek,show mK (jW es++[.tup k]) (.tup k)=jW es++[.tup k] from hV m,show l7 (jW es++[.tup k]) (us++[u0]) (.tup k) w=_ from hV m,F8 T6 ll,e1,e2]
 rw[e3] at y3;refine⟨L4,L2,AQ T6,y3,z1,λx hx=>?_,g⟩;rcases z2 x hx with y|y
 ·rcases ZK.mp y with y|y
  ·rw[y];exact .inl (h.sub a ZA)
  ·rcases aab.mp y with y|y
   ·exact .inl (h.sub x (ZC _ y))
   ·rw[ZV] at y;exact .inr y
 ·exact .inl y
end
end L2
namespace L2
open Classical in
noncomputable def Pkg.hx (Z:Pkg)(H:Hp)(L:List ZY):Pkg:=⟨λb=>Z.A0 b\/b∈L,λb=>if b∈L then H b else Z.B b,Z.a0⟩
section
variable {A':ZY->Prop}{ρ':Ev}{σ':St}{u:U}
def sD (h:b∈L):(Z.hx H L).B b=H b:=hV h
def cP (h:b∉L):(Z.hx H L).B b=Z.B b:=hU h
structure nQ (K:ZD)(G:Gm)(Z:Pkg)(A:ZY->Prop)(ρ:Ev)(σ:St)(H:Hp)(i n:Nat)(u:U)(v:V)(L:List ZY):Prop where
 at_:σ[i]? = some (some v)
 nod:L.Nodup
 fr:∀b∈L,Z.B b=none/\¬Z.A0 b
 dp:Dp K H A n u v L
 rel:cS K G (Z.hx H L) A (ρ.set i none) σ H
def nQ.inA (h:nQ K G Z A ρ σ H i n u v L)(hb:b∈L):A b:=h.rel.sup b (.inr hb)
def LX (h:∀b∈L,H' b=H b):Z.hx H' L=Z.hx H L:=by
 unfold Pkg.hx;congr 1;funext b;by_cases c:b∈L
 ·rw[hV c,hV c,h b c]
 ·rw[hU c,hU c]
theorem nQ.kept (h:nQ K G Z A ρ σ H i n u v L)(s:aR H H'):∀b∈L,H' b=H b:=λb hb=>by
 cases q:H b with
 |none=>exact absurd q (h.dp.ne hb)
 |some o=>exact s b o q
def vn (m:∀b,A b->Mu (H b))(s:aR H H'):BI A A H H':=⟨m,fB.same s,λb z=>.inl z⟩
theorem yK (s:aR H H'):∀b,H' b=none->H b=none:=λb e=>by
 cases q:H b with
 |none=>rfl
 |some o=>rw[s b o q] at e;cases e
def nQ.same (h:nQ K G Z A ρ σ H i n u v L)(s:aR H H'):nQ K G Z A ρ σ H' i n u v L:=
 ⟨h.at_,h.nod,h.fr,h.dp.re (vn h.rel.mu s) (h.kept s),by rw[LX (h.kept s)];exact h.rel.same s⟩
theorem nQ.put (h:nQ K G Z A ρ σ H i n u v L)(g:BI A A' H H')(aa:∀b,A b->A' b)(k:∀b,b∉L'->H b≠none->H' b=H b)(nd:L'.Nodup)(s1:∀b∈L,b∈L')(s2:∀b∈L',b∈L\/H b=none)(ia:∀b∈L',A' b)(oa:∀b,A' b->A b\/b∈L')
  (d:Dp K H' A' n u' v L') (e:ρ'.set i none=ρ.set i none):nQ K G Z A' ρ' σ H' i n u' v L':=by
 have old:∀b,A b->b∉L->b∉L':=λb ha nb z=>by
  rcases s2 b z with y|y
  ·exact nb y
  ·have:=h.rel.mu b ha;rw[y] at this;exact this
 have ne:∀b,A b->H b≠none:=λb ha e=>by
  have:=h.rel.mu b ha;rw[e] at this;exact this
 have nL:∀b,A b->(Z.hx H L).B b=none->b∉L:=λb ha e z=>by
  rw[sD z] at e;exact ne b ha e
 refine⟨h.at_,nd,λb hb=>?_,d,?_⟩
 ·rcases s2 b hb with y|y
  ·exact h.fr b y
  ·refine⟨?_,λz=>ne b (h.rel.sup b (.inl z)) y⟩;cases q:Z.B b with
   |none=>rfl
   |some o=>
    by_cases c:b∈L
    ·exact absurd y (h.dp.ne c)
    ·have:=h.rel.bas b o (by rw[cP c];exact q);rw[this] at y;cases y
 ·rw[e];exact {
   slot:=λj w hj=>by
    obtain⟨x,x1,x2⟩:=h.rel.slot j w hj;refine⟨x,x1,?_⟩;by_cases c:G.is j=true
    ·rw[hV c] at x2 ⊢;obtain⟨a,e1,e2,e3,e4,e5⟩:=x2;have na:=nL a e2 e3;have Wo:=old a e2 na;refine⟨a,e1,aa a e2,?_,e4.imp (λy z=>y (z.imp id λq=>absurd q Wo)) id,e5.re g.mu g.ex g.nw λo w=>?_⟩
     ·rw[cP Wo];rw[cP na] at e3;exact e3
     ·rw[k a Wo (by rw[w];simp)];exact w
    ·rw[hU c] at x2 ⊢;exact x2.re g.mu g.ex g.nw
   dis:=h.rel.dis
   mu:=λb z=>by
    by_cases c:b∈L'
    ·exact d.mu c
    ·rcases oa b z with y|y
     ·rw[k b c (ne b y)];exact h.rel.mu b y
     ·exact absurd y c
   sup:=λb z=>by
    rcases z with z|z
    ·exact aa b (h.rel.sup b (.inl z))
    ·exact ia b z
   out:=λb z=>by
    by_cases c:b∈L'
    ·exact .inl (.inr c)
    ·rcases oa b z with y|y
     ·rcases h.rel.out b y with q|q
      ·rcases q with q|q
       ·exact .inl (.inl q)
       ·exact absurd (s1 b q) c
      ·rw[cP λz=>c (s1 b z)] at q;exact .inr (by rw[cP c];exact q)
     ·exact absurd y c
   bas:=λb o z=>by
    by_cases c:b∈L'
    ·rw[sD c] at z;exact z
    ·rw[cP c] at z;have cL:b∉L:=λy=>c (s1 b y);have:=h.rel.bas b o (by rw[cP cL];exact z);rw[k b c (by rw[this];simp)];exact this
   io0:=h.rel.io0
   len:=h.rel.len}
theorem cS.hid (q:cS K G Z A ρ σ H)(c:G.is i=true)(hi:G.io=true->i≠0)(h:ρ[i]? = some (some (.dct [] []))):∃a,nQ K G Z A ρ σ H i (n+1) (.dct [] []) (.ref a) [a]:=by
 obtain⟨a,h1,h2,h3,h4,h5⟩:=q.own c h;have na:¬Z.A0 a:=by
  rcases h4 with h4|⟨h4,h6⟩
  ·exact h4
  ·exact absurd h6 (hi h4)
 have hk:H a=some (.dK []):=by
  unfold mB at h5;obtain⟨xs,d,_⟩:=h5;rcases d with⟨bE,d1,d2,_⟩|⟨es,d0,_,d2,_⟩
  ·cases bE with
   |nil=>exact d1
   |cons=>cases d2
  ·cases es with
   |nil=>exact absurd rfl d0
   |cons=>cases d2
 have ne:∀j w b,i≠j->G.is j=true->ρ[j]? = some (some w)->σ[j]? = some (some (.ref b))->b≠a:=λj w b n1 cj e1 e2 e=>by
  subst e;exact q.dis i j _ w b c cj n1 h e1 h1 e2
 refine⟨a,h1,aaA _ _,λb hb=>?_,⟨a,[],[],[],rfl,rfl,rfl,⟨.inr ⟨rfl,hk⟩,adB,(λe he=>nomatch he)⟩,λ_=>hk,aaI _,rfl,rfl⟩,?_⟩
 ·rw[ZV] at hb;subst hb;exact⟨h3,na⟩
 ·exact {
   slot:=λj w hj=>by
    rcases dA hj with⟨rfl,e⟩|⟨n1,e⟩
    ·cases e
    ·obtain⟨x,x1,x2⟩:=q.slot j w e;refine⟨x,x1,?_⟩;by_cases cj:G.is j=true
     ·rw[hV cj] at x2 ⊢;obtain⟨b,e1,e2,e3,e4,e5⟩:=x2;subst e1;have nb:=ne j w b n1 cj e x1;have Xn:b∉[a]:=λz=>nb (ZV.mp z);exact⟨b,rfl,e2,by rw[cP Xn];exact e3,e4.imp (λy z=>y (z.elim id λq=>absurd q Xn)) id,e5⟩
     ·rw[hU cj] at x2 ⊢;exact x2
   dis:=(q.drop i).dis
   mu:=q.mu
   sup:=λb z=>by
    rcases z with z|z
    ·exact q.sup b z
    ·rw[ZV] at z;subst z;exact h2
   out:=λb z=>by
    by_cases y:b∈[a]
    ·exact .inl (.inr y)
    ·exact (q.out b z).imp (λw=>.inl w) λw=>by rw[cP y];exact w
   bas:=λb o z=>by
    by_cases y:b∈[a]
    ·rw[sD y] at z;exact z
    ·rw[cP y] at z;exact q.bas b o z
   io0:=q.io0
   len:=by rw[aaF];exact q.len}
theorem nQ.un (h:nQ K G Z A ρ σ H i (n+1) u v L)(c:G.is i=true)(hu:ρ[i]? = some (some u)):cS K G Z (λb=>A b/\(b∈L->v=.ref b)) ρ σ H:=by
 obtain⟨a,us,es,M,e1,e2,e3,d,z,l,al⟩:=id h.dp;subst e1 e2 e3;obtain⟨na,nM⟩:=aaS.mp h.nod;have ha:a∈a::M:=ZA;have nL:∀b,A b->(Z.hx H (a::M)).B b=none->b∉a::M:=λb hA e y=>by
  rw[sD y] at e;exact h.dp.ne y e
 have av:∀b,(A b/\(b∈a::M->V.ref a=.ref b))->A b/\b∉M:=λb y=>⟨y.1,λw=>by
  have:=y.2 (ZC _ w);cases this;exact na w⟩
 have zy:∀j w,i≠j->ρ[j]? = some (some w)->(ρ.set i none)[j]? = some (some w):=λj w n1 e=>by rw[Z_ n1];exact e
 exact {
  slot:=λj w hj=>by
   by_cases n1:i=j
   ·subst n1;rw[hu] at hj;cases hj;refine⟨.ref a,h.at_,?_⟩;rw[hV c];refine⟨a,rfl,⟨h.inA ha,λ_=>rfl⟩,(h.fr a ha).1,.inl (h.fr a ha).2,?_⟩;unfold mB;exact⟨es.map (·.2.2),d.at z,l,al.rps λu v L' s p=>Dp.rp (λb y=>⟨y.1,λw=>(av b y).2 (s b w)⟩) p⟩
   ·obtain⟨x,x1,x2⟩:=h.rel.slot j w (zy j w n1 hj);refine⟨x,x1,?_⟩;by_cases cj:G.is j=true
    ·rw[hV cj] at x2 ⊢;obtain⟨b,e1,e2,e3,e4,e5⟩:=x2;have nb:=nL b e2 e3;exact⟨b,e1,⟨e2,λy=>absurd y nb⟩,by rw[cP nb] at e3;exact e3,e4.imp (λy w=>y (.inl w)) id,e5.mono λb y=>y.1⟩
    ·rw[hU cj] at x2 ⊢;exact x2.mono λb y=>y.1
  dis:=λj k w w' b cj ck n1 hj hk sj sk=>by
   have key:∀k w',G.is k=true->i≠k->ρ[k]? = some (some w')->σ[k]? ≠ some (some (.ref a)):=λk w' ck n2 e y=>by
    obtain⟨b,x1,x2,x3,_⟩:=h.rel.own ck (zy k w' n2 e);rw[x1] at y;cases y;exact nL a x2 x3 ha
   by_cases n2:i=j
   ·subst n2;rw[h.at_] at sj;cases sj;exact key k w' ck n1 hk sk
   ·by_cases n3:i=k
    ·subst n3;rw[h.at_] at sk;cases sk;exact key j w cj n2 hj sj
    ·exact h.rel.dis j k w w' b cj ck n1 (zy j w n2 hj) (zy k w' n3 hk) sj sk
  mu:=λb y=>h.rel.mu b y.1
  sup:=λb y=>⟨h.rel.sup b (.inl y),λw=>absurd y (h.fr b w).2⟩
  out:=λb y=>by
   by_cases w:b∈a::M
   ·exact .inr (h.fr b w).1
   ·rcases h.rel.out b y.1 with q|q
    ·exact .inl (q.elim id λx=>absurd x w)
    ·rw[cP w] at q;exact .inr q
  bas:=λb o y=>by
   have w:b∉a::M:=λx=>by rw[(h.fr b x).1] at y;cases y
   exact h.rel.bas b o (by rw[cP w];exact y)
  io0:=h.rel.io0
  len:=by have:=h.rel.len;rw[aaF] at this;exact this}
theorem cS.pkg {Z':Pkg}(q:cS K G Z A ρ σ H)(e0:Z'.a0=Z.a0)(e1:∀b,Z'.A0 b↔Z.A0 b)(hB:∀b,A b->Z.B b=none->Z'.B b=none)(bas:∀b o,Z'.B b=some o->H b=some o):cS K G Z' A ρ σ H where
 slot:=λj w hj=>by
  obtain⟨x,x1,x2⟩:=q.slot j w hj;refine⟨x,x1,?_⟩;by_cases c:G.is j=true
  ·rw[hV c] at x2 ⊢;obtain⟨b,BD,e2,e3,e4,e5⟩:=x2;exact⟨b,BD,e2,hB b e2 e3,e4.imp (λy z=>y ((e1 b).mp z)) id,e5⟩
  ·rw[hU c] at x2 ⊢;exact x2
 dis:=q.dis
 mu:=q.mu
 sup:=λb z=>q.sup b ((e1 b).mp z)
 out:=λb z=>(q.out b z).imp (λy=>(e1 b).mpr y) (hB b z)
 bas:=bas
 io0:=λz=>by rw[e0];exact q.io0 z
 len:=q.len
theorem nQ.lp (h:nQ K G Z A ρ σ H i n u v L):nQ K G (Z.lp A H) A ρ σ H i n u v L:=
 ⟨h.at_,h.nod,λb hb=>⟨nG (h.inA hb) (h.fr b hb).1,(h.fr b hb).2⟩,h.dp,h.rel.pkg rfl (λb=>Iff.rfl) (λb ha e=>by
  by_cases c:b∈L
  ·rw[sD c] at e ⊢;exact e
  ·rw[cP c] at e ⊢;exact nG ha e) λb o e=>by
  by_cases c:b∈L
  ·rw[sD c] at e;exact e
  ·rw[cP c] at e;by_cases y:A b/\Z.B b=none
   ·rw[nG y.1 y.2] at e;cases e
   ·rw[kn y] at e;exact e⟩
theorem N0 (h:nQ K G Z A ρ σ H i n u v L)(e:(Z.lp A H).B b=none):Z.B b=none:=by
 rcases uy e with y|y
 ·exact y.2
 ·cases q:Z.B b with
  |none=>rfl
  |some o=>
   have c:b∉L:=λz=>by rw[(h.fr b z).1] at q;cases q
   have:=h.rel.bas b o (by rw[cP c];exact q);rw[this] at y;cases y
theorem nQ.unlp (h:nQ K G Z A ρ σ H i n u v L)(h':nQ K G (Z.lp A H) A' ρ' σ' H' i n u' v' L'):nQ K G Z A' ρ' σ' H' i n u' v' L' :=
 ⟨h'.at_,h'.nod,λb hb=>⟨N0 h (h'.fr b hb).1,(h'.fr b hb).2⟩,h'.dp,h'.rel.pkg rfl (λb=>Iff.rfl) (λb ha e=>by
  by_cases c:b∈L'
  ·rw[sD c] at e ⊢;exact e
  ·rw[cP c] at e ⊢;exact N0 h e) λb o e=>by
  by_cases c:b∈L'
  ·rw[sD c] at e;exact e
  ·rw[cP c] at e;refine h'.rel.bas b o ?_;rw[cP c,kn (λy=>by rw[e] at y;exact nomatch y.2)];have cL:b∉L:=λz=>by rw[(h.fr b z).1] at e;cases e
   exact h.rel.bas b o (by rw[cP cL];exact e)⟩
theorem nQ.ext (h:nQ K G Z A ρ σ H i n u v L)(h':nQ K G (Z.lp A H) A' ρ' σ' H' i n u' v' L'):fB A H H'/\∀b,A' b->A b\/H b=none:=by
 refine⟨λb o nb e=>?_,λb z=>?_⟩
 ·have lb:(Z.lp A H).B b=some o:=by rw[kn (λy=>nb y.1)];exact e
  have c:b∉L':=λy=>by rw[(h'.fr b y).1] at lb;cases lb
  exact h'.rel.bas b o (by rw[cP c];exact lb)
 ·have f:(Z.lp A H).B b=none->A b\/H b=none:=λy=>(uy y).imp (λw=>w.1) id;rcases h'.rel.out b z with y|y
  ·rcases y with y|y
   ·exact .inl (h.rel.sup b (.inl y))
   ·exact f (h'.fr b y).1
  ·by_cases c:b∈L'
   ·exact f (h'.fr b c).1
   ·rw[cP c] at y;exact f y
def qa (K:ZD)(G:Gm)(Z:Pkg)(i n:Nat):SR->oI->Prop
 | .nx ρ',D=>∀A' σ' H' u' v' L',nQ K G Z A' ρ' σ' H' i n u' v' L'->ρ'[i]? = some (some u')->D.nx σ' H'
 | .bk ρ',D=>∀A' σ' H' u' v' L',nQ K G Z A' ρ' σ' H' i n u' v' L'->ρ'[i]? = some (some u')->D.bk σ' H'
 | .ct ρ',D=>∀A' σ' H' u' v' L',nQ K G Z A' ρ' σ' H' i n u' v' L'->ρ'[i]? = some (some u')->D.ct σ' H'
 |_,_=>False
def WV (K:ZD)(G:Gm)(i n:Nat)(g:Ev->SR):TS:=λD σ H=>∃Z A ρ u v L,nQ K G Z A ρ σ H i n u v L/\ρ[i]? = some (some u)/\qa K G Z i n (g ρ) D
theorem qa.lp (h:nQ K G Z A ρ σ H i n u v L){r:SR}{D:oI}(f:qa K G Z i n r D):qa K G (Z.lp A H) i n r D:=by
 cases r with
 |nx=>exact λA' σ' H' u' v' L' h'=>f A' σ' H' u' v' L' (h.unlp h')
 |bk=>exact λA' σ' H' u' v' L' h'=>f A' σ' H' u' v' L' (h.unlp h')
 |ct=>exact λA' σ' H' u' v' L' h'=>f A' σ' H' u' v' L' (h.unlp h')
 |rt=>exact f.elim
 |exc=>exact f.elim
 |stk=>exact f.elim
theorem qa.of {α:Type}{x:R α}{k:α->SR}{D:oI}(f:qa K G Z i n (SR.of x k) D):∃a,x=.ok a/\qa K G Z i n (k a) D:=by
 cases x with
 |ok a=>exact⟨a,rfl,f⟩
 |exc=>exact f.elim
 |stk=>exact f.elim
end
structure DD (X:Cx)(G:Gm)(i n:Nat)(st:aca)(g:Ev->SR):Prop where
 un:PS X st (WV X.K G i n g)
structure SQ (X:Cx)(G:Gm)(i n:Nat)(st:List aca)(g:Ev->SR):Prop where
 un:wc X st (WV X.K G i n g)
section
variable {e a b o f:abd}{st:aca}{rest:List aca}{es:List abd}{jc cpos:Pos}{b1 b2:Bool}{m1 m2 m:Md}{g1 g2:Ev->R (U×Ev)}{h1:Ev->R (Bool×Ev)}{s1 s2:Ev->SR}
def LY:SQ X G i n [] a9:=⟨Dm.to λD σ H ⟨Z,A,ρ,u,v,L,h,hu,f⟩=>f A σ H u v L h hu⟩
def EG (h:DD X G i n st s1):SQ X G i n [st] s1:=⟨Dn h.un⟩
noncomputable def SS (i:Nat)(h:Ev->R (Bool×Ev))(s1 s2:Ev->SR):Ev->SR:=λρ=>SR.of (h (ρ.set i none)) λx=>if x.1=true then s1 ρ else s2 ρ
theorem SU {a b:List aca}(hc:DT X G c false h1)(ha:SQ X G i n a s1)(hb:SQ X G i n b s2):DD X G i n (.If c a b pos) (SS i h1 s1 s2):=⟨(MO hc.un ha.un hb.un).to λD σ H h00=>by
 obtain⟨Z,A,ρ,u,v,L,h,hu,f⟩:=h00;obtain⟨⟨k,ρ1⟩,e1,f⟩:=f.of;refine⟨Z.hx H L,A,ρ.set i none,h.rel,?_⟩;rw[e1];intro H1 q1 _ s1;have sm:=(s1 rfl).2;cases k with
 |true=>rw[hV rfl] at f ⊢;exact⟨Z,A,ρ,u,v,L,h.same sm,hu,f⟩
 |false=>rw[hU ZE] at f ⊢;exact⟨Z,A,ρ,u,v,L,h.same sm,hu,f⟩⟩
noncomputable def F9 (i:Nat)(sg:U->Ev->R Ev)(s:Ev->SR):List U->Ev->SR
 | [],ρ=>.nx ρ
 |u::us,ρ=>SR.of (sg u (ρ.set i none)) λρ1=>match s (ρ1.set i (ρ[i]?.getD none)) with
   | .nx ρ2=>F9 i sg s us ρ2
   | .ct ρ2=>F9 i sg s us ρ2
   | .bk ρ2=>.nx ρ2
   |r=>r
noncomputable def N1 (i:Nat)(gi:Ev->R (List U×Ev))(sg:U->Ev->R Ev)(s:Ev->SR):Ev->SR:=λρ=>SR.of (gi (ρ.set i none)) λx=>F9 i sg s x.1 ρ
theorem Qb {gi:Ev->R (List U×Ev)}(hp:aeP (Z8 X.prog X.w) X.A X.env X.xe)(hc:X.calm=true)(hi:DI X G tg iter false false gi)(hg:DG X G tg sg)(hb:SQ X G i n body s1)(ci:G.is i=true:=by rfl)(hs:∀x,aa8 iter X.env x=pure x:=by intro _;rfl):DD X G i n (.For tg iter body [] pos) (N1 i gi sg s1):=⟨(DF hp hc hi.un hg.un hb.un hs).to λD σ H h00=>by
 obtain⟨Z,A,ρ,u,v,L,h,hu,f⟩:=h00;obtain⟨⟨us,ρ1⟩,e1,f⟩:=f.of;refine⟨Z.hx H L,A,ρ.set i none,h.rel,?_⟩;rw[e1];intro J H1 q1 x1 BC wk;have h1:=h.same (BC rfl).2;dsimp only at f;obtain⟨hz,wk⟩:=wk;refine⟨λj k σ H=>j+k=us.length/\∃A' ρ' u' v' L',nQ X.K G (Z.lp A H1) A' ρ' σ H i n u' v' L'/\ρ'[i]? = some (some u')/\qa X.K G (Z.lp A H1) i n (F9 i sg s1 (us.drop j) ρ') D,⟨us.length,(by lia),A,ρ,u,v,L,h1.lp,hu,by rw[acv];exact f.lp h1⟩,?_⟩;rintro j k σ H ⟨hk,A',ρ',u',v',L',h',dX,f'⟩;obtain⟨ex,nw⟩:=h1.ext h';obtain⟨w1,w2⟩:=wk H A' (by rw[hU ZE];exact ex) nw;by_cases wY:j<us.length
 ·have eu:us[j]? = some us[j]:=Zw wY;obtain⟨go,yl⟩:=w1 j _ eu;rw[aa4 wY] at f';unfold F9 at f';obtain⟨ρ2,e2,f2⟩:=f'.of;refine .inr ⟨go,λσ H=>∃A' ρ' u' v' L',nQ X.K G (Z.lp A H1) A' ρ' σ H i n u' v' L'/\ρ'[i]? = some (some u')/\qa X.K G (Z.lp A H1) i n (F9 i sg s1 (us.drop (j+1)) ρ') D,λσ' H' z=>⟨k-1,(by lia),(by lia),z⟩,λx H' y=>?_⟩;obtain⟨sm,rp⟩:=yl x H' y;have h2:=h'.same sm;refine⟨(Z.lp A H1).hx H' L',A',ρ'.set i none,us[j],h2.rel,rp,?_⟩;rw[e2];intro σ2 q2 keep;have OE:σ2[i]? = some (some v'):=by rw[keep i ci];exact h2.at_
  have il:i<ρ2.length:=by
   rw[q2.len];exact (ZN.mp OE).1
  have Wq:(ρ2.set i (some u'))[i]? = some (some u'):=abk il;rw[dX,abO] at f2;refine⟨Z.lp A H1,A',ρ2.set i (some u'),u',v',L',⟨OE,h2.nod,h2.fr,h2.dp,by rw[List.set_set];exact q2.drop i⟩,Wq,?_⟩;cases e3:s1 (ρ2.set i (some u')) with
  |nx ρ3=>rw[e3] at f2;exact λA3 σ3 H3 u3 v3 L3 h3 Wr=>⟨A3,ρ3,u3,v3,L3,h3,Wr,f2⟩
  |ct ρ3=>rw[e3] at f2;exact λA3 σ3 H3 u3 v3 L3 h3 Wr=>⟨A3,ρ3,u3,v3,L3,h3,Wr,f2⟩
  |bk ρ3=>rw[e3] at f2;exact f2
  |rt=>rw[e3] at f2;exact f2
  |exc=>rw[e3] at f2;exact f2
  |stk=>rw[e3] at f2;exact f2
 ·have e:j=us.length:=(by lia)
  subst e;rw[aco] at f';exact .inl ⟨w2,f' A' σ H u' v' L' h' dX⟩⟩
noncomputable def JM (i:Nat)(g:Ev->SR):Ev->SR:=λρ=>match ρ[i]? with
 |some (some (.dct [] []))=>match g ρ with
  | .nx ρ'=>.nx ρ'
  | .bk ρ'=>.bk ρ'
  | .ct ρ'=>.ct ρ'
  |_=>.stk
 |_=>.stk
theorem LZ (h:DD X G i (n+1) st s1)(hi:G.io=true->i≠0:=by decide)(c:G.is i=true:=by rfl):DS X G m st (JM i s1):=⟨h.un.to λD σ H h00=>by
 obtain⟨Z,A,ρ,q,f⟩:=h00;unfold JM at f;split at f
 ·rename_i hu;obtain⟨a,hd⟩:=q.hid (n:=n) c hi hu;refine⟨Z,A,ρ,_,_,_,hd,hu,?_⟩;cases e:s1 ρ with
  |nx=>rw[e] at f;exact λA' σ' H' u' v' L' h' dX=>f _ σ' H' (h'.un c dX)
  |bk=>rw[e] at f;exact λA' σ' H' u' v' L' h' dX=>f _ σ' H' (h'.un c dX)
  |ct=>rw[e] at f;exact λA' σ' H' u' v' L' h' dX=>f _ σ' H' (h'.un c dX)
  |rt=>rw[e] at f;exact f.elim
  |exc=>rw[e] at f;exact f.elim
  |stk=>rw[e] at f;exact f.elim
 ·exact f.elim⟩
end
end L2
namespace L2
noncomputable def JN (i:Nat):Ev->R (U×(U->U)):=λρ=>match ρ[i]? with
 |some (some u)=>.ok (u,id)
 |_=>.stk
noncomputable def EH (i:Nat)(e0:U)(gp:Ev->R (U×(U->U)))(gk:Ev->R (U×Ev)):Ev->R (U×(U->U)):=λρ=>(gp ρ).bind λx=>(gk (ρ.set i none)).bind λk=>match x.1 with
 | .dct ks us=>if H9 k.1=true/\us.length<ZH then .ok ((gQ ks us k.1).getD e0,λw=>x.2 (.dct (mK ks k.1) (l7 ks us k.1 w))) else .stk
 |_=>.stk
def Uu (K:ZD)(G:Gm)(i n m:Nat)(gp:Ev->R (U×(U->U))):TE:=λσ H Q=>∃Z A ρ u v L,nQ K G Z A ρ σ H i n u v L/\ρ[i]? = some (some u)/\match gp ρ with
 | .ok (u',F)=>∀A1 H1 L1 v' L',nQ K G Z A1 ρ σ H1 i n (F u') v L1->At K H1 A1 n v L1 m u' v' L' F->Q v' H1
 |_=>False
noncomputable def Uv:Nat->HO
 |0=>.lst []
 |_+1=>.dK []
noncomputable def JO:Nat->U
 |0=>.lst []
 |_+1=>.dct [] []
def Vt (m:Nat):TE:=λ_ H Q=>∀p,H p=none->Q (.ref p) (cE H p (Uv m))
def Qc {c:ZY}:∀{m:Nat},H c=some (Uv m)->Dp K H A m (JO m) (.ref c) [c]
 |0,h=>⟨c,[],[],rfl,rfl,rfl,h,aaI _,aO.nil⟩
 |m+1,h=>⟨c,[],[],[],rfl,rfl,rfl,⟨.inr ⟨rfl,h⟩,adB,(λe he=>nomatch he)⟩,λ_=>h,aaI _,rfl,rfl⟩
theorem Dp.self {c:ZY}{u:U}:∀{m:Nat},Dp K H A m u (.ref c) L->c∈L
 |0,⟨a,_,_,e,_,e2,_⟩=>by cases e;subst e2;exact ZA
 |m+1,⟨a,_,_,_,e,_,e2,_⟩=>by cases e;subst e2;exact ZA
section
variable {e o f:abd}{jc cpos p1:Pos}{y:Str}{mk:Md}{gk:Ev->R (U×Ev)}{gp:Ev->R (U×(U->U))}
def L0:PE X (.Dict [] [] pos) (Vt (m+1)):=zP
def L7:PE X (.List [] pos) (Vt 0):=(x8 kD).to λσ H Q h=>⟨aaI _,h⟩
theorem L8 (i:Nat)(hN:X.N[i]? = some y:=by rfl)(hv:Ku X.env.scope y:=by first|exact Or.inl rfl|exact Or.inr (Or.inl rfl)|exact Or.inr (Or.inr rfl))(hd:(y==("__debug__":Str))=false:=by decide)
  (vX:(y==("__classdict__":Str))=false:=by decide):PE X (.Name y pos) (Uu X.K G i n n (JN i)):=(oJ hN hv hd vX).to λσ H Q h00=>by
 obtain⟨Z,A,ρ,u,v,L,h,hu,f⟩:=h00;unfold JN at f;rw[hu] at f;exact⟨v,h.at_,f A H L v L h (.root h.dp h.nod)⟩
theorem EI (hu:X.A.units+64<abn)(ho:PE X o (Uu X.K G i n (m+1) gp))(he:DE X G e false mk gk)(hf:PE X f (Vt m))(hn:mk≠.P:=by decide)(M:M2 X o "setdefault" jc e f cpos:=by exact⟨rfl,rfl,rfl,rfl⟩) :
  PE X (.Call (.Attribute o "setdefault" jc) [e,f] [] cpos) (Uu X.K G i n m (EH i (JO m) gp gk)):=(LW hu ho he.un hf M).to λσ H Q h00=>by
 obtain⟨Z,A,ρ,u,v,L,hd,hu0,f⟩:=h00;unfold EH at f;cases e1:gp ρ with
 |stk=>rw[e1] at f;exact f.elim
 |exc=>rw[e1] at f;exact f.elim
 |ok x=>
  obtain⟨u1,F⟩:=x;rw[e1] at f;dsimp only[R.bind] at f;cases e2:gk (ρ.set i none) with
  |stk=>rw[e2] at f;exact f.elim
  |exc=>rw[e2] at f;exact f.elim
  |ok k=>
   obtain⟨k,ρk⟩:=k;rw[e2] at f;dsimp only[R.bind] at f;refine⟨Z,A,ρ,u,v,L,hd,hu0,?_⟩;rw[e1];intro A1 H1 L1 v' L' Dh ML;obtain⟨a,us,es,M,r1,r2,r3,d,z,l,al⟩:=id ML.dp;subst r1 r2 r3;dsimp only at f;split at f;rotate_left
   ·exact f.elim
   rename_i u' F' ef;split at ef;rotate_left
   ·cases ef
   rename_i hk;cases ef;refine⟨a,rfl,.inr ⟨es,d⟩,Z.hx H1 L1,A1,ρ.set i none,Dh.rel,?_⟩;rw[e2];intro vk H2 q2 x2 s2 wa;have UI:=(s2 rfl).2;intro c nc;have s3:aR H2 (cE H2 c (Uv m)):=cN nc _;have Q5:=UI.trans s3;have QP:H9 k=true:=hk.1;cases k<;>first|(cases QP;done)|skip
   rename_i kk;obtain⟨b,rfl,kb⟩:=Ib QP (wa.rp hn);have Xo:B1 (cE H2 c (Uv m)) kk b:=kb.to λx ys q=>s3 x _ q;have Ws:=vn Dh.rel.mu Q5;have Wt:=Dh.kept Q5;have Yv:=ML.keep Ws Wt (yK Q5);have ka:=Wt a (ML.sub a ZA);have d3:=d.re ka Ws.tup;have Yw:=al.imp λu v L' s (p:Dp X.K H1 A1 m u v L')=>p.re Ws λb hb=>Wt b (ML.sub b (ZC _ (s b hb)));have hl:es.length=us.length:=by rw[al.length,Zz]
   refine⟨es,kk,b,d3,rfl,Xo,(by lia),λx hx=>?_,λhx ep=>?_⟩
   ·obtain⟨u',L2,y1,y2,y3⟩:=Yv.child d3 (by rw[ka];exact z) l Yw hx;rw[show gQ (es.map λp=>U.tup p.1) us (.tup kk)=some u' from y1,abO] at f;refine f A1 _ L1 x L2 ?_ y3;show nQ _ _ _ _ _ _ _ _ _ (F (.dct (mK (jW es) (.tup kk)) (l7 (jW es) us (.tup kk) u'))) _ _;rw[y2];exact Dh.same Q5
   ·have Xp:H1 c=none:=yK UI c nc;obtain⟨L4,L2,y1,y3,z1,z2,g⟩:=At.new (H0:=H1) (c:=c) (u0:=JO m) (ep:=ep) ML d hk.2 al Dh.rel.mu (λb hb=>Dh.inA hb) Q5 Xp Xo hx rfl (λH' e _=>Qc (by rw[e];exact bC));rw[show gQ (es.map λp=>U.tup p.1) us (.tup kk)=none from y1,acY] at f;refine f _ _ L4 (.ref c) L2 (Dh.put g (λb z=>.inl z) (λb nb ne=>?_) y3.nod z1 (λb hb=>?_) (λb hb=>?_) (λb z=>?_) y3.all rfl) y3
    ·have:b≠a:=λq=>nb (by rw[q];exact z1 a (ML.sub a ZA));show (if b=a then _ else _)=_;rw[hU this];cases q:H1 b with
     |none=>exact absurd q ne
     |some o=>exact Q5 b o q
    ·rcases z2 b hb with y|y
     ·exact .inl y
     ·rw[y];exact .inr Xp
    ·exact (z2 b hb).imp (λy=>Dh.inA y) id
    ·rcases z with z|z
     ·exact .inl z
     ·rw[z];exact .inr (y3.sub c y3.dp.self)
noncomputable def SV (i:Nat)(gp:Ev->R (U×(U->U)))(g:Ev->R (U×Ev)):Ev->SR:=λρ=>SR.of (gp ρ) λx=>SR.of (g (ρ.set i none)) λy=>match x.1 with
 | .lst us=>if us.length<ZH then .nx (ρ.set i (some (x.2 (.lst (us++[y.1]))))) else .stk
 |_=>.stk
theorem Qd (ho:PE X o (Uu X.K G i n 0 gp))(he:DE X G e false mk gk)(hn:mk≠.P:=by decide)
  (Bz:ac9 o "append" X.env (acP o X.env)=acP o X.env:=by rfl)
  (Kj:((abL cpos (ZX [e] X.env)).all (λx=> !x.1)&&(backToKw cpos (ad6 [] X.env)).all (λx=>x.1.isSome)
   && decide ([e].length+([]:List adH).length+(if ([]:List adH).isEmpty then 0 else 1)<30))=true:=by rfl)
  (BA:(jc.endLine==cpos.line)=true:=by rfl) (hs:ZX [e] X.env=(false,acP e X.env)::ZX [] X.env:=by rfl) (vY:(abL cpos (ZX [] X.env)).any (·.1)=false:=by rfl)
  (hw:ad3 (.Call (.Attribute o "append" jc) [e] [] cpos) none pos.line X.env=pure false:=by rfl) :
  DD X G i n (.Expr (.Call (.Attribute o "append" jc) [e] [] cpos) pos) (SV i gp gk):=⟨(Dq (MU aaq ab9 ab_ nD ho (ae (p:=false) he ah (λh=>absurd h hn) hs).un Bz Kj BA hs vY) hw).to λD σ H h00=>by
 obtain⟨Z,A,ρ,u,v,L,hd,hu0,f⟩:=h00;obtain⟨⟨u1,F⟩,e1,f⟩:=f.of;obtain⟨⟨y,ρy⟩,e2,f⟩:=f.of;dsimp only at e2 f;refine⟨Z,A,ρ,u,v,L,hd,hu0,?_⟩;rw[e1];intro A1 H1 L1 v' L' Dh ML;obtain⟨a,us,xs,r1,r2,r3,q,l,r⟩:=id ML.dp;subst r1 r2 r3;dsimp only at f;split at f;rotate_left
 ·exact f.elim
 rename_i hl;refine⟨.inl ⟨rfl,xs,.inl (.inl q)⟩,Z.hx H1 L1,A1,ρ.set i none,Dh.rel,?_⟩;unfold af;rw[e2];intro vs H2 q2 x2 s2 wa;have sm:=(s2 rfl).2;have rr:=wa.rps;unfold aO at rr;obtain⟨w,wr,rfl,rw1,rw2⟩:=rr;unfold aO at rw2;subst rw2;have OE:=ML.keep (vn Dh.rel.mu sm) (Dh.kept sm) (yK sm);have BE:=Dh.same sm;have Yx:H2 a=some (.lst xs):=sm a _ q;have r2:=r.same sm;refine⟨a,xs,w,rfl,rfl,Yx,by rw[←r.length];exact hl,?_⟩;have aA:A1 a:=BE.inA (OE.sub a ZA);have hb:∀b,b≠a->cE H2 a (.lst (xs++[w])) b=H2 b:=λb nb=>by unfold cE;rw[hU nb]
 have g:BI A1 A1 H2 (cE H2 a (.lst (xs++[w]))):=⟨BE.rel.mu,λb o nb e=>by rw[hb b (λz=>nb (z▸aA))];exact e,λb z=>.inl z⟩;obtain⟨L4,d4,n4,z1,z3,z2⟩:=OE.put _ A1 (.lst (us++[y])) [a] g (λb zx nb=>hb b λz=>nb (by rw[z];exact ZA))
  ⟨a,_,_,rfl,rfl,rfl,bC,by rw[ZJ];exact hl,(r2.snoc rw1).re g.mu g.ex g.nw⟩ (aaA _ _) (λb hb=>hb) (λb hb=>.inl hb)
 have il:i<ρ.length:=by
  have:=BE.rel.len;rw[aaF] at this;rw[this];exact (ZN.mp BE.at_).1
 refine f A1 σ _ _ v L4 (BE.put g (λb z=>z) (λb nb ne=>hb b λz=>nb (z3 b (by rw[z];exact ZA))) n4 z1 (λb zx=>?_) (λb zx=>?_) (λb z=>.inl z) d4 (List.set_set _)) (abk il)
 ·rcases z2 b zx with x|x
  ·rw[ZV] at x;rw[x];exact .inl (OE.sub a ZA)
  ·exact .inl x
 ·rcases z2 b zx with x|x
  ·rw[ZV] at x;rw[x];exact aA
  ·exact BE.inA x⟩
end
end L2
namespace Hc.Ts
open PySem.W
noncomputable def mm:List (List Int)->List (List Int)->Bool
 | [],[]=>false
 | [],_::_=>true
 |_::_,[]=>false
 |x::xs,y::ys=>if x=y then mm xs ys else gz x y
theorem sE:∀a,mm a a=false
 | []=>rfl
 |x::xs=>by unfold mm;rw[hV rfl];exact sE xs
theorem vo:∀a b c,mm a b=true->mm b c=true->mm a c=true
 | [],[],_,h,_=>by cases h
 | [],_::_,[],_,h=>by cases h
 | [],_::_,_::_,_,_=>rfl
 |_::_,[],_,h,_=>by cases h
 |_::_,_::_,[],_,h=>by cases h
 |x::xs,y::ys,z::zs,h1,h2=>by
  unfold mm at h1 h2 ⊢;by_cases e1:x=y
  ·subst e1;rw[hV rfl] at h1;by_cases e2:x=z
   ·subst e2;rw[hV rfl] at h2 ⊢;exact vo xs ys zs h1 h2
   ·rw[hU e2] at h2 ⊢;exact h2
  ·rw[hU e1] at h1;by_cases e2:y=z
   ·subst e2;rw[hU e1];exact h1
   ·rw[hU e2] at h2;have h3:=oV x y z h1 h2;rw[hU (λe=>by subst e;rw[mO] at h3;cases h3)];exact h3
theorem AR:∀a b c,mm a c=true->mm a b=true\/mm b c=true
 | [],[],_::_,_=>.inr rfl
 | [],_::_,_::_,_=>.inl rfl
 | [],_,[],h=>by cases h
 |_::_,_,[],h=>by cases h
 |_::_,[],_::_,_=>.inr rfl
 |x::xs,y::ys,z::zs,h=>by
  unfold mm at h ⊢;by_cases e:x=z
  ·subst e;rw[hV rfl] at h;by_cases e2:x=y
   ·subst e2;rw[hV rfl,hV rfl];exact AR xs ys zs h
   ·rw[hU e2,hU (λq=>e2 q.symm)];cases c1:gz x y with
    |true=>exact .inl rfl
    |false=>
     cases c2:gz y x with
     |true=>exact .inr rfl
     |false=>exact absurd (jT x y c1 c2) e2
  ·rw[hU e] at h;by_cases e2:x=y
   ·subst e2;exact .inr (by rw[hU e];exact h)
   ·by_cases e3:y=z
    ·subst e3;exact .inl (by rw[hU e];exact h)
    ·rw[hU e2,hU e3];exact u7 x y z h
theorem vp:∀a b,mm a b=false->mm b a=false->a=b
 | [],[],_,_=>rfl
 | [],_::_,h,_=>by cases h
 |_::_,[],_,h=>by cases h
 |x::xs,y::ys,h1,h2=>by
  unfold mm at h1 h2;by_cases e:x=y
  ·subst e;rw[hV rfl] at h1 h2;rw[vp xs ys h1 h2]
  ·rw[hU e] at h1;rw[hU (λq=>e q.symm)] at h2;exact absurd (jT x y h1 h2) e
noncomputable def CI:aeS:=⟨List (List Int),mm,sE,vo,AR,vp⟩
inductive mT (h:abT):List ZF->List (List Int)->Prop
 |nil:mT h [] []
 |cons {t:ZY} {its:Array ZF} {ns:List Int} {vs:List ZF} {dC:List (List Int)}:h.IsTuple t its->abA its.toList ns->mT h vs dC->mT h (.ref t::vs) (ns::dC)
theorem mT.keep (k:∀b o,h.get? b=some o->h'.get? b=some o){vs:List ZF}(t:mT h vs dC):mT h' vs dC:=by
 induction t with
 |nil=>exact .nil
 |cons a i _ ih=>
  obtain⟨o,e,r⟩:=a;exact .cons ⟨o,k _ _ e,r⟩ i ih
theorem mT.length {vs:List ZF}(t:mT h vs dC):vs.length=dC.length:=by
 induction t with
 |nil=>rfl
 |cons _ _ _ ih=>rw[ZM,ZM,ih]
def oY (h:abT)(a:ZY)(dC:List (List Int)):Prop:=∃its,h.IsTuple a its/\mT h its.toList dC
theorem oY.keep (k:∀b o,h.get? b=some o->h'.get? b=some o)(t:oY h a dC):oY h' a dC:=by
 obtain⟨its,⟨o,e,r⟩,t⟩:=t;exact⟨its,⟨o,k _ _ e,r⟩,t.keep k⟩
section
variable {A:aar}{fin:Bool}{Q:Bool->ZT->Prop}
theorem AS (hu:A.units<abn):∀{xs ys:List ZF} {ns ms:List (List Int)} {i:Nat},mT s.heap xs ns->mT s.heap ys ms->fin=decide (ns.length<ms.length)->Q (mm ns ms) s->KatLex prog w A false fin Q (xs.zip ys) i s
 |_,_,_,_,i,.nil,.nil,hf,h=>by subst hf;exact kat_nil h
 |_,_,_,_,i,.nil,.cons a1 a2 r,hf,h=>by subst hf;exact kat_nil (by rw[show decide (([]:List (List Int)).length<(_::_).length)=true from hG (by simp)];exact h)
 |_,_,_,_,i,.cons a1 a2 r,.nil,hf,h=>by subst hf;exact kat_nil (by rw[show decide ((_::_).length<([]:List (List Int)).length)=false from hJ (by simp)];exact h)
 |_,_,_,_,i,.cons (ns:=n) a1 a2 r,.cons (ns:=m) c1 c2 q,hf,h=>by
  refine kat_cons (wpAny_eqBool_tuple (knd:=aew prog w) hu (SK a1 a2) (SK c1 c2) ?_);unfold mm at h;by_cases e:n=m
  ·rw[hV e] at h;rw[hG e];refine kat_yes (AS hu r q ?_ h);rw[hf];simp
  ·rw[hU e] at h;rw[hJ e];refine kat_no (kat_one _ _ (HT.lt_tupInts a1 c1 a2 c2 hu ?_));rw[AN];exact h
theorem JP {h0:abT}{bs:List ZY}{kf:ZY->List (List Int)}(hu:A.units<abn)(at_:∀a∈bs,oY h0 a (kf a))(keep:∀b o,h0.get? b=some o->s.heap.get? b=some o)
  {key:acS->List (List Int)} (MN:∀x:acS,∀a∈bs,x.1=.ref a->key x=kf a):GH (Z8 prog w) A E s CI key (tuples' false) (λx=>∃a∈bs,x.1=.ref a) where
 lt:=λx y st Q dx dy kd q=>by
  obtain⟨a,ha,e1⟩:=dx;obtain⟨c,hc,e2⟩:=dy;rw[MN x a ha e1,MN y c hc e2] at q;obtain⟨i1,t1,u1⟩:=(at_ a ha).keep keep;obtain⟨i2,t2,u2⟩:=(at_ c hc).keep keep;rw[lt'_eq];refine aaK (wpS_get ?_);rw[kd,e1,e2];obtain⟨o1,g1,_,n1,d1⟩:=t1;obtain⟨o2,g2,_,n2,d2⟩:=t2;refine aaK (wpS_lift (ach (kat_lt g1 d1 g2 d2 (AS hu u1 u2 ?_ ⟨rfl,?_⟩))))
  ·rw[←u1.length,←u2.length,Z5,Z5]
  ·exact abo q
theorem F_ {bs:List ZY}{Q:SortKind->ZT->Prop}(h2:2<=bs.length)(at_:∀a∈bs,∃dC,oY s.heap a dC/\dC≠[])(q:Q (tuples' false) s):Z1 (Z8 prog w) A (keyKind' (bs.map Value.ref).toArray) Q E s:=by
 have kt:∀l:List ZY,(∀a∈l,∃dC,oY s.heap a dC/\dC≠[])->∃fs,KatTups s.heap (l.map Value.ref) fs/\fs.length=l.length/\∀f∈fs,∃t its,f=.ref t/\s.heap.IsTuple t its:=by
  intro l
  induction l with
  |nil=>exact λ_=>⟨[],.nil,rfl,λf hf=>by cases hf⟩
  |cons a l ih=>
   intro h;obtain⟨fs,k1,k2,k3⟩:=ih λc hc=>h c (ZC _ hc);obtain⟨dC,⟨its,⟨o,e,c,n,d⟩,tj⟩,ne⟩:=h a ZA;have:∃t i2 r,its.toList=.ref t::r/\s.heap.IsTuple t i2:=by
    generalize its.toList=l at tj;cases tj with
    |nil=>exact absurd rfl ne
    |cons v _ _=>exact⟨_,_,_,rfl,v⟩
   obtain⟨t,i2,r,el,v⟩:=this;refine⟨.ref t::fs,.cons e c d (by rw[←Z4,el];rfl) k1,by rw[ZM,ZM,k2],λf hf=>?_⟩;rcases ZK.mp hf with rfl|hf
   ·exact⟨t,i2,rfl,v⟩
   ·exact k3 f hf
 obtain⟨fs,k1,k2,k3⟩:=kt bs at_;refine kat_kind (T:=.type "tuple") k1 (by lia) (λv hv=>?_) (by decide) q;obtain⟨t,its,rfl,o,e,c,_⟩:=k3 v hv;rw[←c];exact (Looks.ld e).andThen .now
end
end Hc.Ts
namespace L2
open Hc.Dw Hc.Ts
section
variable (O:aeS)
noncomputable def Ga (x:O.α):List O.α->List O.α
 | []=>[x]
 |y::r=>if O.blt y x=true then y::Ga x r else x::y::r
noncomputable def EJ (l:List O.α):List O.α:=l.foldr (Ga O) []
def SW (l:List O.α):Prop:=l.Pairwise λx y=>O.blt y x=false
variable {O}
theorem qZ (x:O.α):∀l,(Ga O x l).Perm (x::l)
 | []=>.refl _
 |y::r=>by
  unfold Ga;split
  ·exact ((qZ x r).cons y).trans (.swap x y r)
  ·exact .refl _
theorem vq:∀l,(EJ O l).Perm l
 | []=>.refl _
 |x::l=>(qZ x _).trans ((vq l).cons x)
theorem EK (x:O.α):∀{l},SW O l->SW O (Ga O x l)
 | [],_=>aaA _ _
 |y::r,h=>by
  obtain⟨h1,h2⟩:=aaa.mp h;unfold Ga;split
  ·rename_i c;refine aaa.mpr ⟨λz hz=>?_,EK x h2⟩;rcases ZK.mp ((qZ x r).mem_iff.mp hz) with rfl|hz
   ·exact KeyOrd.klt_asymm (O:=O) c
   ·exact h1 z hz
  ·rename_i c;have c:O.blt y x=false:=by simpa using c
   refine aaa.mpr ⟨λz hz=>?_,h⟩;rcases ZK.mp hz with rfl|hz
   ·exact c
   ·exact acq (O:=O) (a:=x) (b:=y) (c:=z) c (h1 z hz)
theorem AU:∀l,SW O (EJ O l)
 | []=>List.Pairwise.nil
 |x::l=>EK x (AU l)
theorem AV:∀{l m:List O.α},l.Perm m->SW O l->SW O m->l=m
 | [],m,p,_,_=>(List.nil_perm.mp p).symm
 |x::l,[],p,_,_=>absurd p.length_eq (by simp)
 |x::l,y::m,p,h1,h2=>by
  obtain⟨a1,a2⟩:=aaa.mp h1;obtain⟨b1,b2⟩:=aaa.mp h2;have e:x=y:=by
   have hx:x∈y::m:=p.mem_iff.mp ZA;have hy:y∈x::l:=p.mem_iff.mpr ZA;rcases ZK.mp hx with rfl|hx
   ·rfl
   ·rcases ZK.mp hy with rfl|hy
    ·rfl
    ·exact O.total x y (b1 x hx) (a1 y hy)
  subst e;rw[AV (p.cons_inv) a2 b2]
end
noncomputable def Vu:V->ZY
 | .ref a=>a
 |_=>0
noncomputable def qb (H:Hp)(b:ZY):List (List Int):=match H b with
 |some (.tup xs)=>xs.map λx=>cO H (Vu x)
 |_=>[]
def AW (H:Hp)(b:ZY)(dC:List (List Int)):Prop:=∃ts:List ZY,H b=some (.tup (ts.map V.ref))/\ts.map (cO H)=dC/\∀t∈ts,H t=some (.tup ((cO H t).map V.int))
theorem L9 (h:AW H b dC):qb H b=dC:=by
 obtain⟨ts,h1,h2,_⟩:=h;unfold qb;rw[h1];dsimp only;rw[←h2,aaZ];rfl
theorem xO (I:aN X pins σ H s)(h:AW H b dC):oY s.heap b dC:=by
 obtain⟨ts,h1,h2,h3⟩:=h;obtain⟨y1,its,rv,it,y2⟩:=I.hok b _ h1;refine⟨its.toArray,it,?_⟩;have e:=iI rv;subst e h2;clear rv it h1 y1 y2;rw[List.toList_toArray]
 induction ts with
 |nil=>exact .nil
 |cons t ts ih=>
  obtain⟨_,its2,rv2,it2,_⟩:=I.hok t _ (h3 t ZA);exact .cons it2 (by simpa using eR rv2) (ih λt ht=>h3 t (ZC _ ht))
def CJ (K:ZD):List V->Hp->VK->Prop:=λxs H Q=>∃(p:ZY) (bs:List ZY),xs=[.ref p]/\FY K H p bs/\bs.length<64/\(2<=bs.length->∀b∈bs,AW H b (qb H b)/\qb H b≠[])/\
  ∀(l:ZY) (jE:List ZY),H l=none->jE.Perm bs->jE.Pairwise (λx y=>mm (qb H y) (qb H x)=false)->Q (.ref l) (cE H l (.lst (jE.map V.ref)))
theorem L_ (hc:X.calm=true)(I:aN X pins σ H s){p:ZY}{bs:List ZY}(src:FY X.K H p bs)(BF:bs.length<=ZH)(Q:List ZF->ZT->Prop)(E:ZF->ZT->Prop)(hq:∀h1 tk (kN:List ZY),kN.Perm bs->(∀b o,s.heap.get? b=some o->h1.get? b=some o)->Q (kN.map Value.ref) {s with heap:=h1,toks:=tk}):Z1 (Z8 X.prog X.w) X.A.in1 (collect (.ref p)) Q E s:=by
 rcases src with hs|hs|⟨ep,es,hs,rfl⟩
 ·obtain⟨its,rv,pl,_⟩:=I.list hs;obtain⟨o,e,c,n,d⟩:=pl.isList;have e2:=iI rv;subst e2;exact acM p (.inl rfl) e c d (λh1 k1=>by simpa using hq h1 s.toks bs (aa5 _) k1) (by rw[ZI,Zz];exact BF)
 ·obtain⟨its,rv,pl,_⟩:=I.tuple hs;obtain⟨o,e,c,n,d⟩:=pl;have e2:=iI rv;subst e2;exact acM p (.inr rfl) e c d (λh1 k1=>by simpa using hq h1 s.toks bs (aa5 _) k1) (by rw[ZI,Zz];exact BF)
 ·obtain⟨lo,ds,rd,n,at_⟩:=I.rawD hs;refine mP (A:=X.A.in1) (SA lo) (I.ok.hd hc) rd (by rw[n];rw[Zz] at BF;exact BF) λh1 tk cy k1 ia=>?_;have e:cy.toList=(es.map (·.2.1)).map Value.ref:=by
   apply ab5;intro i;rw[Z4,aaZ,Z2];by_cases hi:i<cy.size
   ·rw[getElem?_pos cy i hi];obtain⟨en,e1,e2⟩:=ia.2 i _ (getElem?_pos cy i hi);have zu:i<ds.size:=by rw[←ia.1];exact hi
    rw[getElem?_pos ds i zu] at e1;cases e1;obtain⟨x,m,ek,_⟩:=at_ i zu;rw[m,e2,ek];rfl
   ·rw[getElem?_neg cy i hi,List.getElem?_eq_none (by rw[←n,←ia.1];lia)];rfl
  rw[e];exact hq h1 tk _ (aa5 _) k1
theorem CK (hc:X.calm=true)(hu:X.A.units+64<abn):ez X (.builtin "sorted") (CJ X.K):=by
 intro pins s σ H xs us Q I r h;obtain⟨p,bs,rfl,src,hz,tu,q⟩:=h;obtain⟨u,rfl,rx⟩:=i0 r;cases rx;have BF:bs.length<=ZH:=by rw[abw];lia
 refine va (O:=CI) (qb H) (tuples' false) I hz hu (λA E kN s6 Q6 E7 h2 k6 q6=>?_) (λh2 A E s6 hA k6=>?_) (λQ E hq=>L_ hc I src BF Q E hq) q
 ·refine F_ h2 (λa ha=>?_) q6;have:=tu (by rw[←E7.length_eq];exact h2) a (E7.mem_iff.mp ha);exact⟨_,(xO I this.1).keep k6,this.2⟩
 ·exact JP (h0:=s.heap) (kf:=qb H) hA (λa ha=>xO I (tu h2 a ha).1) k6 (λx a _ e=>by rw[e];rfl)
noncomputable def CL (dC:List (List Int)):U:=.tup (dC.map sS)
noncomputable def N2:U->Option (List Int)
 | .tup xs=>jq xs
 |_=>none
noncomputable def vt:List U->Option (List (List Int))
 | []=>some []
 |u::us=>match N2 u,vt us with
  |some ns,some dC=>some (ns::dC)
  |_,_=>none
noncomputable def Qe:U->Option (List (List Int))
 | .tup (x::xs)=>vt (x::xs)
 |_=>none
noncomputable def AX:List U->Option (List (List (List Int)))
 | []=>some []
 |u::us=>match Qe u,AX us with
  |some ns,some dC=>some (ns::dC)
  |_,_=>none
theorem xP:∀{us:List U} {dC:List (List Int)},vt us=some dC->us=dC.map sS
 | [],dC,h=>by unfold vt at h;cases h;rfl
 |u::us,dC,h=>by
  unfold vt at h;split at h
  ·rename_i ns r e1 e2;cases h;rw[ZR,←xP e2];unfold N2 at e1;split at e1
   ·rw[kq e1];rfl
   ·cases e1
  ·cases h
theorem Ma {u:U}(h:Qe u=some dC):u=CL dC/\dC≠[]:=by
 unfold Qe at h;split at h
 ·rename_i x xs;have e:=xP h;refine⟨by unfold CL;rw[←e],λz=>by subst z;cases e⟩
 ·cases h
theorem vv:∀{us:List U} {dC:List (List (List Int))},AX us=some dC->us=dC.map CL/\∀ns∈dC,ns≠[]
 | [],dC,h=>by unfold AX at h;cases h;exact⟨rfl,λz hz=>by cases hz⟩
 |u::us,dC,h=>by
  unfold AX at h;split at h
  ·rename_i ns r e1 e2;cases h;obtain⟨e3,n3⟩:=Ma e1;obtain⟨e4,n4⟩:=vv e2;refine⟨by rw[ZR,←e3,←e4],λz hz=>?_⟩;rcases ZK.mp hz with rfl|hz
   ·exact n3
   ·exact n4 z hz
  ·cases h
noncomputable def lL (us:List U):R U:=if us.length<2/\us.all H_=true then .ok (.lst us) else match AX us with
 |some dC=>if dC.length<64 then .ok (.lst ((EJ CI dC).map CL)) else .stk
 |none=>.stk
noncomputable def CM:List U->R U:=λus=>match us with
 | [.lst xs]=>lL xs
 | [.tup xs]=>lL xs
 | [.dct ks _]=>if Us ks=true then lL ks else .stk
 |_=>.stk
theorem SX {ns:List (List Int)}(h:Rp K H A (CL ns) v):∃b,v=.ref b/\AW H b ns:=by
 unfold CL Rp at h;obtain⟨b,ys,e,q,l,r⟩:=h;obtain⟨ts,rfl,e2,z⟩:=kY r;exact⟨b,e,ts,q,e2,λt ht=>(z t ht).1⟩
theorem yL {A:ZY->Prop}:∀{dC:List (List (List Int))} {xs:List V},aO K H A (dC.map CL) xs->∃bs:List ZY,xs=bs.map V.ref/\bs.map (qb H)=dC/\∀b∈bs,AW H b (qb H b)/\Rp K H A (CL (qb H b)) (.ref b)
 | [],xs,h=>by rw[abj] at h;unfold aO at h;subst h;exact⟨[],rfl,rfl,λb hb=>by cases hb⟩
 |ns::dC,xs,h=>by
  rw[ZR] at h;unfold aO at h;obtain⟨x,r,rfl,h1,h2⟩:=h;obtain⟨b,rfl,q⟩:=SX h1;obtain⟨bs,rfl,e,z⟩:=yL h2;have k:=L9 q;refine⟨b::bs,rfl,by rw[ZR,e,k],λc hc=>?_⟩;rcases ZK.mp hc with rfl|hc
  ·rw[k];exact⟨q,h1⟩
  ·exact z c hc
theorem AY {A:ZY->Prop}:∀{us:List U} {xs:List V},us.all H_=true->aO K H A us xs->∃bs:List ZY,xs=bs.map V.ref
 | [],xs,_,h=>by unfold aO at h;subst h;exact⟨[],rfl⟩
 |u::us,xs,c,h=>by
  rw[ace,Z3] at c;unfold aO at h;obtain⟨x,r,rfl,h1,h2⟩:=h;obtain⟨bs,rfl⟩:=AY c.2 h2;have c1:=c.1;cases u<;>first|(cases c1;done)|skip
  unfold Rp at h1;obtain⟨a,_,rfl,_⟩:=h1;exact⟨a::bs,rfl⟩
theorem N3 (h:n<=1000000):n<=ZH:=by rw[abw];lia
theorem Mb {bs cs:List ZY}(h:bs.map V.ref=cs.map V.ref):bs=cs:=(List.map_inj_right λ_ _ h=>by cases h;rfl).mp h
theorem vx {xs:List U}(e:lL xs=.ok z)(r:aO K H A xs vs):∃bs:List ZY,vs=bs.map V.ref:=by
 unfold lL at e;split at e
 ·rename_i c;exact AY c.2 r
 ·split at e
  ·rename_i dC e1;rw[(vv e1).1] at r;obtain⟨bs,e2,_⟩:=yL r;exact⟨bs,e2⟩
  ·cases e
theorem Gb:mj K (CJ K) .O CM:=λA H vs us z Q h mu e q=>by
 have fin:∀(xs:List U) (p:ZY) (bs:List ZY),lL xs=.ok z->aO K H A xs (bs.map V.ref)->FY K H p bs->CJ K [.ref p] H Q:=by
  intro xs p bs e r src;have rl:xs.length=bs.length:=by have:=r.length;rwa [Zz] at this
  unfold lL at e;split at e
  ·rename_i c;cases e;refine⟨p,bs,rfl,src,(by lia),λh2=>absurd h2 (by lia),λl jE hn hp hw=>?_⟩;have e7:jE=bs:=by
    have hl:=hp.length_eq
    match bs,jE,hp,hl with
    | [],[],_,_=>rfl
    | [a],[b],hp,_=>exact List.perm_singleton.mp hp
    |_::_::_,_,_,_=>simp at rl;lia
   subst e7;exact q _ _ (cN hn _) ⟨l,rfl,hn,cq mu r hn (N3 (by lia))⟩
  ·split at e
   ·rename_i dC e1;split at e
    ·rename_i hz;cases e;obtain⟨e2,ne⟩:=vv e1;subst e2;obtain⟨kN,e3,e4,e5⟩:=yL r;have e6:=Mb e3;subst e6;have n1:bs.length=dC.length:=by rw[←e4,Zz]
     refine⟨p,bs,rfl,src,(by lia),λ_ b hb=>⟨(e5 b hb).1,ne _ (by rw[←e4];exact abI hb)⟩,λl jE hn hp hw=>?_⟩;have e7:jE.map (qb H)=EJ CI dC:=AV (O:=CI) ((hp.map (qb H)).trans (by rw[e4];exact (vq (O:=CI) dC).symm)) (aaO.mpr hw) (AU (O:=CI) dC);refine q _ _ (cN hn _) ⟨l,rfl,hn,?_⟩;rw[←e7];refine cq mu ?_ hn (N3 (by rw[Zz,Zz,hp.length_eq];lia));have all:∀b∈jE,Rp K H A (CL (qb H b)) (.ref b):=λb hb=>(e5 b (hp.mem_iff.mp hb)).2;clear hw e7 hp
     induction jE with
     |nil=>exact aO.nil
     |cons b jE ih=>exact aO.cons (all b ZA) (ih λc hc=>all c (ZC _ hc))
    ·cases e
   ·cases e
 unfold CM at e;split at e
 ·obtain⟨v,rfl,p⟩:=h.one;unfold Pk at p;obtain⟨a,ys,rfl,h1,l1,r1⟩:=p;obtain⟨bs,rfl⟩:=vx e r1;exact fin _ a bs e r1 (.inl (gD.of h1))
 ·obtain⟨v,rfl,p⟩:=h.one;unfold Pk at p;obtain⟨a,ys,rfl,h1,l1,r1⟩:=p;obtain⟨bs,rfl⟩:=vx e r1;exact fin _ a bs e r1 (.inr (.inl (jj.of h1)))
 ·rename_i ks ws;split at e
  ·rename_i c;obtain⟨v,rfl,p⟩:=h.one;unfold Pk at p;obtain⟨a,ys,rfl,h1,l1,r1⟩:=p;obtain⟨es,ep,q1,kt,e1,e2⟩:=Jy c h1;refine fin ks a (es.map (·.2.1)) e ?_ (.inr (.inr ⟨ep,es,q1,rfl⟩));subst e1;clear e fin e2 r1 h1 c q1 h
   induction es with
   |nil=>exact aO.nil
   |cons x es ih=>exact aO.cons (NT (kt x ZA)) (ih λy hy=>kt y (ZC _ hy))
  ·cases e
 ·cases e
end L2
namespace L2
open PySem.W
noncomputable def SY (tb:List (Str×List Int))(g:Ev->R (U×Ev)):Ev->R (U×Ev):=λρ=>(g ρ).bind λx=>match x.1 with
 | .str w=>match tb.lookup w with
  |some ns=>.ok (.lst (ns.map U.int),x.2)
  |none=>.stk
 |_=>.stk
end L2
namespace L2
open PySem.W
def tL (ns:List Int):TE:=λ_ H Q=>∀p,H p=none->Q (.ref p) (cE H p (.lst (ns.map V.int)))
def Qf {k1 k2 k3:Key}{v1 v2 v3:V}(T7:k1≠k2)(T8:k1≠k3)(T9:k2≠k3):oN [] [(k1,v1),(k2,v2),(k3,v3)]=[(k1,v1),(k2,v2),(k3,v3)]:=by
 unfold oN;simp[ya,T7,T8,T9,T7.symm,T8.symm,T9.symm]
section
variable {p0:Pos}{e e1 e2 e3:abd}{n1 n2 n3:List Int}{s1 s2 s3:Str}{m:Md}{g:Ev->R (U×Ev)}
def WW {i:Int}{y q p}:PE X (.List [.Constant (.int i) y q] p) (tL [i]):=(x8 (eN xW kD)).to λσ H Q h=>⟨(by decide:(1:Nat)<=ZH),h⟩
def XJ {i j:Int}{y q z r p}:PE X (.List [.Constant (.int i) y q,.Constant (.int j) z r] p) (tL [i,j]):=(x8 (eN xW (eN xW kD))).to λσ H Q h=>⟨(by decide:(2:Nat)<=ZH),h⟩
theorem fX {o x:HO}(n:H a=none)(h:H b=some x):cE H a o b=some x:=by
 rw[bq λz=>by rw[z,n] at h;cases h];exact h
theorem Mc {x1 x2 x3 a1 a2 a3}(hu:X.A.units+64<abn)(h1:PE X e1 (tL n1))(h2:PE X e2 (tL n2))(h3:PE X e3 (tL n3))(he:DE X G e false m g)
  (T7:s1≠s2:=by decide) (T8:s1≠s3:=by decide) (T9:s2≠s3:=by decide) (l1:n1.length<=ZH:=by decide) (l2:n2.length<=ZH:=by decide) (l3:n3.length<=ZH:=by decide) (ns:Hi e:=by exact λ_ _=>rfl) :
  DE X G (.Subscript (.Dict [some (.Constant (.str s1) x1 a1),some (.Constant (.str s2) x2 a2),some (.Constant (.str s3) x3 a3)] [e1,e2,e3] p0) e pos) false .O (SY [(s1,n1),(s2,n2),(s3,n3)] g):=by
 refine⟨(Lc (by lia) (Le (Dd:=[(tC (.str s1),tL n1),(tC (.str s2),tL n2),(tC (.str s3),tL n3)]) (ue xX h1 (ue xX h2 (ue xX h3 Ld))) rfl rfl (by simp) (by simp)) he.un ns).to λσ H Q h=>?_⟩;obtain⟨Z,A,ρ,q,f⟩:=h;intro p np p1 f1 p2 f2 p3 f3;have k1:H p1=none:=by
  by_cases c:p1=p
  ·rw[c];exact np
  ·rw[bq c] at f1;exact f1
 have k2:H p2=none:=by
  cases z:H p2 with
  |none=>rfl
  |some o=>rw[fX f1 (fX np z)] at f2;cases f2
 have k3:H p3=none:=by
  cases z:H p3 with
  |none=>rfl
  |some o=>rw[fX f2 (fX f1 (fX np z))] at f3;cases f3
 have gp:=fX (o:=.lst (n3.map V.int)) f3 (fX (o:=.lst (n2.map V.int)) f2 (fX (o:=.lst (n1.map V.int)) f1 (bC (H:=H) (a:=p) (o:=.dK []))));have g1:=fX (o:=.lst (n3.map V.int)) f3 (fX (o:=.lst (n2.map V.int)) f2 (bC (H:=cE H p (.dK [])) (a:=p1) (o:=.lst (n1.map V.int))));have g2:=fX (o:=.lst (n3.map V.int)) f3 (bC (H:=cE (cE H p (.dK [])) p1 (.lst (n1.map V.int))) (a:=p2) (o:=.lst (n2.map V.int)));have g3:=bC (H:=cE (cE (cE H p (.dK [])) p1 (.lst (n1.map V.int))) p2 (.lst (n2.map V.int))) (a:=p3) (o:=.lst (n3.map V.int));refine⟨gp,[(.inr s1,.ref p1),(.inr s2,.ref p2),(.inr s3,.ref p3)],rfl,by simp,?_⟩;rw[Qf (by simpa using T7) (by simpa using T8) (by simpa using T9)];generalize hH:cE (cE (cE (cE H p (.dK [])) p1 (.lst (n1.map V.int))) p2 (.lst (n2.map V.int))) p3 (.lst (n3.map V.int))=H3 at gp g1 g2 g3 ⊢;have pn:∀a xs,H3 a=some (.lst xs)->a≠p:=λa xs h z=>by rw[z,gp] at h;cases h
 have sm:aR H (cE H3 p (.dK [(.inr s1,.ref p1),(.inr s2,.ref p2),(.inr s3,.ref p3)])):=λb o eb=>by
  have nb:b≠p:=λz=>by rw[z,np] at eb;cases eb
  rw[bq nb,←hH];exact fX f3 (fX f2 (fX f1 (fX np eb)))
 refine⟨Z,A,ρ,q.same sm,?_⟩;obtain⟨⟨u,ρ1⟩,e1,f⟩:=f.bind;rw[e1];intro v H5 q5 x5 Yy vm;obtain⟨rfl,s5⟩:=Yy rfl;dsimp only at f;have hp:=s5 _ _ (bC (H:=H3) (a:=p) (o:=.dK [(.inr s1,.ref p1),(.inr s2,.ref p2),(.inr s3,.ref p3)]));have up:∀(a:ZY) (ms:List Int),H3 a=some (.lst (ms.map V.int))->H5 a=some (.lst (ms.map V.int)):=λa ms h=>s5 _ _ (by rw[bq (pn a _ h)];exact h);have st:aR H H5:=λb o eb=>s5 b o (sm b o eb);have fin:∀(a:ZY) (ms:List Int),H a=none->H5 a=some (.lst (ms.map V.int))->ms.length<=ZH->xl X.K G Z .O A ρ1 σ H5 (.lst (ms.map U.int)) (.ref a):=λa ms n h l=>DH.e q st ⟨a,rfl,n,_,h,by rw[Zz];exact l,mH ms⟩;have pk:=vm.pk;cases u with
 |str w=>
  unfold Pk at pk;subst pk;dsimp only at f;by_cases c1:w=s1
  ·subst c1;rw[aaj,beq_self_eq_true] at f;exact⟨p,.ref p1,rfl,.inl ⟨_,.inr w,.inl hp,rfl,by simp[pD]⟩,f _ _ q5 (fB.same st) (λ_=>⟨rfl,st⟩) (fin p1 n1 k1 (up _ _ g1) l1)⟩
  ·by_cases c2:w=s2
   ·subst c2;rw[aaj,beq_eq_false_iff_ne.mpr c1,aaj,beq_self_eq_true] at f;exact⟨p,.ref p2,rfl,.inl ⟨_,.inr w,.inl hp,rfl,by simp[pD,T7]⟩,f _ _ q5 (fB.same st) (λ_=>⟨rfl,st⟩) (fin p2 n2 k2 (up _ _ g2) l2)⟩
   ·by_cases c3:w=s3
    ·subst c3;rw[aaj,beq_eq_false_iff_ne.mpr c1,aaj,beq_eq_false_iff_ne.mpr c2,aaj,beq_self_eq_true] at f;exact⟨p,.ref p3,rfl,.inl ⟨_,.inr w,.inl hp,rfl,by simp[pD,T8,T9]⟩,f _ _ q5 (fB.same st) (λ_=>⟨rfl,st⟩) (fin p3 n3 k3 (up _ _ g3) l3)⟩
    ·rw[aaj,beq_eq_false_iff_ne.mpr c1,aaj,beq_eq_false_iff_ne.mpr c2,aaj,beq_eq_false_iff_ne.mpr c3,List.lookup_nil] at f;exact f.elim
 |_=>exact f.elim
end
end L2
noncomputable section
namespace Hc
open PySem L2
noncomputable abbrev CN:Gm:=⟨[false],false,λ_=>False⟩
noncomputable def oZ:Ev->SR:=(aV (zY (jQ "int" (ag 0)) (Ln (jQ "bool" (ag 0)))))
noncomputable def jX:List U->R U:=bO .S 1 oZ
noncomputable abbrev AZ:Gm:=⟨[false,false,false,true,false,false,false,false],false,λ_=>False⟩
noncomputable def mU:Ev->SR:=(aB (aY 3 (mI (af (ag 0) ao)))
 (aB (jx (Cp (af (ag 1) (af (ag 2) ao))) (dR 2 (aM (bL 4) (aM (bL 5) dQ)))
 (jx (Cp (af (ag 4) (af (aD bD (ag 1) (ag 5)) ao))) (dR 2 (aM (bL 6) (aM (bL 7) dQ)))
 (uD 3 (ag 7) (ag 6))))
 (aV (dP jP (af (ag 3) ao)))))
noncomputable def cZ:List U->R U:=bO .S 8 mU
noncomputable abbrev mV:Gm:=⟨[false,true,false,false],false,λ_=>False⟩
noncomputable def gT:Nat->Ev->SR
 |0=>λ_=>.stk
 |n+1=>let r_arrangements:=bO .O 4 (gT n)
  (aB (gJ (gB (aD (gc id) (dP cD (af (ag 0) ao)) (zqc 0))) (aV (bb (af (aU ao) ao))) a9)
 (aB (aY 1 (bb ao))
 (aB (jx (cC (ag 0)) (bL 2)
 (aB (aY 3 (eO (cC (ag 0)) [none,some 2] (bL 0) (gB (aD (gc not) (ag 0) (ag 1))) (ag 0)))
 (kW (gM "list" 1 gP (af (eO (cC (dw 1 r_arrangements (af (ag 3) ao))) [none,some 2] (bL 0) fT (aD dO (aU (af (ag 1) ao)) (ag 0))) ao)))))
 (aV (ag 1)))))
noncomputable def gU (n:Nat):List U->R U:=bO .O 4 (gT n)
noncomputable abbrev CO:Gm:=⟨[false,false],false,λ_=>False⟩
noncomputable def o7:Ev->SR:=(aB (gJ (gB (aD FA (dP cD (af (ag 1) ao)) (zqc 4))) (λ_=>.exc "TooMany" .non) a9)
 (aV (dP jP (af (eO (cC (dw 1 (gU 6) (af (mI (af (dP cD (af (ag 1) ao)) ao)) ao))) [none,some 0,some 1] (bL 0) fT (dw 3 cZ (af (ag 1) (af (ag 2) (af (ag 0) ao))))) ao))))
noncomputable def jY:List U->R U:=bO .S 2 o7
noncomputable abbrev Gd:Gm:=⟨[false],false,λ_=>False⟩
noncomputable def xQ:Ev->SR:=(aV (aU (af (aD gL (zqc 2) (ag 0)) (af (aD dO (aD gL (zqc 2) (ag 0)) (zqc 1)) ao))))
noncomputable def jH:List U->R U:=bO .S 1 xQ
noncomputable abbrev JQ:Gm:=⟨[false],false,λ_=>False⟩
noncomputable def vy:Ev->SR:=(aV (aU (af (zqb 0 1) (af (zqb 0 0) ao))))
noncomputable def eA:List U->R U:=bO .S 1 vy
noncomputable abbrev q_:Gm:=⟨[false,false,false],false,λ_=>False⟩
noncomputable def iJ:Ev->SR:=(aV (aU (af (gC (.str "mix")) (af (dw 2 jY (af (ag 0) (af (ag 1) ao))) (af (aU (af (gC (.str "look")) (af (aU (af (aD bD (zqb 1 0) (zqc 0)) ao)) (af (aU (af (aU (af (aU (af (zqc 0) ao)) (af (zqb 2 0) ao))) (af (aU (af (aU (af (zqc 1) ao)) (af (zqb 2 1) ao))) ao))) ao)))) ao)))))
noncomputable def cF:List U->R U:=bO .S 3 iJ
noncomputable abbrev Ge:Gm:=⟨[false,false],false,λ_=>False⟩
noncomputable def xR:Ev->SR:=(aV (aU (af (aD dO (aU (af (zqb 0 0) ao)) (dP jP (af (eO (cC (ag 1)) [none] (bL 0) fT (zqb 0 0)) ao))) (af (aD dO (aU (af (zqb 0 1) ao)) (dP jP (af (eO (cC (ag 1)) [none] (bL 0) fT (zqb 0 1)) ao))) ao))))
noncomputable def rf:List U->R U:=bO .S 2 xR
noncomputable abbrev CP:Gm:=⟨[false,false,false],false,λ_=>False⟩
noncomputable def vz:Ev->SR:=(aV (aU (af (aD dO (aU (af (zqb 0 0) ao)) (ag 1)) (af (aD dO (aU (af (zqb 0 1) ao)) (ag 2)) ao))))
noncomputable def lM:List U->R U:=bO .S 3 vz
noncomputable abbrev Gf:Gm:=⟨[false],false,λ_=>False⟩
noncomputable def cf:Ev->SR:=(aB (gJ (DJ (sP (gB (jQ "tuple" (ag 0)))) (gB (aD (gc id) (dP cD (af (ag 0) ao)) (zqc 0)))) (aV (gC (.bl false))) a9)
 (aB (gJ (gB (aD (gc id) (zqb 0 0) (gC (.str "bit")))) (aV (zY (aD (gc id) (dP cD (af (ag 0) ao)) (zqc 2)) (dw 1 jX (af (zqb 0 1) ao)))) a9)
 (aB (gJ (gB (aD (gc id) (zqb 0 0) (gC (.str "not")))) (aV (aD (gc id) (dP cD (af (ag 0) ao)) (zqc 2))) a9)
 (aV (zY (aD (gc id) (dP cD (af (ag 0) ao)) (zqc 3)) (aD (F5 id) (zqb 0 0) (aU (af (gC (.str "all")) (af (gC (.str "any")) (af (gC (.str "one")) ao))))))))))
noncomputable def bJ:List U->R U:=bO .S 1 cf
noncomputable abbrev qc:Gm:=⟨[false,true,false],false,λ_=>False⟩
noncomputable def cH:Ev->SR:=(gJ (gB (aD (kl not) (zqb 2 0) (gC (.str "bit")))) (kW (gM "list" 1 gP (af (z9 xr (ag 2) (iy (zqc 1)) i6) ao))) a9)
noncomputable def gW:Ev->SR:=(aB (aY 1 (bb ao))
 (aB (jx (cC (ag 0)) (bL 2)
 cH)
 (aV (ag 1))))
noncomputable def cg:List U->R U:=bO .O 3 gW
noncomputable abbrev yM:Gm:=⟨[false,false,false,true],false,λ_=>False⟩
noncomputable def lP:Ev->SR:=(aB (aY 1 (bb (af (ag 0) ao)))
 (aB (aY 2 (zqc 0))
 (aB (aY 3 (bb ao))
 (aB (iD (gB (aD FA (dP cD (af (ag 1) ao)) (zqc 0)))
 (aB (HP 2 (RV (λi j=>i+j)) (zqc 1))
 (aB (gJ (DJ (gB (aD FA (ag 2) (zqc 20))) (gB (aD FA (dP cD (af (ag 1) ao)) (zqc 3)))) (aV (gC (.bl false))) a9)
 (aB (gJ (sP (gB (dP B_ (af (eO (cC (ag 1)) [none] (bL 0) fT (dw 1 bJ (af (ag 0) ao))) ao)))) (aV (gC (.bl false))) a9)
 (aB (kW (gM "list" 3 gP (af (eO (cC (ag 1)) [none] (bL 0) (gB (aD (gc id) (zqb 0 0) (gC (.str "bit")))) (zqb 0 1)) ao)))
 (aY 1 (dw 1 cg (af (ag 1) ao))))))) 1000)
 (aV (zY (aD Ly (dP cD (af (ag 3) ao)) (zqc 3)) (aD (gc id) (dP kG (af (ag 3) ao)) (mI (af (dP cD (af (ag 3) ao)) ao)))))))))
noncomputable def d7:List U->R U:=bO .S 4 lP
noncomputable abbrev JR:Gm:=⟨[false,true,false],false,λ_=>False⟩
noncomputable def Gg:Ev->SR:=(kW (gM "list" 1 gP (af (bb (af (ag 2) (af (aD uE (zqc 1) (ag 2)) ao))) ao)))
noncomputable def A4:Ev->SR:=(aB (aY 1 (bb ao))
 (aB (jx (cC (ag 0)) (bL 2)
 Gg)
 (aV (dP jP (af (aD dO (ag 1) (bb (af (zqc 0) (af (zqc 1) ao)))) ao)))))
noncomputable def mW:List U->R U:=bO .S 3 A4
noncomputable abbrev vA:Gm:=⟨[false,false,false,false],false,λ_=>False⟩
noncomputable def eV:Nat->Ev->SR
 |0=>λ_=>.stk
 |n+1=>let r_steps_of:=bO .S 4 (eV n)
  (aB (gJ (gB (aD (kl id) (zqb 0 0) (gC (.str "bit")))) (aB (aY 2 (dw 1 jH (af (zqb 0 1) ao)))
 (aV (bb (af (MY (gB (ag 1)) (dw 1 eA (af (ag 2) ao)) (ag 2)) ao)))) a9)
 (aB (gJ (gB (aD (kl id) (zqb 0 0) (gC (.str "not")))) (aV (dw 2 r_steps_of (af (zqb 0 1) (af (Ln (ag 1)) ao)))) a9)
 (aB (gJ (gB (aD (kl id) (zqb 0 0) (gC (.str "one")))) (aV (aD dO (aD dO (dw 2 r_steps_of (af (zqb 0 1) (af (ag 1) ao))) (dw 2 r_steps_of (af (zqb 0 2) (af (gC (.bl false)) ao)))) (bb (af (gC (.str "one")) ao)))) a9)
 (aB (aY 3 (MY (gB (aD (kl not) (aD (kl id) (zqb 0 0) (gC (.str "all"))) (ag 1))) (gC (.str "all")) (gC (.str "any"))))
 (aV (aD dO (aD dO (dw 2 r_steps_of (af (zqb 0 1) (af (ag 1) ao))) (dw 2 r_steps_of (af (zqb 0 2) (af (ag 1) ao)))) (bb (af (ag 3) ao))))))))
noncomputable def eW (n:Nat):List U->R U:=bO .S 4 (eV n)
noncomputable abbrev CQ:Gm:=⟨[false,false,false,false],false,λ_=>False⟩
noncomputable def vB:Ev->SR:=(aB (gJ (gB (aD (kl id) (ag 0) (gC (.str "one")))) (aV (dw 2 rf (af (ag 1) (af (aU (af (ag 2) ao)) ao)))) a9)
 (aB (gJ (gB (aD (kl id) (ag 0) (gC (.str "all")))) (aV (dw 3 lM (af (ag 1) (af (ag 3) (af (ag 2) ao))))) a9)
 (aV (dw 3 lM (af (ag 1) (af (ag 2) (af (dw 1 eA (af (ag 3) ao)) ao)))))))
noncomputable def jZ:List U->R U:=bO .S 4 vB
noncomputable abbrev wz:Gm:=⟨[false,false,false,false],false,λ_=>False⟩
noncomputable def oz:Ev->SR:=(aB (gJ (gB (aD (kl id) (ag 0) (gC (.str "one")))) (aV (MY (gB (aD (kl id) (ag 3) (zqc 1))) (dw 1 eA (af (ag 2) ao)) (ag 2))) a9)
 (aV (z9 xr (aD bD (ag 1) (ag 3)) (iy (zqc 1)) i6)))
noncomputable def fL:List U->R U:=bO .S 4 oz
noncomputable abbrev sF:Gm:=⟨[false,false,false,false,false,false,false,false,true,false,false,false],false,λ_=>False⟩
noncomputable def dU:Nat->Ev->SR
 |0=>λ_=>.stk
 |n+1=>let r_plan_from:=bO .S 12 (dU n)
  (aB (gJ (gB (aD (kl id) (dP cD (af (ag 1) ao)) (zqc 0))) (aV (aU (af (gC (.str "end")) (af (zqb 2 0) ao)))) a9)
 (aB (aY 4 (zqb 1 0))
 (aB (gJ (gB (jQ "tuple" (ag 4))) (aV (dw 4 r_plan_from (af (ag 0) (af (z9 xr (ag 1) (iy (zqc 1)) i6) (af (aD dO (ag 2) (bb (af (ag 4) ao))) (af (ag 3) ao)))))) a9)
 (aB (aY 5 (aD bD (ag 2) (Lo yh (zqc 2))))
 (aB (aY 6 (aD bD (ag 2) (Lo yh (zqc 1))))
 (aB (aY 7 (dw 4 jZ (af (ag 4) (af (ag 5) (af (ag 6) (af (ag 3) ao))))))
 (aB (aY 8 (bb ao))
 (aB (jx (cC (aU (af (zqc 0) (af (zqc 1) ao)))) (bL 9)
 (aB (aY 10 (dw 4 fL (af (ag 4) (af (ag 7) (af (ag 6) (af (ag 9) ao))))))
 (aB (aY 11 (MY (gB (aD (kl id) (ag 9) (zqc 1))) (dw 1 eA (af (ag 5) ao)) (ag 5)))
 (kW (gM "list" 8 lJ (af (dw 4 r_plan_from (af (ag 0) (af (z9 xr (ag 1) (iy (zqc 1)) i6) (af (aD dO (z9 xr (ag 2) i6 (iy (Lo yh (zqc 2)))) (bb (af (ag 10) ao))) (af (ag 11) ao))))) ao))))))
 (wu 8 (aV (dw 3 cF (af (ag 0) (af (ag 7) (af (ag 8) ao))))))))))))))
noncomputable def aZ (n:Nat):List U->R U:=bO .S 12 (dU n)
noncomputable abbrev Gh:Gm:=⟨[false,false,false],false,λ_=>False⟩
noncomputable def rg:Ev->SR:=(aB (gJ (sP (gB (dw 1 d7 (af (ag 0) ao)))) (λ_=>.exc "NoFormula" .non) a9)
 (aB (aY 1 (dw 2 (eW 30) (af (ag 0) (af (gC (.bl false)) ao))))
 (aB (aY 2 (dP cD (af (eO (cC (ag 1)) [none] (bL 0) (gB (jQ "tuple" (ag 0))) (ag 0)) ao)))
 (aV (dw 4 (aZ 10) (af (aD dO (aD gL (zqc 2) (ag 2)) (zqc 2)) (af (ag 1) (af (bb ao) (af (dw 1 jH (af (ag 2) ao)) ao)))))))))
noncomputable def kZ:List U->R U:=bO .S 3 rg
noncomputable abbrev vC:Gm:=⟨[false,false],false,λ_=>False⟩
noncomputable def gX:Ev->SR:=(aB (gJ (gB (aD PH (ag 1) (dP cD (af (ag 0) ao)))) (aV (aD bD (ag 0) (ag 1))) a9)
 (aV (zqc 0)))
noncomputable def dG:List U->R U:=bO .S 2 gX
noncomputable abbrev yN:Gm:=⟨[false,false,false],false,λ_=>False⟩
noncomputable def jz:Ev->SR:=(aB (aY 2 (dw 2 dG (af (ag 0) (af (ag 1) ao))))
 (aB (gJ (gB (aD Vi (ag 2) (aD Lx (zqc 10) (zqc 18)))) (aV (bb (af (aD uE (ag 2) (aD Lx (zqc 10) (zqc 18))) (af (gC (.bl true)) ao)))) a9)
 (aV (bb (af (aD yg (ag 2) (zqc 2147483647)) (af (gC (.bl false)) ao))))))
noncomputable def gY:List U->R U:=bO .O 3 jz
noncomputable abbrev A5:Gm:=⟨[true,false,false,false],true,λ_=>False⟩
noncomputable def ky:Ev->SR:=(aB (gJ (gB (zqb 0 1)) (aB (aY 2 (aD yg (zqb 0 0) (ag 1)))
 (aB (uD 0 (aD xq (zqb 0 0) (ag 1)) (zqc 0))
 (aV (ag 2)))) a9)
 (aB (uD 0 (aD yg (aD dO (aD gL (zqb 0 0) (zqc 48271)) (zqc 29)) (zqc 2147483647)) (zqc 0))
 (aB (aY 3 (aD yg (aD dO (aD dO (aD gL (zqb 0 0) (zqb 0 0)) (aD gL (zqc 39373) (zqb 0 0))) (zqc 7)) (zqc 2147483629)))
 (aB (aY 3 (aD yg (aD dO (aD gL (ag 3) (ag 3)) (aD gL (zqc 16807) (ag 3))) (zqc 2147483587)))
 (aV (aD yg (aD xq (ag 3) (zqc 8)) (ag 1)))))))
noncomputable def bp:List U->R (U×U):=Ac 4 ky
noncomputable abbrev vD:Gm:=⟨[false,false],false,λ_=>False⟩
noncomputable def mX:Ev->SR:=(aB (aY 0 (dP Lz (af (ag 0) ao)))
 (aB (aY 1 (dP Lz (af (ag 1) ao)))
 (aB (iD (gB (aD FA (ag 1) (zqc 0)))
 (Pp 0 1 (af (ag 1) (af (aD yg (ag 0) (ag 1)) ao))) 1000)
 (aV (ag 0)))))
noncomputable def j0:List U->R U:=bO .S 2 mX
noncomputable abbrev yO:Gm:=⟨[false,false,false],false,λ_=>False⟩
noncomputable def qd:Ev->SR:=(aB (aY 2 (dw 2 j0 (af (ag 0) (af (ag 1) ao))))
 (aV (aU (af (aD xq (ag 0) (ag 2)) (af (aD xq (ag 1) (ag 2)) ao)))))
noncomputable def d8:List U->R U:=bO .S 3 qd
noncomputable abbrev A6:Gm:=⟨[false,false],false,λ_=>False⟩
noncomputable def mY:Ev->SR:=(aV (dP jP (af (eO (cC (ag 1)) [none,some 0] (bL 0) fT (aD bD (ag 1) (ag 0))) ao)))
noncomputable def bH:List U->R U:=bO .S 2 mY
noncomputable abbrev qe:Gm:=⟨[false,false,false,false,false,true,false,false,false,false],false,λ_=>False⟩
noncomputable def c7:Nat->Ev->SR
 |0=>λ_=>.stk
 |n+1=>let r__law_paths:=bO .S 10 (c7 n)
  (aB (gJ (gB (aD (gc id) (zqb 0 0) (gC (.str "again")))) (aV (bb (af (aU (af (ag 4) (af (gC .non) (af (ag 3) ao)))) ao))) a9)
 (aB (gJ (gB (aD (gc id) (zqb 0 0) (gC (.str "end")))) (aV (bb (af (aU (af (ag 4) (af (dw 2 bH (af (ag 1) (af (zqb 0 1) ao))) (af (ag 3) ao)))) ao))) a9)
 (aB (gJ (gB (aD (gc id) (zqb 0 0) (gC (.str "lay")))) (aV (dw 5 r__law_paths (af (zqb 0 2) (af (dw 2 bH (af (ag 1) (af (zqb 0 1) ao))) (af (ag 2) (af (ag 3) (af (ag 4) ao))))))) a9)
 (aB (gJ (gB (aD (gc id) (zqb 0 0) (gC (.str "mix")))) (aB (aY 5 (bb ao))
 (aB (jx (cC (zqb 0 1)) (bL 6)
 (kW (gM "list" 5 gP (af (dw 5 r__law_paths (af (zqb 0 2) (af (dw 2 bH (af (ag 1) (af (ag 6) ao))) (af (ag 2) (af (aD gL (ag 3) (dP cD (af (zqb 0 1) ao))) (af (ag 4) ao)))))) ao))))
 (aV (ag 5)))) a9)
 (aB (aY 7 (dw 2 bH (af (ag 1) (af (zqb 0 1) ao))))
 (aB (jx (cC (zqb 0 2)) (dR 2 (aM (bL 8) (aM (bL 9) dQ)))
 (gJ (gB (aD (gc id) (ag 8) (ag 7))) (aV (dw 5 r__law_paths (af (ag 9) (af (ag 1) (af (ag 2) (af (ag 3) (af (aD dO (ag 4) (aU (af (ag 7) ao))) ao))))))) a9))
 (aV (bb (af (aU (af (ag 4) (af (aU (af (gC (.str "no way")) (af (ag 7) ao))) (af (ag 3) ao)))) ao)))))))))
noncomputable def aW (n:Nat):List U->R U:=bO .S 10 (c7 n)
noncomputable abbrev yP:Gm:=⟨[false,false,false,false],false,λ_=>False⟩
noncomputable def wA:Ev->SR:=(aY 1 (dw 2 d8 (af (aD dO (aD gL (zqb 1 0) (ag 3)) (aD gL (ag 2) (zqb 1 1))) (af (aD gL (zqb 1 1) (ag 3)) ao))))
noncomputable def qf:Ev->SR:=(aB (aY 1 (aU (af (zqc 0) (af (zqc 1) ao))))
 (aB (jx (cC (ag 0)) (dR 2 (aM (bL 2) (aM (bL 3) dQ)))
 wA)
 (aV (ag 1))))
noncomputable def gZ:List U->R U:=bO .S 4 qf
noncomputable abbrev wB:Gm:=⟨[false,false,true,false,false,false,false,true,false,false,false],false,λ_=>False⟩
noncomputable def vE:Ev->SR:=(aB (aY 8 (eO (cC (dP p9 (af (aD FG (ag 2) (ag 3)) ao))) [none,some 2,some 3] (bL 0) fT (aU (af (ag 0) (af (dw 1 gZ (af (aD FG (aD FG (ag 1) (ag 2)) (ag 0)) ao)) ao)))))
 (aB (aY 9 (dw 1 gZ (af (eO (cC (ag 8)) [none,none] (dR 2 (aM (bL 0) (aM (bL 1) dQ))) fT (ag 1)) ao)))
 (aB (aY 10 (eO (cC (ag 8)) [none,none,some 9] (dR 2 (aM (bL 0) (aM (bL 1) dQ))) fT (aU (af (ag 0) (af (dw 2 d8 (af (aD gL (zqb 1 0) (zqb 2 1)) (af (aD gL (zqb 1 1) (zqb 2 0)) ao))) ao)))))
 (kW (gM "list" 7 lJ (af (aU (af (ag 3) (af (dw 2 d8 (af (aD gL (zqb 9 0) (zqb 6 1)) (af (aD gL (zqb 9 1) (zqb 6 0)) ao))) (af (ag 10) ao)))) ao))))))
noncomputable def oA:Ev->SR:=(aB (aY 1 (dw 1 gZ (af (eO (cC (ag 0)) [none,none,none] (dR 3 (aM (bL 0) (aM (bL 1) (aM (bL 2) dQ)))) (gB (aD (sR id) (ag 1) (gC .non))) (aU (af (zqc 1) (af (ag 2) ao)))) ao)))
 (aB (aY 2 Vl)
 (aB (JM 2 (N1 2 (cC (ag 0)) (dR 3 (aM (bL 3) (aM (bL 4) (aM (bL 5) dQ))))
 (SS 2 (gB (aD (sR not) (ag 4) (gC .non))) (SV 2 (EH 2 (JO 0) (EH 2 (JO 1) (JN 2) (ag 3)) (ag 4)) (aU (af (zqc 1) (af (ag 5) ao)))) a9)))
 (wu 2 (aB (aY 6 (dw 2 d8 (af (aD uE (zqb 1 1) (zqb 1 0)) (af (zqb 1 1) ao))))
 (aB (gJ (gB (aD (gc id) (zqb 6 0) (zqc 0))) (aV (aU (af (ag 1) (af (gC .non) ao)))) a9)
 (aB (aY 7 (bb ao))
 (aB (jx (cC (dP CM (af (ag 2) ao))) (bL 3)
 vE)
 (wu 7 (aV (aU (af (ag 1) (af (ag 7) ao)))))))))))))
noncomputable def iY:List U->R U:=bO .S 11 oA
noncomputable abbrev A7:Gm:=⟨[false,false,false,false,false],false,λ_=>False⟩
noncomputable def mZ:Ev->SR:=(aB (aY 2 (dw 5 (aW 10) (af (ag 0) (af (ag 1) (af (ag 1) (af (zqc 1) (af (aU ao) ao)))))))
 (aB (aY 3 (eO (cC (ag 2)) [none,none,none] (dR 3 (aM (bL 0) (aM (bL 1) (aM (bL 2) dQ)))) (qJ (gB (aD (sR not) (ag 1) (gC .non))) (gB (aD (gc id) (z9 xr (ag 1) i6 (iy (zqc 1))) (aU (af (gC (.str "no way")) ao))))) (zqb 1 1)))
 (aB (gJ (gB (aD (gc not) (ag 3) (bb ao))) (aV (aU (af (gC (.str "way")) (af (ag 3) ao)))) a9)
 (aB (aY 4 (aD bD (dw 1 iY (af (ag 2) ao)) (zqc 1)))
 (aB (gJ (gB (aD (sR id) (ag 4) (gC .non))) (aV (aU (af (gC (.str "end")) (af (bb ao) ao)))) a9)
 (aV (aU (af (gC (.str "walked")) (af (ag 4) ao)))))))))
noncomputable def c8:List U->R U:=bO .S 5 mZ
noncomputable abbrev lQ:Gm:=⟨[true,false,true],true,λ_=>False⟩
noncomputable def lR:Ev->SR:=(aB (aY 2 (mI (af (ag 1) ao)))
 (aV (dP jP (af (Ls lQ (pN (af (ag 1) ao)) [none,some 2,some 0] (bL 0) fT (gM "list" 1 qO (af (xn 2 2 bp (af (dP cD (af (ag 1) ao)) ao)) ao))) ao))))
noncomputable def g0:List U->R (U×U):=Ac 3 lR
noncomputable abbrev qg:Gm:=⟨[false,false,false,false,false,false,false],false,λ_=>False⟩
noncomputable def c9:Nat->Ev->SR
 |0=>λ_=>.stk
 |n+1=>let r__law_sound:=bO .S 7 (c9 n)
  (aB (gJ (qJ (gB (aD (gc id) (zqb 0 0) (gC (.str "end")))) (gB (aD (gc id) (dP cD (af (ag 0) ao)) (zqc 2)))) (aB (aY 3 (eO (cC (zqb 0 1)) [none,some 1] (bL 0) (sP (gB (oP Ly PH (zqc 0) (ag 0) (ag 1)))) (ag 0)))
 (aB (gJ (DJ (gB (aD (gc not) (ag 3) (bb ao))) (DJ (gB (aD (gc not) (dP nP (af (zqb 0 1) ao)) (dP cD (af (zqb 0 1) ao)))) (qJ (gB (ag 2)) (gB (aD PH (dP cD (af (zqb 0 1) ao)) (ag 1)))))) (aV (gC .non)) a9)
 (aV (MY (gB (aD FA (dP cD (af (zqb 0 1) ao)) (zqc 0))) (aU (af (zqc 1) (af (zqc 1) ao))) (gC .non))))) a9)
 (aB (aY 4 (bb ao))
 (aB (gJ (qJ (gB (aD (gc id) (zqb 0 0) (gC (.str "look")))) (gB (aD (gc id) (dP cD (af (ag 0) ao)) (zqc 3)))) (aB (aY 5 (eO (cC (zqb 0 2)) [none] (bL 0) fT (zqb 0 0)))
 (gJ (qJ (gB (aD (gc id) (ag 5) (dP jU (af (ag 5) ao)))) (gB (aD (gc id) (eO (cC (ag 5)) [none,some 0] (bL 0) (gB (aD (gc not) (dP cD (af (ag 0) ao)) (dP cD (af (zqb 1 1) ao)))) (ag 0)) (bb ao)))) (aY 4 (eO (cC (zqb 0 2)) [none] (bL 0) fT (zqb 0 1))) a9)) a9)
 (aB (gJ (qJ (gB (aD (gc id) (zqb 0 0) (gC (.str "lay")))) (qJ (gB (aD (gc id) (dP cD (af (ag 0) ao)) (zqc 3))) (gB (aD (gc id) (dP p9 (af (zqb 0 1) ao)) (mI (af (ag 1) ao)))))) (aY 4 (bb (af (zqb 0 2) ao))) a9)
 (aB (gJ (qJ (gB (aD (gc id) (zqb 0 0) (gC (.str "mix")))) (qJ (gB (aD (gc id) (dP cD (af (ag 0) ao)) (zqc 3))) (gB (oP Ly Ly (zqc 1) (dP cD (af (zqb 0 1) ao)) (zqc 24))))) (gJ (gB (aD (gc id) (eO (cC (zqb 0 1)) [none,some 1] (bL 0) (gB (aD (gc not) (dP p9 (af (ag 0) ao)) (mI (af (ag 1) ao)))) (ag 0)) (bb ao))) (aY 4 (bb (af (zqb 0 2) ao))) a9) a9)
 (aB (aY 6 (eO (cC (ag 4)) [none,some 1,some 2] (bL 0) fT (dw 3 r__law_sound (af (ag 0) (af (ag 1) (af (ag 2) ao))))))
 (aB (gJ (DJ (gB (aD (gc id) (ag 6) (bb ao))) (gB (aD (F5 id) (gC .non) (ag 6)))) (aV (gC .non)) a9)
 (aV (aU (af (aD dO (zqc 1) (dP vh (af (eO (cC (ag 6)) [none] (bL 0) fT (zqb 0 0)) ao))) (af (aD dO (zqc 1) (dP vi (af (eO (cC (ag 6)) [none] (bL 0) fT (zqb 0 1)) ao))) ao)))))))))))
noncomputable def a_ (n:Nat):List U->R U:=bO .S 7 (c9 n)
noncomputable abbrev A8:Gm:=⟨[false],false,λ_=>False⟩
noncomputable def m4:Ev->SR:=(aV (aU (af (ag 0) (af (aD uE (zqc 1) (ag 0)) ao))))
noncomputable def i8:List U->R U:=bO .S 1 m4
noncomputable abbrev m6:Gm:=⟨[true,false,false,false,false,false],true,λ_=>False⟩
noncomputable def eX:Nat->Ev->SR
 |0=>λ_=>.stk
 |n+1=>let r__law_formula:=Ac 6 (eX n)
  (aB (gJ (gB (aD (gc id) (dP cD (af (ag 1) ao)) (zqc 1))) (aY 2 (aU (af (gC (.str "bit")) (af (zqb 1 0) ao)))) (aB (aY 3 (aD dO (zqc 1) (xn 2 0 bp (af (aD uE (dP cD (af (ag 1) ao)) (zqc 1)) ao))))
 (aB (aY 4 (bb (af (xn 2 0 r__law_formula (af (z9 xr (ag 1) i6 (iy (ag 3))) ao)) (af (xn 2 0 r__law_formula (af (z9 xr (ag 1) (iy (ag 3)) i6) ao)) ao))))
 (aY 2 (aU (af (aD bD (bb (af (gC (.str "all")) (af (gC (.str "any")) (af (gC (.str "one")) ao)))) (xn 2 0 bp (af (zqc 3) ao))) (af (zqb 4 0) (af (zqb 4 1) ao))))))))
 (aB (jx (pN (af (aD bD (bb (af (zqc 0) (af (zqc 0) (af (zqc 0) (af (zqc 1) (af (zqc 1) (af (zqc 2) ao))))))) (xn 2 0 bp (af (zqc 6) ao))) ao)) (bL 5)
 (aY 2 (aU (af (gC (.str "not")) (af (ag 2) ao)))))
 (aV (ag 2))))
noncomputable def bZ (n:Nat):List U->R (U×U):=Ac 6 (eX n)
noncomputable abbrev n9:Gm:=⟨[true,false],true,λ_=>False⟩
noncomputable def fF:Ev->SR:=(aB (aY 1 (xn 2 0 g0 (af (aD dO (zqc 1) (xn 2 0 bp (af (zqc 3) ao))) ao)))
 (aV (xn 2 0 (bZ 6) (af (ag 1) ao))))
noncomputable def dB:List U->R (U×U):=Ac 2 fF
noncomputable abbrev qh:Gm:=⟨[false,false,false],false,λ_=>False⟩
noncomputable def c_:Nat->Ev->SR
 |0=>λ_=>.stk
 |n+1=>let r__law_worth:=bO .S 3 (c_ n)
  (aB (gJ (gB (aD (kl id) (zqb 0 0) (gC (.str "bit")))) (aV (aD bD (ag 1) (zqb 0 1))) a9)
 (aB (gJ (gB (aD (kl id) (zqb 0 0) (gC (.str "not")))) (aV (aD uE (zqc 1) (dw 2 r__law_worth (af (zqb 0 1) (af (ag 1) ao))))) a9)
 (aB (aY 2 (aD dO (dw 2 r__law_worth (af (zqb 0 1) (af (ag 1) ao))) (dw 2 r__law_worth (af (zqb 0 2) (af (ag 1) ao)))))
 (aV (dP PJ (af (aD (F5 id) (ag 2) (SY [("all",[2]),("any",[1,2]),("one",[1])] (zqb 0 0))) ao))))))
noncomputable def de (n:Nat):List U->R U:=bO .S 3 (c_ n)
noncomputable abbrev m7:Gm:=⟨[false,false,false],false,λ_=>False⟩
noncomputable def b6:Nat->Ev->SR
 |0=>λ_=>.stk
 |n+1=>let r__law_bits_in:=bO .O 3 (b6 n)
  (aB (gJ (gB (aD (kl id) (zqb 0 0) (gC (.str "bit")))) (aV (bb (af (zqb 0 1) ao))) a9)
 (aB (aY 1 (bb ao))
 (aB (jx (cC (z9 xr (ag 0) (iy (zqc 1)) i6)) (bL 2)
 (aY 1 (aD dO (ag 1) (dw 1 r__law_bits_in (af (ag 2) ao)))))
 (aV (dP kG (af (ag 1) ao))))))
noncomputable def b9 (n:Nat):List U->R U:=bO .O 3 (b6 n)
noncomputable abbrev sU:Gm:=⟨[false,false,false],false,λ_=>False⟩
noncomputable def rh:Ev->SR:=(aY 1 (aD dO (eO (cC (ag 1)) [none] (bL 0) fT (aD dO (ag 0) (aU (af (zqc 0) ao)))) (eO (cC (ag 1)) [none] (bL 0) fT (aD dO (ag 0) (aU (af (zqc 1) ao))))))
noncomputable def l8:Ev->SR:=(aB (aY 1 (bb (af (aU ao) ao)))
 (aB (jx (pN (af (ag 0) ao)) (bL 2)
 rh)
 (aV (ag 1))))
noncomputable def eB:List U->R U:=bO .S 3 l8
noncomputable abbrev n_:Gm:=⟨[false,false,false,false],false,λ_=>False⟩
noncomputable def fG:Ev->SR:=(aB (Fy (dR 2 (aM (bL 2) (aM (bL 3) dQ))) (dw 2 c8 (af (ag 0) (af (ag 1) ao))))
 (aB (gJ (gB (aD (gc not) (ag 2) (gC (.str "walked")))) (aV (gC .non)) a9)
 (aV (eO (cC (ag 3)) [none,none,none] (dR 3 (aM (bL 0) (aM (bL 1) (aM (bL 2) dQ)))) fT (aU (af (ag 0) (af (ag 1) ao)))))))
noncomputable def cx:List U->R U:=bO .S 4 fG
noncomputable abbrev vF:Gm:=⟨[false,false,false,false,true,false,false,false],false,λ_=>False⟩
noncomputable def l9:Ev->SR:=(kW (gM "list" 4 gP (af (eO (cC (ag 7)) [none,none] (dR 2 (aM (bL 0) (aM (bL 1) dQ))) fT (ag 0)) ao)))
noncomputable def j1:Ev->SR:=(aB (Fy (dR 2 (aM (bL 2) (aM (bL 3) dQ))) (dw 2 c8 (af (ag 0) (af (ag 1) ao))))
 (aB (gJ (gB (aD (gc not) (ag 2) (gC (.str "walked")))) (aV (gC .non)) a9)
 (aB (aY 4 (bb ao))
 (aB (jx (cC (ag 3)) (dR 3 (aM (bL 5) (aM (bL 6) (aM (bL 7) dQ))))
 l9)
 (aV (dP jU (af (ag 4) ao)))))))
noncomputable def eY:List U->R U:=bO .S 8 j1
noncomputable abbrev sG:Gm:=⟨[false,false],false,λ_=>False⟩
noncomputable def kz:Nat->Ev->SR
 |0=>λ_=>.stk
 |n+1=>let r__law_same:=bO .S 2 (kz n)
  (aB (gJ (gB (Iw "tuple" "list" (ag 1))) (aB (gJ (DJ (gB (aD (gc not) (jQ "tuple" (ag 0)) (jQ "tuple" (ag 1)))) (gB (aD (gc not) (jQ "list" (ag 0)) (jQ "list" (ag 1))))) (aV (gC (.bl false))) a9)
 (aB (gJ (gB (aD (gc not) (dP cD (af (ag 0) ao)) (dP cD (af (ag 1) ao)))) (aV (gC (.bl false))) a9)
 (aV (dP B_ (af (eO (Cp (af (ag 0) (af (ag 1) ao))) [none,none] (dR 2 (aM (bL 0) (aM (bL 1) dQ))) fT (dw 2 r__law_same (af (ag 0) (af (ag 1) ao)))) ao))))) a9)
 (aV (zY (aD (gc id) (ag 0) (ag 1)) (aD (gc id) (jQ "bool" (ag 0)) (jQ "bool" (ag 1))))))
noncomputable def i9 (n:Nat):List U->R U:=bO .S 2 (kz n)
noncomputable abbrev vG:Gm:=⟨[false,false,false],false,λ_=>False⟩
noncomputable def sV:Ev->SR:=(aY 1 (aD dO (ag 1) (aU (af (ag 2) (af (aD uE (zqc 1) (ag 2)) ao)))))
noncomputable def m9:Ev->SR:=(aB (aY 1 (aU ao))
 (aB (jx (cC (aD dO (ag 0) (aU (af (zqc 0) ao)))) (bL 2)
 sV)
 (aV (ag 1))))
noncomputable def eZ:List U->R U:=bO .S 3 m9
noncomputable abbrev yQ:Gm:=⟨[false,false,false,false,true,false,false],false,λ_=>False⟩
noncomputable def kJ:Ev->SR:=(aB (aY 6 (dw 1 mW (af (ag 5) ao)))
 (aB (gJ (DJ (sP (gB (dw 2 (i9 6) (af (ag 6) (af (dw 1 eZ (af (ag 5) ao)) ao))))) (gB (aD (gc not) (dw 2 eY (af (ag 2) (af (ag 6) ao))) (bb (af (dw 1 i8 (af (dw 2 (de 30) (af (ag 0) (af (ag 5) ao))) ao)) ao))))) (aV (gC (.bl false))) a9)
 (kW (gM "list" 4 lJ (af (dw 2 cx (af (ag 2) (af (ag 6) ao))) ao)))))
noncomputable def lS:Ev->SR:=(aB (aY 1 (dP cD (af (dw 1 (b9 30) (af (ag 0) ao)) ao)))
 (aB (aY 2 (dw 1 kZ (af (ag 0) ao)))
 (aB (aY 3 (dw 3 (a_ 10) (af (ag 2) (af (aD dO (aD gL (zqc 2) (ag 1)) (zqc 2)) (af (gC (.bl false)) ao)))))
 (aB (gJ (DJ (gB (aD (sR id) (ag 3) (gC .non))) (DJ (gB (aD FA (zqb 3 0) (zqc 40))) (gB (aD FA (zqb 3 1) (zqc 12))))) (aV (gC (.bl false))) a9)
 (aB (aY 4 (bb ao))
 (aB (jx (cC (dw 1 eB (af (ag 1) ao))) (bL 5)
 kJ)
 (wu 4 (aV (aD (gc id) (eO (cC (ag 4)) [none,some 4] (bL 0) (gB (aD (gc not) (ag 0) (zqb 1 0))) (ag 0)) (bb ao))))))))))
noncomputable def g6:List U->R U:=bO .S 7 lS
noncomputable abbrev S0:Gm:=⟨[false,false,true,false,false,false],false,λ_=>False⟩
noncomputable def yR:Ev->SR:=(aY 4 (aU (af (gC (.str "not")) (af (ag 4) ao))))
noncomputable def yS:Ev->SR:=(aB (aY 2 (dw 2 gY (af (ag 0) (af (ag 1) ao))))
 (aB (aY 3 (xn 1 2 dB ao))
 (aB (aY 4 (ag 3))
 (aB (jx (pN (af (xn 2 2 bp (af (zqc 11) ao)) ao)) (bL 5)
 yR)
 (gJ (DJ (sP (gB (dw 1 g6 (af (ag 3) ao)))) (sP (gB (dw 1 g6 (af (ag 4) ao))))) (aV (gC (.bl false))) a9)))))
noncomputable def JS:Ev->SR:=(aB (jx (pN (af (dP DZ (af (zqc 1) (af (dP D0 (af (dP cD (af (ag 0) ao)) (af (zqc 3) ao))) ao))) ao)) (bL 1)
 yS)
 (aV (gC (.bl true))))
noncomputable def A9:List U->R U:=bO .S 6 JS
end Hc
end
namespace Hc
open L2
noncomputable abbrev k7:aca:=top 5
noncomputable abbrev iK:aca:=top 8
noncomputable abbrev bV:aca:=top 9
noncomputable abbrev j2:aca:=top 10
noncomputable abbrev nR:aca:=top 12
noncomputable abbrev nU:aca:=top 13
noncomputable abbrev eH:aca:=top 14
noncomputable abbrev i_:aca:=top 15
noncomputable abbrev jI:aca:=top 16
noncomputable abbrev nV:aca:=top 20
noncomputable abbrev cT:aca:=top 21
noncomputable abbrev e_:aca:=top 22
noncomputable abbrev rj:aca:=top 23
noncomputable abbrev j3:aca:=top 24
noncomputable abbrev k8:aca:=top 25
noncomputable abbrev gf:aca:=top 26
noncomputable abbrev iL:aca:=top 27
noncomputable abbrev lT:aca:=top 28
noncomputable abbrev iM:aca:=top 30
noncomputable abbrev jJ:aca:=top 31
noncomputable abbrev k9:aca:=top 32
noncomputable abbrev gj:aca:=top 33
noncomputable abbrev jK:aca:=top 34
noncomputable abbrev j4:aca:=top 35
noncomputable abbrev iN:aca:=top 36
noncomputable abbrev dk:aca:=top 37
noncomputable abbrev jL:aca:=top 38
noncomputable abbrev j5:aca:=top 39
noncomputable abbrev iO:aca:=top 40
noncomputable abbrev bS:aca:=top 41
noncomputable abbrev k_:aca:=top 42
noncomputable abbrev fb:aca:=top 43
noncomputable abbrev cU:aca:=top 44
noncomputable abbrev iP:aca:=top 45
noncomputable abbrev fY:aca:=top 46
noncomputable abbrev dW:aca:=top 47
noncomputable abbrev cu:aca:=top 48
noncomputable abbrev fc:aca:=top 49
noncomputable abbrev ja:aca:=top 50
noncomputable abbrev iQ:aca:=top 51
noncomputable abbrev iR:aca:=top 52
noncomputable abbrev A_:aca:=top 53
abbrev Bd (x:Str)(ps:List Str)(s:aca):Prop:=∀(kV qB pm:ZF) (an:Option ZY) (cc ct:ZF) (us:List ZF),us.length=ps.length->bindArgs (abi x x (gF s) (cJ s) (aq s) .none kV qB pm an cc ct) ⟨us,[]⟩=pure (ps.zip us)
def kQ {P:List Str}{sc:aeD}(a:sc.kind=.function:=by rfl)(b:sc.isCoroutine=false:=by rfl)(c:sc.isGenerator=false:=by rfl)(d:N.Nodup:=by decide+kernel)(e:N.take P.length=P:=by rfl)(f:∀x∈P,sc.names.lookup x=some .local\/sc.names.lookup x=some .cell:=by decide+kernel)(g:∀y∈sc.names,y.2≠.free:=by decide+kernel):aK N P sc:=⟨a,b,c,d,e,f,g⟩
def rm {A:aar}(r:gE k A)(h:j<=k:=by first|decide|lia):gE j A:=r.mono h
def Ba:aK ["thing"] ["thing"] (aq k7):=kQ
theorem Bb:Bd "is_whole" ["thing"] k7:=λ_ _ _ _ _ _ us hl=>match us,hl with|[_],_=>rfl
def fw:aK ["many","piles","sources","order","pile","source","place","origin"] ["many","piles","sources"] (aq iK):=kQ
theorem yT:Bd "exchanged" ["many","piles","sources"] iK:=λ_ _ _ _ _ _ us hl=>match us,hl with|[_,_,_],_=>rfl
def eC:aK ["numbers","told","number","rest"] ["numbers"] (aq bV):=kQ
theorem l_:Bd "arrangements" ["numbers"] bV:=λ_ _ _ _ _ _ us hl=>match us,hl with|[_],_=>rfl
def Bc:aK ["many","piles"] ["many","piles"] (aq j2):=kQ
theorem Be:Bd "pile_mix" ["many","piles"] j2:=λ_ _ _ _ _ _ us hl=>match us,hl with|[_,_],_=>rfl
def CS:aK ["number"] ["number"] (aq nR):=kQ
theorem CT:Bd "pair_at" ["number"] nR:=λ_ _ _ _ _ _ us hl=>match us,hl with|[_],_=>rfl
def Gi:aK ["pair"] ["pair"] (aq nU):=kQ
theorem Gj:Bd "turned" ["pair"] nU:=λ_ _ _ _ _ _ us hl=>match us,hl with|[_],_=>rfl
def qi:aK ["many","piles","plans"] ["many","piles","plans"] (aq eH):=kQ
theorem qj:Bd "mixed_and_seen" ["many","piles","plans"] eH:=λ_ _ _ _ _ _ us hl=>match us,hl with|[_,_,_],_=>rfl
def CU:aK ["one","others"] ["one","others"] (aq i_):=kQ
theorem CV:Bd "turning" ["one","others"] i_:=λ_ _ _ _ _ _ us hl=>match us,hl with|[_,_],_=>rfl
def Bf:aK ["one","low","high"] ["one","low","high"] (aq jI):=kQ
theorem Bg:Bd "choosing" ["one","low","high"] jI:=λ_ _ _ _ _ _ us hl=>match us,hl with|[_,_,_],_=>rfl
def CW:aK ["thing"] ["thing"] (aq nV):=kQ
theorem CY:Bd "is_made" ["thing"] nV:=λ_ _ _ _ _ _ us hl=>match us,hl with|[_],_=>rfl
def fZ:aK ["formulas","inner","formula"] ["formulas"] (aq cT):=kQ
theorem o8:Bd "formulas_within" ["formulas"] cT:=λ_ _ _ _ _ _ us hl=>match us,hl with|[_],_=>rfl
def eJ:aK ["thing","level","depth","bits"] ["thing"] (aq e_):=kQ
theorem wC:Bd "is_formula" ["thing"] e_:=λ_ _ _ _ _ _ us hl=>match us,hl with|[_],_=>rfl
def rn:aK ["bits","cards","bit"] ["bits"] (aq rj):=kQ
theorem Gk:Bd "row_of" ["bits"] rj:=λ_ _ _ _ _ _ us hl=>match us,hl with|[_],_=>rfl
def kA:aK ["formula","against","pair","gate"] ["formula","against"] (aq j3):=kQ
theorem sH:Bd "steps_of" ["formula","against"] j3:=λ_ _ _ _ _ _ us hl=>match us,hl with|[_,_],_=>rfl
def Bh:aK ["gate","one","other","free"] ["gate","one","other","free"] (aq k8):=kQ
theorem Bi:Bd "piles_of" ["gate","one","other","free"] k8:=λ_ _ _ _ _ _ us hl=>match us,hl with|[_,_,_,_],_=>rfl
def vH:aK ["gate","piles","other","seen"] ["gate","piles","other","seen"] (aq gf):=kQ
theorem vI:Bd "pair_behind" ["gate","piles","other","seen"] gf:=λ_ _ _ _ _ _ us hl=>match us,hl with|[_,_,_,_],_=>rfl
def bW:aK ["many","steps","pairs","free","step","one","other","piles","plans","seen","told","freed"] ["many","steps","pairs","free"] (aq iL):=kQ
theorem qk:Bd "plan_from" ["many","steps","pairs","free"] iL:=λ_ _ _ _ _ _ us hl=>match us,hl with|[_,_,_,_],_=>rfl
def o9:aK ["formula","steps","free"] ["formula"] (aq lT):=kQ
theorem CZ:Bd "plan_of" ["formula"] lT:=λ_ _ _ _ _ _ us hl=>match us,hl with|[_],_=>rfl
def sW:aK ["script","k"] ["script","k"] (aq iM):=kQ
theorem sX:Bd "_law_cell_at" ["script","k"] iM:=λ_ _ _ _ _ _ us hl=>match us,hl with|[_,_],_=>rfl
def oB:aK ["script","k","cell"] ["script","k"] (aq jJ):=kQ
theorem wD:Bd "_law_state" ["script","k"] jJ:=λ_ _ _ _ _ _ us hl=>match us,hl with|[_,_],_=>rfl
def jA:aK ["state","many","found","mixed"] ["state","many"] (aq k9):=kQ
theorem yU:Bd "_law_take" ["state","many"] k9:=λ_ _ _ _ _ _ us hl=>match us,hl with|[_,_],_=>rfl
def fQ:aK ["one","other"] ["one","other"] (aq gj):=kQ
theorem sY:Bd "_law_divisor" ["one","other"] gj:=λ_ _ _ _ _ _ us hl=>match us,hl with|[_,_],_=>rfl
def oC:aK ["top","bottom","by"] ["top","bottom"] (aq jK):=kQ
theorem wF:Bd "_law_ratio" ["top","bottom"] jK:=λ_ _ _ _ _ _ us hl=>match us,hl with|[_,_],_=>rfl
def yV:aK ["row","order"] ["row","order"] (aq j4):=kQ
theorem yW:Bd "_law_laid" ["row","order"] j4:=λ_ _ _ _ _ _ us hl=>match us,hl with|[_,_],_=>rfl
def dq:aK ["plan","row","start","bottom","trace","found","order","seen","some","part"] ["plan","row","start","bottom","trace"] (aq iN):=kQ
theorem oD:Bd "_law_paths" ["plan","row","start","bottom","trace"] iN:=λ_ _ _ _ _ _ us hl=>match us,hl with|[_,_,_,_,_],_=>rfl
def bu:aK ["paths","again","ends","trace","result","bottom","ending","found","shares","whole","results"] ["paths"] (aq dk):=kQ
theorem vJ:Bd "_law_walked" ["paths"] dk:=λ_ _ _ _ _ _ us hl=>match us,hl with|[_],_=>rfl
def fM:aK ["some","found","top","bottom"] ["some"] (aq jL):=kQ
theorem wG:Bd "_law_total" ["some"] jL:=λ_ _ _ _ _ _ us hl=>match us,hl with|[_],_=>rfl
def jB:aK ["plan","row","paths","lost","found"] ["plan","row"] (aq j5):=kQ
theorem yX:Bd "_law_gone" ["plan","row"] j5:=λ_ _ _ _ _ _ us hl=>match us,hl with|[_,_],_=>rfl
def oE:aK ["state","many","left"] ["state","many"] (aq iO):=kQ
theorem wH:Bd "_law_order" ["state","many"] iO:=λ_ _ _ _ _ _ us hl=>match us,hl with|[_,_],_=>rfl
def bX:aK ["plan","many","full","odd","parts","seen","found"] ["plan","many","full"] (aq bS):=kQ
theorem oF:Bd "_law_sound" ["plan","many","full"] bS:=λ_ _ _ _ _ _ us hl=>match us,hl with|[_,_,_],_=>rfl
def yY:aK ["bit"] ["bit"] (aq k_):=kQ
theorem yZ:Bd "_law_pair" ["bit"] k_:=λ_ _ _ _ _ _ us hl=>match us,hl with|[_],_=>rfl
def bP:aK ["state","bits","found","cut_at","parts","turn"] ["state","bits"] (aq fb):=kQ
theorem ma:Bd "_law_formula" ["state","bits"] fb:=λ_ _ _ _ _ _ us hl=>match us,hl with|[_,_],_=>rfl
def jb:aK ["state","bits"] ["state"] (aq cU):=kQ
theorem m_:Bd "_law_some_formula" ["state"] cU:=λ_ _ _ _ _ _ us hl=>match us,hl with|[_],_=>rfl
def kK:aK ["formula","bits","count"] ["formula","bits"] (aq iP):=kQ
theorem oG:Bd "_law_worth" ["formula","bits"] iP:=λ_ _ _ _ _ _ us hl=>match us,hl with|[_,_],_=>rfl
def eD:aK ["formula","found","part"] ["formula"] (aq fY):=kQ
theorem md:Bd "_law_bits_in" ["formula"] fY:=λ_ _ _ _ _ _ us hl=>match us,hl with|[_],_=>rfl
def fx:aK ["count","found","k"] ["count"] (aq dW):=kQ
theorem rq:Bd "_law_all_bits" ["count"] dW:=λ_ _ _ _ _ _ us hl=>match us,hl with|[_],_=>rfl
def ff:aK ["plan","row","word","found"] ["plan","row"] (aq cu):=kQ
theorem ng:Bd "_law_seen_chances" ["plan","row"] cu:=λ_ _ _ _ _ _ us hl=>match us,hl with|[_,_],_=>rfl
def cv:aK ["plan","row","word","found","told","trace","chance","results"] ["plan","row"] (aq fc):=kQ
theorem sZ:Bd "_law_results" ["plan","row"] fc:=λ_ _ _ _ _ _ us hl=>match us,hl with|[_,_],_=>rfl
def qm:aK ["found","due"] ["found","due"] (aq ja):=kQ
theorem qo:Bd "_law_same" ["found","due"] ja:=λ_ _ _ _ _ _ us hl=>match us,hl with|[_,_],_=>rfl
def fR:aK ["bits","found","bit"] ["bits"] (aq iQ):=kQ
theorem s9:Bd "_law_row_due" ["bits"] iQ:=λ_ _ _ _ _ _ us hl=>match us,hl with|[_],_=>rfl
def du:aK ["formula","count","plan","size","seen","bits","row"] ["formula"] (aq iR):=kQ
theorem wI:Bd "_law_right" ["formula"] iR:=λ_ _ _ _ _ _ us hl=>match us,hl with|[_],_=>rfl
def o_:aK ["script","k","state","formula","more","turn"] ["script"] (aq A_):=kQ
structure Txt (mg:Str->Option ZF):Prop where
 zkq:mg "abs"=none
 zmq:mg "all"=none
 zhq:mg "bool"=none
 zlq:mg "int"=none
 zcq:mg "isinstance"=none
 znq:mg "len"=none
 ziq:mg "list"=none
 zoq:mg "max"=none
 zrq:mg "min"=none
 zfq:mg "range"=none
 zjq:mg "set"=none
 zeq:mg "sorted"=none
 zqq:mg "sum"=none
 zgq:mg "tuple"=none
 zpq:mg "zip"=none
 zdq:∃tk,mg "MOST_BITS"=some (.int 3 tk)
 zaq:∃tk,mg "MOST_FORMULAS_WITHIN"=some (.int 20 tk)
 zbq:∃tk,mg "MOST_PILES_MIXED"=some (.int 4 tk)
end Hc
namespace Hc
open L2
section
variable {base:abT}
def Bj (T:Txt mg)  (j7:Df K mg "is_whole" k7):Fn P w K mg base "is_whole" 1 ["thing"] (dz K 1 jX .S):=by
 refine Df.fnD (N:=["thing"]) (ps:=["thing"]) (st:=k7) (k:=0) CN .S oZ j7 Ba Bb rfl (by decide) ?_;intro f cc A outer s0 H E hr;have hu:=hr.units;have iZ:=br hr;exact (ar (aF (uv (ha:=(gO (T:="int") (by decide) (ai 0) T.zcq T.zlq Hq)) (hb:=(uw (HD (gO (T:="bool") (by decide) (ai 0) T.zcq T.zhq yb)))))))
def y8 (T:Txt mg)  (jd:Df K mg "exchanged" iK):Fn P w K mg base "exchanged" 1 ["many","piles","sources"] (dz K 3 cZ .S):=by
 refine Df.fnD (N:=["many","piles","sources","order","pile","source","place","origin"]) (ps:=["many","piles","sources"]) (st:=iK) (k:=0) AZ .S mU jd fw yT rfl (by decide) ?_;intro f cc A outer s0 H E hr;have hu:=hr.units;have iZ:=br hr;exact (ak (ft (i:=3) fw.nd (nJ rfl (ae (ai 0) ah) T.ziq T.zfq))
 (ak (eL aaf rfl (Cq (ae (ai 1) (ae (ai 2) ah)) T.zpq) (fS rfl (aQ (ay (i:=4) fw.nd) (aQ (ay (i:=5) fw.nd) dZ)))
 (ar (eL aaf rfl (Cq (ae (ai 4) (ae (az au aw (ai 1) (ai 5) (λ_ _=>rfl)) ah)) T.zpq) (fS rfl (aQ (ay (i:=6) fw.nd) (aQ (ay (i:=7) fw.nd) dZ)))
 (ar (yf (i:=3) (ai 7) (ai 6))))))
 (ar (aF (f7 di iE (by rfl) T.zgq dD (ae (gH 3) ah))))))
theorem s_ (T:Txt mg)  (dH:Df K mg "arrangements" bV):∀n,Fn P w K mg base "arrangements" (n+1) ["numbers"] (dz K 1 (gU n) .O):=by
 intro n
 induction n with
 |zero=>
  refine Df.fnD (N:=["numbers","told","number","rest"]) (ps:=["numbers"]) (st:=bV) (k:=0) mV .O (gT 0) dH eC l_ rfl (by decide) ?_;intro f cc A outer s0 H E hr;have hu:=hr.units;have iZ:=br hr;exact jy
 |succ n fh=>
  refine Df.fnD (N:=["numbers","told","number","rest"]) (ps:=["numbers"]) (st:=bV) (k:=n+1) mV .O (gT (n+1)) dH eC l_ rfl (by decide) ?_;intro f cc A outer s0 H E hr;have hu:=hr.units;have iZ:=br hr;exact (ak (bB (aH (bF hu) (a6 (f:=id)) (aI aX bg (by rfl) T.znq bG (ae (ai 0) ah)) aj (aE _)) (ar (pM (ba (ae (aP ah) ah)))) aL)
 (ak (ft (i:=1) eC.nd (ba ah))
 (ak (eL aaf rfl (bj (ai 0)) (ay (i:=2) eC.nd)
 (ak (gb (i:=3) (aq bV) ["numbers","told","number","rest"] ["other","number"] [none,some 2] eC.nd rfl (bj (ai 0)) (λY=>⟨(ay (i:=0) (show (["other","number"]:List Str).Nodup by decide+kernel)),(gK (aH (iA hu) (a6 (f:=not)) (ai 0) (ai 1) (aE _))),(ai 0)⟩))
 (ar (jw (kE (i:=1) aaq abb abc nK iG (ae (dF (aq bV) ["numbers","told","number","rest"] ["more","number"] [none,some 2] rfl (bj (m1:=.O) (ax fh (rm hr) (ae (ai 3) ah))) (λY=>⟨(ay (i:=0) (show (["more","number"]:List Str).Nodup by decide+kernel)),bM,(aS bc bf (aP (ae (ai 1) ah)) (ai 0))⟩)) ah))))))
 (ar (yd (i:=1) (hi:=by decide))))))
theorem Bk (T:Txt mg)(ny:Fn P w K mg base "exchanged" 1 ["many","piles","sources"] (dz K 3 cZ .S))(fh:∀n,Fn P w K mg base "arrangements" (n+1) ["numbers"] (dz K 1 (gU n) .O))(j8:Df K mg "pile_mix" j2):Fn P w K mg base "pile_mix" 8 ["many","piles"] (dz K 2 jY .S):=by
 obtain⟨jt,zbq⟩:=T.zbq;refine Df.fnD (N:=["many","piles"]) (ps:=["many","piles"]) (st:=j2) (k:=7) CO .S o7 j8 Bc Be rfl (by decide) ?_;intro f cc A outer s0 H E hr;have hu:=hr.units;have iZ:=br hr;exact (ak (bB (aH rL mJ (aI aX bg (by rfl) T.znq bG (ae (ai 1) ah)) (pK (i:=4) rfl zbq) (aE _)) (ar (Iz λ_=>⟨_,_,rfl⟩)) aL)
 (ar (aF (f7 di iE (by rfl) T.zgq dD (ae (dF (aq j2) ["many","piles"] ["sources","many","piles"] [none,some 0,some 1] rfl (bj (m1:=.O) (ax (fh 6) (rm hr) (ae (nJ rfl (ae (aI aX bg (by rfl) T.znq bG (ae (ai 1) ah)) ah) T.ziq T.zfq) ah))) (λY=>⟨(ay (i:=0) (show (["sources","many","piles"]:List Str).Nodup by decide+kernel)),bM,(ax ny (rm hr) (ae (ai 1) (ae (ai 2) (ae (ai 0) ah))))⟩)) ah)))))
def C0 (T:Txt mg)  (lj:Df K mg "pair_at" nR):Fn P w K mg base "pair_at" 1 ["number"] (dz K 1 jH .S):=by
 refine Df.fnD (N:=["number"]) (ps:=["number"]) (st:=nR) (k:=0) Gd .S xQ lj CS CT rfl (by decide) ?_;intro f cc A outer s0 H E hr;have hu:=hr.units;have iZ:=br hr;exact (ar (aF (aP (ae (aS eQ cX aj (ai 0)) (ae (aS bc bf (aS eQ cX aj (ai 0)) aj) ah)))))
def Gn (T:Txt mg)  (nA:Df K mg "turned" nU):Fn P w K mg base "turned" 1 ["pair"] (dz K 1 eA .S):=by
 refine Df.fnD (N:=["pair"]) (ps:=["pair"]) (st:=nU) (k:=0) JQ .S vy nA Gi Gj rfl (by decide) ?_;intro f cc A outer s0 H E hr;have hu:=hr.units;have iZ:=br hr;exact (ar (aF (aP (ae (zqa 0) (ae (zqa 0) ah)))))
def qp (T:Txt mg)(pz:Fn P w K mg base "pile_mix" 8 ["many","piles"] (dz K 2 jY .S))(dI:Df K mg "mixed_and_seen" eH):Fn P w K mg base "mixed_and_seen" 9 ["many","piles","plans"] (dz K 3 cF .S):=by
 refine Df.fnD (N:=["many","piles","plans"]) (ps:=["many","piles","plans"]) (st:=eH) (k:=8) q_ .S iJ dI qi qj rfl (by decide) ?_;intro f cc A outer s0 H E hr;have hu:=hr.units;have iZ:=br hr;exact (ar (aF (aP (ae a8 (ae (ax pz (rm hr) (ae (ai 0) (ae (ai 1) ah))) (ae (aP (ae a8 (ae (aP (ae (az au aw (zqa 1) aj (λ_ _=>rfl)) ah)) (ae (aP (ae (aP (ae (aP (ae aj ah)) (ae (zqa 2) ah))) (ae (aP (ae (aP (ae aj ah)) (ae (zqa 2) ah))) ah))) ah)))) ah))))))
def C1 (T:Txt mg)  (lr:Df K mg "turning" i_):Fn P w K mg base "turning" 1 ["one","others"] (dz K 2 rf .S):=by
 refine Df.fnD (N:=["one","others"]) (ps:=["one","others"]) (st:=i_) (k:=0) Ge .S xR lr CU CV rfl (by decide) ?_;intro f cc A outer s0 H E hr;have hu:=hr.units;have iZ:=br hr;exact (ar (aF (aP (ae (aS bc bf (aP (ae (zqa 0) ah)) (f7 di iE (by rfl) T.zgq dD (ae (dF (aq i_) ["one","others"] ["pair"] [none] rfl (bj (ai 1)) (λY=>⟨(ay (i:=0) (show (["pair"]:List Str).Nodup by decide+kernel)),bM,(zqa 0)⟩)) ah))) (ae (aS bc bf (aP (ae (zqa 0) ah)) (f7 di iE (by rfl) T.zgq dD (ae (dF (aq i_) ["one","others"] ["pair"] [none] rfl (bj (ai 1)) (λY=>⟨(ay (i:=0) (show (["pair"]:List Str).Nodup by decide+kernel)),bM,(zqa 0)⟩)) ah))) ah)))))
def Bl (T:Txt mg)  (j9:Df K mg "choosing" jI):Fn P w K mg base "choosing" 1 ["one","low","high"] (dz K 3 lM .S):=by
 refine Df.fnD (N:=["one","low","high"]) (ps:=["one","low","high"]) (st:=jI) (k:=0) CP .S vz j9 Bf Bg rfl (by decide) ?_;intro f cc A outer s0 H E hr;have hu:=hr.units;have iZ:=br hr;exact (ar (aF (aP (ae (aS bc bf (aP (ae (zqa 0) ah)) (ai 1)) (ae (aS bc bf (aP (ae (zqa 0) ah)) (ai 2)) ah)))))
def C2 (T:Txt mg)(pA:Fn P w K mg base "is_whole" 1 ["thing"] (dz K 1 jX .S))(lu:Df K mg "is_made" nV):Fn P w K mg base "is_made" 2 ["thing"] (dz K 1 bJ .S):=by
 refine Df.fnD (N:=["thing"]) (ps:=["thing"]) (st:=nV) (k:=1) Gf .S cf lu CW CY rfl (by decide) ?_;intro f cc A outer s0 H E hr;have hu:=hr.units;have iZ:=br hr;exact (ak (bB (DW.dt (oq (oO (jl (gO (T:="tuple") (by decide) (ai 0) T.zcq T.zgq dD))) (mC (aH (bF hu) (a6 (f:=id)) (aI aX bg (by rfl) T.znq bG (ae (ai 0) ah)) aj (aE _))))) (ar (aF km)) aL)
 (ak (bB (aH (bF hu) (a6 (f:=id)) (zqa 0) a8 (aE _)) (ar (aF (uv (ha:=(jN (bF hu) (a6 (f:=id)) (aI aX bg (by rfl) T.znq bG (ae (ai 0) ah)) aj (aE _))) (hb:=(uw (ax pA (rm hr) (ae (zqa 0) ah))))))) aL)
 (ak (bB (aH (bF hu) (a6 (f:=id)) (zqa 0) a8 (aE _)) (ar (aF (jN (bF hu) (a6 (f:=id)) (aI aX bg (by rfl) T.znq bG (ae (ai 0) ah)) aj (aE _)))) aL)
 (ar (aF (uv (ha:=(jN (bF hu) (a6 (f:=id)) (aI aX bg (by rfl) T.znq bG (ae (ai 0) ah)) aj (aE _))) (hb:=(uw (jN (CG hu) CH (zqa 0) (aP (ae a8 (ae a8 (ae a8 ah)))) (by with_unfolding_all rfl))))))))))
def pf (T:Txt mg)  (dg:Df K mg "formulas_within" cT):Fn P w K mg base "formulas_within" 1 ["formulas"] (dz K 1 cg .O):=by
 refine Df.fnD (N:=["formulas","inner","formula"]) (ps:=["formulas"]) (st:=cT) (k:=0) qc .O gW dg fZ o8 rfl (by decide) ?_;intro f cc A outer s0 H E hr;have hu:=hr.units;have iZ:=br hr;exact (ak (ft (i:=1) fZ.nd (ba ah))
 (ak (eL aaf rfl (bj (ai 0)) (ay (i:=2) fZ.nd)
 (ar (bB (aH MQ EF (zqa 2) a8 (aE _)) (ar (jw (kE (i:=1) aaq abb abc nK iG (ae (gI gN lH (ai 2) (jv aj) ju) ah)))) aL)))
 (ar (yd (i:=1) (hi:=by decide)))))
theorem wJ (T:Txt mg)(rG:Fn P w K mg base "is_made" 2 ["thing"] (dz K 1 bJ .S))(g8:Fn P w K mg base "formulas_within" 1 ["formulas"] (dz K 1 cg .O))(g9:Df K mg "is_formula" e_):Fn P w K mg base "is_formula" 3 ["thing"] (dz K 1 d7 .S):=by
 obtain⟨qA,zdq⟩:=T.zdq;obtain⟨gx,zaq⟩:=T.zaq;refine Df.fnD (N:=["thing","level","depth","bits"]) (ps:=["thing"]) (st:=e_) (k:=2) yM .S lP g9 eJ wC rfl (by decide) ?_;intro f cc A outer s0 H E hr;have hu:=hr.units;have iZ:=br hr;exact (ak (aT (i:=1) eJ.nd (ba (ae (ai 0) ah)))
 (ak (aT (i:=2) eJ.nd aj)
 (ak (ft (i:=3) eJ.nd (ba ah))
 (ak (Aa aaf (aH rL mJ (aI aX bg (by rfl) T.znq bG (ae (ai 1) ah)) aj (aE _))
 (ak (PD (i:=2) OY eJ.nd aj)
 (ak (bB (DW.dt (oq (aH rL mJ (ai 2) (pK (i:=20) rfl zaq) (aE _)) (mC (aH rL mJ (aI aX bg (by rfl) T.znq bG (ae (ai 1) ah)) (pK (i:=3) rfl zdq) (aE _))))) (ar (aF km)) aL)
 (ak (bB (oO (jl (aI (xk rfl) D1 (by rfl) T.zmq Hu (ae (dF (aq e_) ["thing","level","depth","bits"] ["part"] [none] rfl (bj (ai 1)) (λY=>⟨(ay (i:=0) (show (["part"]:List Str).Nodup by decide+kernel)),bM,(ax rG (rm hr) (ae (ai 0) ah))⟩)) ah)))) (ar (aF km)) aL)
 (ak (jw (kE (i:=3) aaq abb abc nK iG (ae (dF (aq e_) ["thing","level","depth","bits"] ["part"] [none] rfl (bj (ai 1)) (λY=>⟨(ay (i:=0) (show (["part"]:List Str).Nodup by decide+kernel)),(gK (aH (bF hu) (a6 (f:=id)) (zqa 0) a8 (aE _))),(zqa 0)⟩)) ah)))
 (ar (aT (i:=1) eJ.nd (ax g8 (rm hr) (ae (ai 1) ah)))))))))
 (ar (aF (uv (ha:=(jN Ds yn (aI aX bg (by rfl) T.znq bG (ae (gH 3) ah)) (pK (i:=3) rfl zdq) (aE _))) (hb:=(uw (jN (bF hu) (a6 (f:=id)) (aI lB qM (by rfl) T.zeq iB (ae (gH 3) ah)) (nJ rfl (ae (aI aX bg (by rfl) T.znq bG (ae (gH 3) ah)) ah) T.ziq T.zfq) (aE _)))))))))))
def Gp (T:Txt mg)  (nB:Df K mg "row_of" rj):Fn P w K mg base "row_of" 1 ["bits"] (dz K 1 mW .S):=by
 refine Df.fnD (N:=["bits","cards","bit"]) (ps:=["bits"]) (st:=rj) (k:=0) JR .S A4 nB rn Gk rfl (by decide) ?_;intro f cc A outer s0 H E hr;have hu:=hr.units;have iZ:=br hr;exact (ak (ft (i:=1) rn.nd (ba ah))
 (ak (eL aaf rfl (bj (ai 0)) (ay (i:=2) rn.nd)
 (ar (jw (kE (i:=1) aaq abb abc nK iG (ae (ba (ae (ai 2) (ae (aS oK lF aj (ai 2)) ah))) ah)))))
 (ar (aF (f7 di iE (by rfl) T.zgq dD (ae (aS bc bf (gH 1) (ba (ae aj (ae aj ah)))) ah))))))
theorem Bm (T:Txt mg)(jM:Fn P w K mg base "pair_at" 1 ["number"] (dz K 1 jH .S))(eE:Fn P w K mg base "turned" 1 ["pair"] (dz K 1 eA .S))(iS:Df K mg "steps_of" j3):∀n,Fn P w K mg base "steps_of" (n+2) ["formula","against"] (dz K 2 (eW n) .S):=by
 intro n
 induction n with
 |zero=>
  refine Df.fnD (N:=["formula","against","pair","gate"]) (ps:=["formula","against"]) (st:=j3) (k:=1) vA .S (eV 0) iS kA sH rfl (by decide) ?_;intro f cc A outer s0 H E hr;have hu:=hr.units;have iZ:=br hr;exact jy
 |succ n d_=>
  refine Df.fnD (N:=["formula","against","pair","gate"]) (ps:=["formula","against"]) (st:=j3) (k:=n+2) vA .S (eV (n+1)) iS kA sH rfl (by decide) ?_;intro f cc A outer s0 H E hr;have hu:=hr.units;have iZ:=br hr;exact (ak (bB (aH kR fu (zqa 0) a8 (aE _)) (ak (aT (i:=2) kA.nd (ax jM (rm hr) (ae (zqa 0) ah)))
 (ar (aF (ba (ae (mD (hc:=(jl (ai 1))) (ha:=(ax eE (rm hr) (ae (ai 2) ah))) (hb:=(ai 2))) ah))))) aL)
 (ak (bB (aH kR fu (zqa 0) a8 (aE _)) (ar (aF (ax d_ (rm hr) (ae (zqa 0) (ae (HD (ai 1)) ah))))) aL)
 (ak (bB (aH kR fu (zqa 0) a8 (aE _)) (ar (aF (aS bc bf (aS bc bf (ax d_ (rm hr) (ae (zqa 0) (ae (ai 1) ah))) (ax d_ (rm hr) (ae (zqa 0) (ae km ah)))) (ba (ae a8 ah))))) aL)
 (ak (aT (i:=3) kA.nd (mD (hc:=(aH MQ EF (jN kR fu (zqa 0) a8 (aE _)) (ai 1) (aE _))) (ha:=a8) (hb:=a8)))
 (ar (aF (aS bc bf (aS bc bf (ax d_ (rm hr) (ae (zqa 0) (ae (ai 1) ah))) (ax d_ (rm hr) (ae (zqa 0) (ae (ai 1) ah)))) (ba (ae (ai 3) ah)))))))))
def Bn (T:Txt mg)(eE:Fn P w K mg base "turned" 1 ["pair"] (dz K 1 eA .S))(rH:Fn P w K mg base "turning" 1 ["one","others"] (dz K 2 rf .S))(l0:Fn P w K mg base "choosing" 1 ["one","low","high"] (dz K 3 lM .S))(j_:Df K mg "piles_of" k8):Fn P w K mg base "piles_of" 2 ["gate","one","other","free"] (dz K 4 jZ .S):=by
 refine Df.fnD (N:=["gate","one","other","free"]) (ps:=["gate","one","other","free"]) (st:=k8) (k:=1) CQ .S vB j_ Bh Bi rfl (by decide) ?_;intro f cc A outer s0 H E hr;have hu:=hr.units;have iZ:=br hr;exact (ak (bB (aH kR fu (ai 0) a8 (aE _)) (ar (aF (ax rH (rm hr) (ae (ai 1) (ae (aP (ae (ai 2) ah)) ah))))) aL)
 (ak (bB (aH kR fu (ai 0) a8 (aE _)) (ar (aF (ax l0 (rm hr) (ae (ai 1) (ae (ai 3) (ae (ai 2) ah)))))) aL)
 (ar (aF (ax l0 (rm hr) (ae (ai 1) (ae (ai 2) (ae (ax eE (rm hr) (ae (ai 3) ah)) ah))))))))
def vK (T:Txt mg)(eE:Fn P w K mg base "turned" 1 ["pair"] (dz K 1 eA .S))(fN:Df K mg "pair_behind" gf):Fn P w K mg base "pair_behind" 2 ["gate","piles","other","seen"] (dz K 4 fL .S):=by
 refine Df.fnD (N:=["gate","piles","other","seen"]) (ps:=["gate","piles","other","seen"]) (st:=gf) (k:=1) wz .S oz fN vH vI rfl (by decide) ?_;intro f cc A outer s0 H E hr;have hu:=hr.units;have iZ:=br hr;exact (ak (bB (aH kR fu (ai 0) a8 (aE _)) (ar (aF (mD (hc:=(aH kR fu (ai 3) aj (aE _))) (ha:=(ax eE (rm hr) (ae (ai 2) ah))) (hb:=(ai 2))))) aL)
 (ar (aF (gI gN lH (az au aw (ai 1) (ai 3) (λ_ _=>rfl)) (jv aj) ju))))
theorem y9 (T:Txt mg)(eE:Fn P w K mg base "turned" 1 ["pair"] (dz K 1 eA .S))(iT:Fn P w K mg base "mixed_and_seen" 9 ["many","piles","plans"] (dz K 3 cF .S))(pB:Fn P w K mg base "piles_of" 2 ["gate","one","other","free"] (dz K 4 jZ .S))(kO:Fn P w K mg base "pair_behind" 2 ["gate","piles","other","seen"] (dz K 4 fL .S))(gm:Df K mg "plan_from" iL):∀n,Fn P w K mg base "plan_from" (n+10) ["many","steps","pairs","free"] (dz K 4 (aZ n) .S):=by
 intro n
 induction n with
 |zero=>
  refine Df.fnD (N:=["many","steps","pairs","free","step","one","other","piles","plans","seen","told","freed"]) (ps:=["many","steps","pairs","free"]) (st:=iL) (k:=9) sF .S (dU 0) gm bW qk rfl (by decide) ?_;intro f cc A outer s0 H E hr;have hu:=hr.units;have iZ:=br hr;exact jy
 |succ n gq=>
  refine Df.fnD (N:=["many","steps","pairs","free","step","one","other","piles","plans","seen","told","freed"]) (ps:=["many","steps","pairs","free"]) (st:=iL) (k:=n+10) sF .S (dU (n+1)) gm bW qk rfl (by decide) ?_;intro f cc A outer s0 H E hr;have hu:=hr.units;have iZ:=br hr;exact (ak (bB (aH kR fu (aI aX bg (by rfl) T.znq bG (ae (ai 1) ah)) aj (aE _)) (ar (aF (aP (ae a8 (ae (zqa 2) ah))))) aL)
 (ak (aT (i:=4) bW.nd (zqa 1))
 (ak (bB (jl (gO (T:="tuple") (by decide) (ai 4) T.zcq T.zgq dD)) (ar (aF (ax gq (rm hr) (Ky (aJ (ai 0) (aJ (gI gN lH (ai 1) (jv aj) ju) (aJ (aS bc bf (ai 2) (ba (ae (ai 4) ah))) (aJ (ai 3) iW)))))))) aL)
 (ak (aT (i:=5) bW.nd (az au aw (ai 2) (HF BN yi aj) (λ_ _=>rfl)))
 (ak (aT (i:=6) bW.nd (az au aw (ai 2) (HF BN yi aj) (λ_ _=>rfl)))
 (ak (aT (i:=7) bW.nd (ax pB (rm hr) (Ky (aJ (ai 4) (aJ (ai 5) (aJ (ai 6) (aJ (ai 3) iW)))))))
 (ak (ft (i:=8) bW.nd (ba ah))
 (ak (eL aaf rfl (bj (aP (ae aj (ae aj ah)))) (ay (i:=9) bW.nd)
 (ak (aT (i:=10) bW.nd (ax kO (rm hr) (Ky (aJ (ai 4) (aJ (ai 7) (aJ (ai 6) (aJ (ai 9) iW)))))))
 (ak (aT (i:=11) bW.nd (mD (hc:=(aH kR fu (ai 9) aj (aE _))) (ha:=(ax eE (rm hr) (ae (ai 5) ah))) (hb:=(ai 5))))
 (ar (jw (kE (i:=8) aaq ab9 ab_ nD oR (ae (ax gq (rm hr) (Ky (aJ (ai 0) (aJ (gI gN lH (ai 1) (jv aj) ju) (aJ (aS bc bf (gI gN lH (ai 2) ju (jv (HF BN yi aj))) (ba (ae (ai 10) ah))) (aJ (ai 11) iW)))))) ah)))))))
 (tR 8 (ar (aF (ax iT (rm hr) (ae (ai 0) (ae (ai 7) (ae (ai 8) ah)))))))))))))))
def C3 (T:Txt mg)(jM:Fn P w K mg base "pair_at" 1 ["number"] (dz K 1 jH .S))(l4:Fn P w K mg base "is_formula" 3 ["thing"] (dz K 1 d7 .S))(d_:∀n,Fn P w K mg base "steps_of" (n+2) ["formula","against"] (dz K 2 (eW n) .S))(gq:∀n,Fn P w K mg base "plan_from" (n+10) ["many","steps","pairs","free"] (dz K 4 (aZ n) .S))(lx:Df K mg "plan_of" lT):Fn P w K mg base "plan_of" 33 ["formula"] (dz K 1 kZ .S):=by
 refine Df.fnD (N:=["formula","steps","free"]) (ps:=["formula"]) (st:=lT) (k:=32) Gh .S rg lx o9 CZ rfl (by decide) ?_;intro f cc A outer s0 H E hr;have hu:=hr.units;have iZ:=br hr;exact (ak (bB (oO (jl (ax l4 (rm hr) (ae (ai 0) ah)))) (ar (Iz λ_=>⟨_,_,rfl⟩)) aL)
 (ak (aT (i:=1) o9.nd (ax (d_ 30) (rm hr) (ae (ai 0) (ae km ah))))
 (ak (aT (i:=2) o9.nd (aI aX bg (by rfl) T.znq bG (ae (dF (aq lT) ["formula","steps","free"] ["step"] [none] rfl (bj (ai 1)) (λY=>⟨(ay (i:=0) (show (["step"]:List Str).Nodup by decide+kernel)),(gK (jl (gO (T:="tuple") (by decide) (ai 0) T.zcq T.zgq dD))),(ai 0)⟩)) ah)))
 (ar (aF (ax (gq 10) (rm hr) (Ky (aJ (aS bc bf (aS eQ cX aj (ai 2)) aj) (aJ (ai 1) (aJ (ba ah) (aJ (ax jM (rm hr) (ae (ai 2) ah)) iW)))))))))))
def tm (T:Txt mg)  (fi:Df K mg "_law_cell_at" iM):Fn P w K mg base "_law_cell_at" 1 ["script","k"] (dz K 2 dG .S):=by
 refine Df.fnD (N:=["script","k"]) (ps:=["script","k"]) (st:=iM) (k:=0) vC .S gX fi sW sX rfl (by decide) ?_;intro f cc A outer s0 H E hr;have hu:=hr.units;have iZ:=br hr;exact (ak (bB (aH G0 Cc (ai 1) (aI aX bg (by rfl) T.znq bG (ae (ai 0) ah)) (aE _)) (ar (aF (az au aw (ai 0) (ai 1) (λ_ _=>rfl)))) aL)
 (ar (aF aj)))
def wK (T:Txt mg)(ke:Fn P w K mg base "_law_cell_at" 1 ["script","k"] (dz K 2 dG .S))(g_:Df K mg "_law_state" jJ):Fn P w K mg base "_law_state" 2 ["script","k"] (dz K 2 gY .O):=by
 refine Df.fnD (N:=["script","k","cell"]) (ps:=["script","k"]) (st:=jJ) (k:=1) yN .O jz g_ oB wD rfl (by decide) ?_;intro f cc A outer s0 H E hr;have hu:=hr.units;have iZ:=br hr;exact (ak (aT (i:=2) oB.nd (ax ke (rm hr) (ae (ai 0) (ae (ai 1) ah))))
 (ak (bB (aH Rq PL (ai 2) (aS GZ DR aj aj) (aE _)) (ar (pM (ba (ae (aS oK lF (ai 2) (aS GZ DR aj aj)) (ae km ah))))) aL)
 (ar (pM (ba (ae (aS oM lG (ai 2) aj) (ae km ah)))))))
def y_ (T:Txt mg)  (je:Df K mg "_law_take" k9):Fn P w K mg base "_law_take" 1 ["state","many"] (GF K 2 bp):=by
 refine Df.fnI (N:=["state","many","found","mixed"]) (ps:=["state","many"]) (st:=k9) (k:=0) A5 ky je jA yU rfl rfl (by decide) ?_;intro f cc A outer s0 H E hr;have hu:=hr.units;have iZ:=br hr;exact (ak (bB (jl (az au aw (gH 0) aj (λ_ _=>rfl))) (ak (aT (i:=2) jA.nd (aS oM lG (az au aw (gH 0) aj (λ_ _=>rfl)) (ai 1)))
 (ak (yf (i:=0) (aS nE pS (az au aw (gH 0) aj (λ_ _=>rfl)) (ai 1)) aj)
 (ar (aF (ai 2))))) aL)
 (ak (yf (i:=0) (aS oM lG (aS bc bf (aS eQ cX (az au aw (gH 0) aj (λ_ _=>rfl)) aj) aj) aj) aj)
 (ak (aT (i:=3) jA.nd (aS oM lG (aS bc bf (aS bc bf (aS eQ cX (az au aw (gH 0) aj (λ_ _=>rfl)) (az au aw (gH 0) aj (λ_ _=>rfl))) (aS eQ cX aj (az au aw (gH 0) aj (λ_ _=>rfl)))) aj) aj))
 (ak (aT (i:=3) jA.nd (aS oM lG (aS bc bf (aS eQ cX (ai 3) (ai 3)) (aS eQ cX aj (ai 3))) aj))
 (ar (aF (aS oM lG (aS nE pS (ai 3) aj) (ai 1))))))))
def tq (T:Txt mg)  (fj:Df K mg "_law_divisor" gj):Fn P w K mg base "_law_divisor" 1 ["one","other"] (dz K 2 j0 .S):=by
 refine Df.fnD (N:=["one","other"]) (ps:=["one","other"]) (st:=gj) (k:=0) vD .S mX fj fQ sY rfl (by decide) ?_;intro f cc A outer s0 H E hr;have hu:=hr.units;have iZ:=br hr;exact (ak (aT (i:=0) fQ.nd (aI zI DY (by rfl) T.zkq Ht (ae (ai 0) ah)))
 (ak (aT (i:=1) fQ.nd (aI zI DY (by rfl) T.zkq Ht (ae (ai 1) ah)))
 (ak (Aa aaf (aH rL mJ (ai 1) aj (aE _))
 (ar (Pq (i:=0) (j:=1) rfl fQ.nd (ae (ai 1) (ae (aS oM lG (ai 0) (ai 1)) ah)))))
 (ar (aF (ai 0))))))
def wL (T:Txt mg)(kg:Fn P w K mg base "_law_divisor" 1 ["one","other"] (dz K 2 j0 .S))(ic:Df K mg "_law_ratio" jK):Fn P w K mg base "_law_ratio" 2 ["top","bottom"] (dz K 2 d8 .S):=by
 refine Df.fnD (N:=["top","bottom","by"]) (ps:=["top","bottom"]) (st:=jK) (k:=1) yO .S qd ic oC wF rfl (by decide) ?_;intro f cc A outer s0 H E hr;have hu:=hr.units;have iZ:=br hr;exact (ak (aT (i:=2) oC.nd (ax kg (rm hr) (ae (ai 0) (ae (ai 1) ah))))
 (ar (aF (aP (ae (aS nE pS (ai 0) (ai 2)) (ae (aS nE pS (ai 1) (ai 2)) ah))))))
def za (T:Txt mg)  (jf:Df K mg "_law_laid" j4):Fn P w K mg base "_law_laid" 1 ["row","order"] (dz K 2 bH .S):=by
 refine Df.fnD (N:=["row","order"]) (ps:=["row","order"]) (st:=j4) (k:=0) A6 .S mY jf yV yW rfl (by decide) ?_;intro f cc A outer s0 H E hr;have hu:=hr.units;have iZ:=br hr;exact (ar (aF (f7 di iE (by rfl) T.zgq dD (ae (dF (aq j4) ["row","order"] ["place","row"] [none,some 0] rfl (bj (ai 1)) (λY=>⟨(ay (i:=0) (show (["place","row"]:List Str).Nodup by decide+kernel)),bM,(az au aw (ai 1) (ai 0) (λ_ _=>rfl))⟩)) ah))))
theorem wM (T:Txt mg)(gr:Fn P w K mg base "_law_laid" 1 ["row","order"] (dz K 2 bH .S))(fy:Df K mg "_law_paths" iN):∀n,Fn P w K mg base "_law_paths" (n+2) ["plan","row","start","bottom","trace"] (dz K 5 (aW n) .S):=by
 intro n
 induction n with
 |zero=>
  refine Df.fnD (N:=["plan","row","start","bottom","trace","found","order","seen","some","part"]) (ps:=["plan","row","start","bottom","trace"]) (st:=iN) (k:=1) qe .S (c7 0) fy dq oD rfl (by decide) ?_;intro f cc A outer s0 H E hr;have hu:=hr.units;have iZ:=br hr;exact jy
 |succ n eh=>
  refine Df.fnD (N:=["plan","row","start","bottom","trace","found","order","seen","some","part"]) (ps:=["plan","row","start","bottom","trace"]) (st:=iN) (k:=n+2) qe .S (c7 (n+1)) fy dq oD rfl (by decide) ?_;intro f cc A outer s0 H E hr;have hu:=hr.units;have iZ:=br hr;exact (ak (bB (aH (bF hu) (a6 (f:=id)) (zqa 0) a8 (aE _)) (ar (aF (ba (ae (aP (ae (ai 4) (ae iC (ae (ai 3) ah)))) ah)))) aL)
 (ak (bB (aH (bF hu) (a6 (f:=id)) (zqa 0) a8 (aE _)) (ar (aF (ba (ae (aP (ae (ai 4) (ae (ax gr (rm hr) (ae (ai 1) (ae (zqa 0) ah))) (ae (ai 3) ah)))) ah)))) aL)
 (ak (bB (aH (bF hu) (a6 (f:=id)) (zqa 0) a8 (aE _)) (ar (aF (ax eh (rm hr) (Ky (aJ (zqa 0) (aJ (ax gr (rm hr) (ae (ai 1) (ae (zqa 0) ah))) (aJ (ai 2) (aJ (ai 3) (aJ (ai 4) iW))))))))) aL)
 (ak (bB (aH (bF hu) (a6 (f:=id)) (zqa 0) a8 (aE _)) (ak (ft (i:=5) dq.nd (ba ah))
 (ak (eL aaf rfl (bj (zqa 0)) (ay (i:=6) dq.nd)
 (ar (jw (kE (i:=5) aaq abb abc nK iG (ae (ax eh (rm hr) (Ky (aJ (zqa 0) (aJ (ax gr (rm hr) (ae (ai 1) (ae (ai 6) ah))) (aJ (ai 2) (aJ (aS eQ cX (ai 3) (aI aX bg (by rfl) T.znq bG (ae (zqa 0) ah))) (aJ (ai 4) iW))))))) ah)))))
 (ar (yd (i:=5) (hi:=by decide))))) aL)
 (ak (aT (i:=7) dq.nd (ax gr (rm hr) (ae (ai 1) (ae (zqa 0) ah))))
 (ak (eL aaf rfl (bj (zqa 0)) (fS rfl (aQ (ay (i:=8) dq.nd) (aQ (ay (i:=9) dq.nd) dZ)))
 (ar (bB (aH (bF hu) (a6 (f:=id)) (ai 8) (ai 7) (aE _)) (ar (aF (ax eh (rm hr) (Ky (aJ (ai 9) (aJ (ai 1) (aJ (ai 2) (aJ (ai 3) (aJ (aS bc bf (ai 4) (aP (ae (ai 7) ah))) iW))))))))) aL)))
 (ar (aF (ba (ae (aP (ae (ai 4) (ae (aP (ae a8 (ae (ai 7) ah))) (ae (ai 3) ah)))) ah))))))))))
def wN (T:Txt mg)(dh:Fn P w K mg base "_law_ratio" 2 ["top","bottom"] (dz K 2 d8 .S))(ie:Df K mg "_law_total" jL):Fn P w K mg base "_law_total" 3 ["some"] (dz K 1 gZ .S):=by
 refine Df.fnD (N:=["some","found","top","bottom"]) (ps:=["some"]) (st:=jL) (k:=2) yP .S qf ie fM wG rfl (by decide) ?_;intro f cc A outer s0 H E hr;have hu:=hr.units;have iZ:=br hr;exact (ak (aT (i:=1) fM.nd (aP (ae aj (ae aj ah))))
 (ak (eL aaf rfl (bj (ai 0)) (fS rfl (aQ (ay (i:=2) fM.nd) (aQ (ay (i:=3) fM.nd) dZ)))
 (ar (aT (i:=1) fM.nd (ax dh (rm hr) (ae (aS bc bf (aS eQ cX (zqa 1) (ai 3)) (aS eQ cX (ai 2) (zqa 1))) (ae (aS eQ cX (zqa 1) (ai 3)) ah))))))
 (ar (aF (ai 1)))))
def vL (T:Txt mg)(dh:Fn P w K mg base "_law_ratio" 2 ["top","bottom"] (dz K 2 d8 .S))(ig:Fn P w K mg base "_law_total" 3 ["some"] (dz K 1 gZ .S))(fO:Df K mg "_law_walked" dk):Fn P w K mg base "_law_walked" 4 ["paths"] (dz K 1 iY .S):=by
 refine Df.fnD (N:=["paths","again","ends","trace","result","bottom","ending","found","shares","whole","results"]) (ps:=["paths"]) (st:=dk) (k:=3) wB .S oA fO bu vJ rfl (by decide) ?_;intro f cc A outer s0 H E hr;have hu:=hr.units;have iZ:=br hr;exact (ak (aT (i:=1) bu.nd (ax ig (rm hr) (ae (dF (aq dk) ["paths","again","ends","trace","result","bottom","ending","found","shares","whole","results"] ["trace","result","bottom"] [none,none,none] rfl (bj (ai 0)) (λY=>⟨(fS rfl (aQ (ay (i:=0) (show (["trace","result","bottom"]:List Str).Nodup by decide+kernel)) (aQ (ay (i:=1) (show (["trace","result","bottom"]:List Str).Nodup by decide+kernel)) (aQ (ay (i:=2) (show (["trace","result","bottom"]:List Str).Nodup by decide+kernel)) dZ)))),(gK (aH BO yk (ai 1) iC (aE _))),(aP (ae aj (ae (ai 2) ah)))⟩)) ah)))
 (ak (ft (i:=2) bu.nd HW)
 (ak (LZ (Qb aaf rfl (bj (ai 0)) (fS rfl (aQ (ay (i:=3) bu.nd) (aQ (ay (i:=4) bu.nd) (aQ (ay (i:=5) bu.nd) dZ))))
 (EG (SU (aH Dt Ag (ai 4) iC (aE _)) (EG (Qd (EI hu (EI hu (L8 2) (ai 3) L0) (ai 4) L7) (aP (ae aj (ae (ai 5) ah))))) LY))))
 (tR 2 (ak (aT (i:=6) bu.nd (ax dh (rm hr) (ae (aS oK lF (zqa 1) (zqa 1)) (ae (zqa 1) ah))))
 (ak (bB (aH (bF hu) (a6 (f:=id)) (zqa 6) aj (aE _)) (ar (aF (aP (ae (ai 1) (ae iC ah))))) aL)
 (ak (ft (i:=7) bu.nd (ba ah))
 (ak (eL aaf rfl (bj (m1:=.O) (aI (CK rfl hu) Gb (by rfl) T.zeq iB (ae (ai 2) ah))) (ay (i:=3) bu.nd)
 (ak (gb (i:=8) (aq dk) ["paths","again","ends","trace","result","bottom","ending","found","shares","whole","results"] ["result","ends","trace"] [none,some 2,some 3] bu.nd rfl (bj (m1:=.O) (aI (qY rfl hu) vc (by rfl) T.zeq iB (ae (Cg hu (ai 2) (ai 3)) ah))) (λY=>⟨(ay (i:=0) (show (["result","ends","trace"]:List Str).Nodup by decide+kernel)),bM,(aP (ae (ai 0) (ae (ax ig (rm hr) (ae (Cg hu (Cg hu (ai 1) (ai 2)) (ai 0)) ah)) ah)))⟩))
 (ak (aT (i:=9) bu.nd (ax ig (rm hr) (ae (dF (aq dk) ["paths","again","ends","trace","result","bottom","ending","found","shares","whole","results"] ["result","share"] [none,none] rfl (bj (ai 8)) (λY=>⟨(fS rfl (aQ (ay (i:=0) (show (["result","share"]:List Str).Nodup by decide+kernel)) (aQ (ay (i:=1) (show (["result","share"]:List Str).Nodup by decide+kernel)) dZ))),bM,(ai 1)⟩)) ah)))
 (ak (gb (i:=10) (aq dk) ["paths","again","ends","trace","result","bottom","ending","found","shares","whole","results"] ["result","share","whole"] [none,none,some 9] bu.nd rfl (bj (ai 8)) (λY=>⟨(fS rfl (aQ (ay (i:=0) (show (["result","share","whole"]:List Str).Nodup by decide+kernel)) (aQ (ay (i:=1) (show (["result","share","whole"]:List Str).Nodup by decide+kernel)) dZ))),bM,(aP (ae (ai 0) (ae (ax dh (rm hr) (ae (aS eQ cX (zqa 1) (zqa 2)) (ae (aS eQ cX (zqa 1) (zqa 2)) ah))) ah)))⟩))
 (ar (jw (kE (i:=7) aaq ab9 ab_ nD oR (ae (aP (ae (ai 3) (ae (ax dh (rm hr) (ae (aS eQ cX (zqa 9) (zqa 6)) (ae (aS eQ cX (zqa 9) (zqa 6)) ah))) (ae (ai 10) ah)))) ah))))))))
 (tR 7 (ar (aF (aP (ae (ai 1) (ae (ai 7) ah))))))))))))))
def zc (T:Txt mg)(eh:∀n,Fn P w K mg base "_law_paths" (n+2) ["plan","row","start","bottom","trace"] (dz K 5 (aW n) .S))(kP:Fn P w K mg base "_law_walked" 4 ["paths"] (dz K 1 iY .S))(jg:Df K mg "_law_gone" j5):Fn P w K mg base "_law_gone" 13 ["plan","row"] (dz K 2 c8 .S):=by
 refine Df.fnD (N:=["plan","row","paths","lost","found"]) (ps:=["plan","row"]) (st:=j5) (k:=12) A7 .S mZ jg jB yX rfl (by decide) ?_;intro f cc A outer s0 H E hr;have hu:=hr.units;have iZ:=br hr;exact (ak (aT (i:=2) jB.nd (ax (eh 10) (rm hr) (Ky (aJ (ai 0) (aJ (ai 1) (aJ (ai 1) (aJ aj (aJ (aP ah) iW))))))))
 (ak (gb (i:=3) (aq j5) ["plan","row","paths","lost","found"] ["trace","result","bottom"] [none,none,none] jB.nd rfl (bj (ai 2)) (λY=>⟨(fS rfl (aQ (ay (i:=0) (show (["trace","result","bottom"]:List Str).Nodup by decide+kernel)) (aQ (ay (i:=1) (show (["trace","result","bottom"]:List Str).Nodup by decide+kernel)) (aQ (ay (i:=2) (show (["trace","result","bottom"]:List Str).Nodup by decide+kernel)) dZ)))),(gK (DW.dt (lD (aH Dt Ag (ai 1) iC (aE _)) (lC (aH (bF hu) (a6 (f:=id)) (gI gN lH (ai 1) ju (jv aj)) (aP (ae a8 ah)) (aE _)))))),(zqa 1)⟩))
 (ak (bB (aH (iA hu) (a6 (f:=not)) (ai 3) (ba ah) (aE _)) (ar (aF (aP (ae a8 (ae (ai 3) ah))))) aL)
 (ak (aT (i:=4) jB.nd (az au aw (ax kP (rm hr) (ae (ai 2) ah)) aj (λ_ _=>rfl)))
 (ak (bB (aH BO yk (ai 4) iC (aE _)) (ar (aF (aP (ae a8 (ae (ba ah) ah))))) aL)
 (ar (aF (aP (ae a8 (ae (ai 4) ah))))))))))
theorem wO (T:Txt mg)(bQ:Fn P w K mg base "_law_take" 1 ["state","many"] (GF K 2 bp))(ij:Df K mg "_law_order" iO):Fn P w K mg base "_law_order" 2 ["state","many"] (GF K 2 g0):=by
 refine Df.fnI (N:=["state","many","left"]) (ps:=["state","many"]) (st:=iO) (k:=1) lQ lR ij oE wH rfl rfl (by decide) ?_;intro f cc A outer s0 H E hr;have hu:=hr.units;have iZ:=br hr;exact (ak (ft (i:=2) oE.nd (nJ rfl (ae (ai 1) ah) T.ziq T.zfq))
 (ar (aF (f7 di iE (by rfl) T.zgq dD (ae (Py (aq iO) ["state","many","left"] ["k","left","state"] [none,some 2,some 0] rfl (kX (ae (ai 1) ah) T.zfq) (λY=>⟨(ay (i:=0) (show (["k","left","state"]:List Str).Nodup by decide+kernel)),bM,(kE (i:=1) aaq PySem.F.slot_list_pop PySem.F.type_list_pop Ha FE (ae (eU (i:=2) bQ (rm hr) (ae (aI aX bg (by rfl) T.znq bG (ae (gH 1) ah)) ah)) ah))⟩)) ah)))))
theorem wQ (T:Txt mg)  (fz:Df K mg "_law_sound" bS):∀n,Fn P w K mg base "_law_sound" (n+1) ["plan","many","full"] (dz K 3 (a_ n) .S):=by
 intro n
 induction n with
 |zero=>
  refine Df.fnD (N:=["plan","many","full","odd","parts","seen","found"]) (ps:=["plan","many","full"]) (st:=bS) (k:=0) qg .S (c9 0) fz bX oF rfl (by decide) ?_;intro f cc A outer s0 H E hr;have hu:=hr.units;have iZ:=br hr;exact jy
 |succ n ik=>
  refine Df.fnD (N:=["plan","many","full","odd","parts","seen","found"]) (ps:=["plan","many","full"]) (st:=bS) (k:=n+1) qg .S (c9 (n+1)) fz bX oF rfl (by decide) ?_;intro f cc A outer s0 H E hr;have hu:=hr.units;have iZ:=br hr;exact (ak (bB (DW.dt (lD (aH (bF hu) (a6 (f:=id)) (zqa 0) a8 (aE _)) (lC (aH (bF hu) (a6 (f:=id)) (aI aX bg (by rfl) T.znq bG (ae (ai 0) ah)) aj (aE _))))) (ak (gb (i:=3) (aq bS) ["plan","many","full","odd","parts","seen","found"] ["place","many"] [none,some 1] bX.nd rfl (bj (zqa 0)) (λY=>⟨(ay (i:=0) (show (["place","many"]:List Str).Nodup by decide+kernel)),(gK (oO (zZ Ds yn G0 Cc aj (ai 0) (ai 1)))),(ai 0)⟩))
 (ak (bB (DW.dt (oq (aH (iA hu) (a6 (f:=not)) (ai 3) (ba ah) (aE _)) (oq (aH (iA hu) (a6 (f:=not)) (FO rfl (ae (zqa 0) ah) (by rfl) T.znq (by rfl) T.zjq) (aI aX bg (by rfl) T.znq bG (ae (zqa 0) ah)) (aE _)) (mC (DW.dt (lD (jl (ai 2)) (lC (aH G0 Cc (aI aX bg (by rfl) T.znq bG (ae (zqa 0) ah)) (ai 1) (aE _))))))))) (ar (aF iC)) aL)
 (ar (aF (mD (hc:=(aH rL mJ (aI aX bg (by rfl) T.znq bG (ae (zqa 0) ah)) aj (aE _))) (ha:=(aP (ae aj (ae aj ah)))) (hb:=iC)))))) aL)
 (ak (aT (i:=4) bX.nd (ba ah))
 (ak (bB (DW.dt (lD (aH (bF hu) (a6 (f:=id)) (zqa 0) a8 (aE _)) (lC (aH (bF hu) (a6 (f:=id)) (aI aX bg (by rfl) T.znq bG (ae (ai 0) ah)) aj (aE _))))) (ak (gb (i:=5) (aq bS) ["plan","many","full","odd","parts","seen","found"] ["way"] [none] bX.nd rfl (bj (zqa 0)) (λY=>⟨(ay (i:=0) (show (["way"]:List Str).Nodup by decide+kernel)),bM,(zqa 0)⟩))
 (ar (bB (DW.dt (lD (aH (bF hu) (a6 (f:=id)) (ai 5) (vd rfl hu (ae (ai 5) ah) T.zeq T.zjq) (aE _)) (lC (aH (bF hu) (a6 (f:=id)) (dF (aq bS) ["plan","many","full","odd","parts","seen","found"] ["one","plan"] [none,some 0] rfl (bj (ai 5)) (λY=>⟨(ay (i:=0) (show (["one","plan"]:List Str).Nodup by decide+kernel)),(gK (aH (iA hu) (a6 (f:=not)) (aI aX bg (by rfl) T.znq bG (ae (ai 0) ah)) (aI aX bg (by rfl) T.znq bG (ae (zqa 1) ah)) (aE _))),(ai 0)⟩)) (ba ah) (aE _))))) (ar (gb (i:=4) (aq bS) ["plan","many","full","odd","parts","seen","found"] ["way"] [none] bX.nd rfl (bj (zqa 0)) (λY=>⟨(ay (i:=0) (show (["way"]:List Str).Nodup by decide+kernel)),bM,(zqa 0)⟩))) aL))) aL)
 (ak (bB (DW.dt (lD (aH (bF hu) (a6 (f:=id)) (zqa 0) a8 (aE _)) (lD (aH (bF hu) (a6 (f:=id)) (aI aX bg (by rfl) T.znq bG (ae (ai 0) ah)) aj (aE _)) (lC (aH (bF hu) (a6 (f:=id)) (aI (qY rfl hu) vc (by rfl) T.zeq iB (ae (zqa 0) ah)) (nJ rfl (ae (ai 1) ah) T.ziq T.zfq) (aE _)))))) (ar (aT (i:=4) bX.nd (ba (ae (zqa 0) ah)))) aL)
 (ak (bB (DW.dt (lD (aH (bF hu) (a6 (f:=id)) (zqa 0) a8 (aE _)) (lD (aH (bF hu) (a6 (f:=id)) (aI aX bg (by rfl) T.znq bG (ae (ai 0) ah)) aj (aE _)) (lC (zZ Ds yn Ds yn aj (aI aX bg (by rfl) T.znq bG (ae (zqa 0) ah)) aj))))) (ar (bB (aH (bF hu) (a6 (f:=id)) (dF (aq bS) ["plan","many","full","odd","parts","seen","found"] ["order","many"] [none,some 1] rfl (bj (zqa 0)) (λY=>⟨(ay (i:=0) (show (["order","many"]:List Str).Nodup by decide+kernel)),(gK (aH (iA hu) (a6 (f:=not)) (aI (qY rfl hu) vc (by rfl) T.zeq iB (ae (ai 0) ah)) (nJ rfl (ae (ai 1) ah) T.ziq T.zfq) (aE _))),(ai 0)⟩)) (ba ah) (aE _)) (ar (aT (i:=4) bX.nd (ba (ae (zqa 0) ah)))) aL)) aL)
 (ak (gb (i:=6) (aq bS) ["plan","many","full","odd","parts","seen","found"] ["part","many","full"] [none,some 1,some 2] bX.nd rfl (bj (ai 4)) (λY=>⟨(ay (i:=0) (show (["part","many","full"]:List Str).Nodup by decide+kernel)),bM,(ax ik (rm hr) (ae (ai 0) (ae (ai 1) (ae (ai 2) ah))))⟩))
 (ak (bB (DW.dt (oq (aH (bF hu) (a6 (f:=id)) (ai 6) (ba ah) (aE _)) (mC (aH (CG hu) CH iC (ai 6) (by with_unfolding_all rfl))))) (ar (aF iC)) aL)
 (ar (aF (aP (ae (aS bc bf aj (aI (F3 rfl) JI (by rfl) T.zqq Pg (ae (dF (aq bS) ["plan","many","full","odd","parts","seen","found"] ["one"] [none] rfl (bj (ai 6)) (λY=>⟨(ay (i:=0) (show (["one"]:List Str).Nodup by decide+kernel)),bM,(zqa 0)⟩)) ah))) (ae (aS bc bf aj (aI (F4 rfl) JJ (by rfl) T.zoq Hs (ae (dF (aq bS) ["plan","many","full","odd","parts","seen","found"] ["one"] [none] rfl (bj (ai 6)) (λY=>⟨(ay (i:=0) (show (["one"]:List Str).Nodup by decide+kernel)),bM,(zqa 0)⟩)) ah))) ah))))))))))))
def zd (T:Txt mg)  (jh:Df K mg "_law_pair" k_):Fn P w K mg base "_law_pair" 1 ["bit"] (dz K 1 i8 .S):=by
 refine Df.fnD (N:=["bit"]) (ps:=["bit"]) (st:=k_) (k:=0) A8 .S m4 jh yY yZ rfl (by decide) ?_;intro f cc A outer s0 H E hr;have hu:=hr.units;have iZ:=br hr;exact (ar (aF (aP (ae (ai 0) (ae (aS oK lF aj (ai 0)) ah)))))
theorem tw (T:Txt mg)(bQ:Fn P w K mg base "_law_take" 1 ["state","many"] (GF K 2 bp))(dJ:Df K mg "_law_formula" fb):∀n,Fn P w K mg base "_law_formula" (n+2) ["state","bits"] (GF K 2 (bZ n)):=by
 intro n
 induction n with
 |zero=>
  refine Df.fnI (N:=["state","bits","found","cut_at","parts","turn"]) (ps:=["state","bits"]) (st:=fb) (k:=1) m6 (eX 0) dJ bP ma rfl rfl (by decide) ?_;intro f cc A outer s0 H E hr;have hu:=hr.units;have iZ:=br hr;exact jy
 |succ n dM=>
  refine Df.fnI (N:=["state","bits","found","cut_at","parts","turn"]) (ps:=["state","bits"]) (st:=fb) (k:=n+2) m6 (eX (n+1)) dJ bP ma rfl rfl (by decide) ?_;intro f cc A outer s0 H E hr;have hu:=hr.units;have iZ:=br hr;exact (ak (bB (aH (bF hu) (a6 (f:=id)) (aI aX bg (by rfl) T.znq bG (ae (ai 1) ah)) aj (aE _)) (ar (aT (i:=2) bP.nd (aP (ae a8 (ae (zqa 1) ah))))) (ak (aT (i:=3) bP.nd (aS bc bf aj (eU (i:=0) bQ (rm hr) (ae (aS oK lF (aI aX bg (by rfl) T.znq bG (ae (ai 1) ah)) aj) ah))))
 (ak (aT (i:=4) bP.nd (ba (ae (eU (i:=0) dM (rm hr) (ae (gI gN lH (ai 1) ju (jv (ai 3))) ah)) (ae (eU (i:=0) dM (rm hr) (ae (gI gN lH (ai 1) (jv (ai 3)) ju) ah)) ah))))
 (ar (aT (i:=2) bP.nd (aP (ae (az au aw (ba (ae a8 (ae a8 (ae a8 ah)))) (eU (i:=0) bQ (rm hr) (ae aj ah)) (λ_ _=>rfl)) (ae (zqa 4) (ae (zqa 4) ah)))))))))
 (ak (eL aaf rfl (kX (ae (az au aw (ba (Ky (aJ aj (aJ aj (aJ aj (aJ aj (aJ aj (aJ aj iW)))))))) (eU (i:=0) bQ (rm hr) (ae aj ah)) (λ_ _=>rfl)) ah) T.zfq) (ay (i:=5) bP.nd)
 (ar (aT (i:=2) bP.nd (aP (ae a8 (ae (ai 2) ah))))))
 (ar (aF (ai 2)))))
def nh (T:Txt mg)(bQ:Fn P w K mg base "_law_take" 1 ["state","many"] (GF K 2 bp))(l5:Fn P w K mg base "_law_order" 2 ["state","many"] (GF K 2 g0))(dM:∀n,Fn P w K mg base "_law_formula" (n+2) ["state","bits"] (GF K 2 (bZ n)))(cz:Df K mg "_law_some_formula" cU):Fn P w K mg base "_law_some_formula" 9 ["state"] (GF K 1 dB):=by
 refine Df.fnI (N:=["state","bits"]) (ps:=["state"]) (st:=cU) (k:=8) n9 fF cz jb m_ rfl rfl (by decide) ?_;intro f cc A outer s0 H E hr;have hu:=hr.units;have iZ:=br hr;exact (ak (aT (i:=1) jb.nd (eU (i:=0) l5 (rm hr) (ae (aS bc bf aj (eU (i:=0) bQ (rm hr) (ae aj ah))) ah)))
 (ar (aF (eU (i:=0) (dM 6) (rm hr) (ae (ai 1) ah)))))
theorem wR (T:Txt mg)  (fA:Df K mg "_law_worth" iP):∀n,Fn P w K mg base "_law_worth" (n+1) ["formula","bits"] (dz K 2 (de n) .S):=by
 intro n
 induction n with
 |zero=>
  refine Df.fnD (N:=["formula","bits","count"]) (ps:=["formula","bits"]) (st:=iP) (k:=0) qh .S (c_ 0) fA kK oG rfl (by decide) ?_;intro f cc A outer s0 H E hr;have hu:=hr.units;have iZ:=br hr;exact jy
 |succ n eo=>
  refine Df.fnD (N:=["formula","bits","count"]) (ps:=["formula","bits"]) (st:=iP) (k:=n+1) qh .S (c_ (n+1)) fA kK oG rfl (by decide) ?_;intro f cc A outer s0 H E hr;have hu:=hr.units;have iZ:=br hr;exact (ak (bB (aH kR fu (zqa 0) a8 (aE _)) (ar (aF (az au aw (ai 1) (zqa 0) (λ_ _=>rfl)))) aL)
 (ak (bB (aH kR fu (zqa 0) a8 (aE _)) (ar (aF (aS oK lF aj (ax eo (rm hr) (ae (zqa 0) (ae (ai 1) ah)))))) aL)
 (ak (aT (i:=2) kK.nd (aS bc bf (ax eo (rm hr) (ae (zqa 0) (ae (ai 1) ah))) (ax eo (rm hr) (ae (zqa 0) (ae (ai 1) ah)))))
 (ar (aF (f7 Fh LA (by rfl) T.zlq Hq (ae (jN (CG hu) CH (ai 2) (Mc hu WW XJ WW (zqa 0)) (by with_unfolding_all rfl)) ah)))))))
theorem tE (T:Txt mg)  (dN:Df K mg "_law_bits_in" fY):∀n,Fn P w K mg base "_law_bits_in" (n+1) ["formula"] (dz K 1 (b9 n) .O):=by
 intro n
 induction n with
 |zero=>
  refine Df.fnD (N:=["formula","found","part"]) (ps:=["formula"]) (st:=fY) (k:=0) m7 .O (b6 0) dN eD md rfl (by decide) ?_;intro f cc A outer s0 H E hr;have hu:=hr.units;have iZ:=br hr;exact jy
 |succ n fq=>
  refine Df.fnD (N:=["formula","found","part"]) (ps:=["formula"]) (st:=fY) (k:=n+1) m7 .O (b6 (n+1)) dN eD md rfl (by decide) ?_;intro f cc A outer s0 H E hr;have hu:=hr.units;have iZ:=br hr;exact (ak (bB (aH kR fu (zqa 0) a8 (aE _)) (ar (pM (ba (ae (zqa 0) ah)))) aL)
 (ak (aT (i:=1) eD.nd (ba ah))
 (ak (eL aaf rfl (bj (gI gN lH (ai 0) (jv aj) ju)) (ay (i:=2) eD.nd)
 (ar (aT (i:=1) eD.nd (aS bc bf (ai 1) (ax fq (rm hr) (ae (ai 2) ah))))))
 (ar (pM (aI lB qM (by rfl) T.zeq iB (ae (ai 1) ah)))))))
def rA (T:Txt mg)  (eF:Df K mg "_law_all_bits" dW):Fn P w K mg base "_law_all_bits" 1 ["count"] (dz K 1 eB .S):=by
 refine Df.fnD (N:=["count","found","k"]) (ps:=["count"]) (st:=dW) (k:=0) sU .S l8 eF fx rq rfl (by decide) ?_;intro f cc A outer s0 H E hr;have hu:=hr.units;have iZ:=br hr;exact (ak (aT (i:=1) fx.nd (ba (ae (aP ah) ah)))
 (ak (eL aaf rfl (kX (ae (ai 0) ah) T.zfq) (ay (i:=2) fx.nd)
 (ar (aT (i:=1) fx.nd (aS bc bf (dF (aq dW) ["count","found","k"] ["row"] [none] rfl (bj (ai 1)) (λY=>⟨(ay (i:=0) (show (["row"]:List Str).Nodup by decide+kernel)),bM,(aS bc bf (ai 0) (aP (ae aj ah)))⟩)) (dF (aq dW) ["count","found","k"] ["row"] [none] rfl (bj (ai 1)) (λY=>⟨(ay (i:=0) (show (["row"]:List Str).Nodup by decide+kernel)),bM,(aS bc bf (ai 0) (aP (ae aj ah)))⟩))))))
 (ar (aF (ai 1)))))
def nj (T:Txt mg)(gs:Fn P w K mg base "_law_gone" 13 ["plan","row"] (dz K 2 c8 .S))(cA:Df K mg "_law_seen_chances" cu):Fn P w K mg base "_law_seen_chances" 14 ["plan","row"] (dz K 2 cx .S):=by
 refine Df.fnD (N:=["plan","row","word","found"]) (ps:=["plan","row"]) (st:=cu) (k:=13) n_ .S fG cA ff ng rfl (by decide) ?_;intro f cc A outer s0 H E hr;have hu:=hr.units;have iZ:=br hr;exact (ak (HK (ax gs (rm hr) (ae (ai 0) (ae (ai 1) ah))) (fS rfl (aQ (ay (i:=2) ff.nd) (aQ (ay (i:=3) ff.nd) dZ))))
 (ak (bB (aH (iA hu) (a6 (f:=not)) (ai 2) a8 (aE _)) (ar (aF iC)) aL)
 (ar (aF (dF (aq cu) ["plan","row","word","found"] ["trace","chance","results"] [none,none,none] rfl (bj (ai 3)) (λY=>⟨(fS rfl (aQ (ay (i:=0) (show (["trace","chance","results"]:List Str).Nodup by decide+kernel)) (aQ (ay (i:=1) (show (["trace","chance","results"]:List Str).Nodup by decide+kernel)) (aQ (ay (i:=2) (show (["trace","chance","results"]:List Str).Nodup by decide+kernel)) dZ)))),bM,(aP (ae (ai 0) (ae (ai 1) ah)))⟩))))))
def tF (T:Txt mg)(gs:Fn P w K mg base "_law_gone" 13 ["plan","row"] (dz K 2 c8 .S))(fm:Df K mg "_law_results" fc):Fn P w K mg base "_law_results" 14 ["plan","row"] (dz K 2 eY .S):=by
 refine Df.fnD (N:=["plan","row","word","found","told","trace","chance","results"]) (ps:=["plan","row"]) (st:=fc) (k:=13) vF .S j1 fm cv sZ rfl (by decide) ?_;intro f cc A outer s0 H E hr;have hu:=hr.units;have iZ:=br hr;exact (ak (HK (ax gs (rm hr) (ae (ai 0) (ae (ai 1) ah))) (fS rfl (aQ (ay (i:=2) cv.nd) (aQ (ay (i:=3) cv.nd) dZ))))
 (ak (bB (aH (iA hu) (a6 (f:=not)) (ai 2) a8 (aE _)) (ar (aF iC)) aL)
 (ak (ft (i:=4) cv.nd (ba ah))
 (ak (eL aaf rfl (bj (ai 3)) (fS rfl (aQ (ay (i:=5) cv.nd) (aQ (ay (i:=6) cv.nd) (aQ (ay (i:=7) cv.nd) dZ))))
 (ar (jw (kE (i:=4) aaq abb abc nK iG (ae (dF (aq fc) ["plan","row","word","found","told","trace","chance","results"] ["result","share"] [none,none] rfl (bj (ai 7)) (λY=>⟨(fS rfl (aQ (ay (i:=0) (show (["result","share"]:List Str).Nodup by decide+kernel)) (aQ (ay (i:=1) (show (["result","share"]:List Str).Nodup by decide+kernel)) dZ))),bM,(ai 0)⟩)) ah)))))
 (ar (aF (vd rfl hu (ae (gH 4) ah) T.zeq T.zjq)))))))
theorem ze (T:Txt mg)  (gu:Df K mg "_law_same" ja):∀n,Fn P w K mg base "_law_same" (n+1) ["found","due"] (dz K 2 (i9 n) .S):=by
 intro n
 induction n with
 |zero=>
  refine Df.fnD (N:=["found","due"]) (ps:=["found","due"]) (st:=ja) (k:=0) sG .S (kz 0) gu qm qo rfl (by decide) ?_;intro f cc A outer s0 H E hr;have hu:=hr.units;have iZ:=br hr;exact jy
 |succ n ji=>
  refine Df.fnD (N:=["found","due"]) (ps:=["found","due"]) (st:=ja) (k:=n+1) sG .S (kz (n+1)) gu qm qo rfl (by decide) ?_;intro f cc A outer s0 H E hr;have hu:=hr.units;have iZ:=br hr;exact (ak (bB (jl (Iy (T1:="tuple") (T2:="list") (by decide) (by decide) (ai 1) T.zcq T.zgq dD T.ziq tN)) (ak (bB (DW.dt (oq (aH (iA hu) (a6 (f:=not)) (gO (T:="tuple") (by decide) (ai 0) T.zcq T.zgq dD) (gO (T:="tuple") (by decide) (ai 1) T.zcq T.zgq dD) (aE _)) (mC (aH (iA hu) (a6 (f:=not)) (gO (T:="list") (by decide) (ai 0) T.zcq T.ziq tN) (gO (T:="list") (by decide) (ai 1) T.zcq T.ziq tN) (aE _))))) (ar (aF km)) aL)
 (ak (bB (aH (iA hu) (a6 (f:=not)) (aI aX bg (by rfl) T.znq bG (ae (ai 0) ah)) (aI aX bg (by rfl) T.znq bG (ae (ai 1) ah)) (aE _)) (ar (aF km)) aL)
 (ar (aF (aI (xk rfl) D1 (by rfl) T.zmq Hu (ae (dF (aq ja) ["found","due"] ["one","other"] [none,none] rfl (Cq (ae (ai 0) (ae (ai 1) ah)) T.zpq) (λY=>⟨(fS rfl (aQ (ay (i:=0) (show (["one","other"]:List Str).Nodup by decide+kernel)) (aQ (ay (i:=1) (show (["one","other"]:List Str).Nodup by decide+kernel)) dZ))),bM,(ax ji (rm hr) (ae (ai 0) (ae (ai 1) ah)))⟩)) ah)))))) aL)
 (ar (aF (uv (ha:=(jN (bF hu) (a6 (f:=id)) (ai 0) (ai 1) (aE _))) (hb:=(uw (jN (bF hu) (a6 (f:=id)) (gO (T:="bool") (by decide) (ai 0) T.zcq T.zhq yb) (gO (T:="bool") (by decide) (ai 1) T.zcq T.zhq yb) (aE _))))))))
def tG (T:Txt mg)  (fo:Df K mg "_law_row_due" iQ):Fn P w K mg base "_law_row_due" 1 ["bits"] (dz K 1 eZ .S):=by
 refine Df.fnD (N:=["bits","found","bit"]) (ps:=["bits"]) (st:=iQ) (k:=0) vG .S m9 fo fR s9 rfl (by decide) ?_;intro f cc A outer s0 H E hr;have hu:=hr.units;have iZ:=br hr;exact (ak (aT (i:=1) fR.nd (aP ah))
 (ak (eL aaf rfl (bj (aS bc bf (ai 0) (aP (ae aj ah)))) (ay (i:=2) fR.nd)
 (ar (aT (i:=1) fR.nd (aS bc bf (ai 1) (aP (ae (ai 2) (ae (aS oK lF aj (ai 2)) ah)))))))
 (ar (aF (ai 1)))))
def wU (T:Txt mg)(v9:Fn P w K mg base "row_of" 1 ["bits"] (dz K 1 mW .S))(rJ:Fn P w K mg base "plan_of" 33 ["formula"] (dz K 1 kZ .S))(ik:∀n,Fn P w K mg base "_law_sound" (n+1) ["plan","many","full"] (dz K 3 (a_ n) .S))(nC:Fn P w K mg base "_law_pair" 1 ["bit"] (dz K 1 i8 .S))(eo:∀n,Fn P w K mg base "_law_worth" (n+1) ["formula","bits"] (dz K 2 (de n) .S))(fq:∀n,Fn P w K mg base "_law_bits_in" (n+1) ["formula"] (dz K 1 (b9 n) .O))(jo:Fn P w K mg base "_law_all_bits" 1 ["count"] (dz K 1 eB .S))(fH:Fn P w K mg base "_law_seen_chances" 14 ["plan","row"] (dz K 2 cx .S))(kh:Fn P w K mg base "_law_results" 14 ["plan","row"] (dz K 2 eY .S))(ji:∀n,Fn P w K mg base "_law_same" (n+1) ["found","due"] (dz K 2 (i9 n) .S))(ki:Fn P w K mg base "_law_row_due" 1 ["bits"] (dz K 1 eZ .S))(iq:Df K mg "_law_right" iR):Fn P w K mg base "_law_right" 34 ["formula"] (dz K 1 g6 .S):=by
 refine Df.fnD (N:=["formula","count","plan","size","seen","bits","row"]) (ps:=["formula"]) (st:=iR) (k:=33) yQ .S lS iq du wI rfl (by decide) ?_;intro f cc A outer s0 H E hr;have hu:=hr.units;have iZ:=br hr;exact (ak (aT (i:=1) du.nd (aI aX bg (by rfl) T.znq bG (ae (ax (fq 30) (rm hr) (ae (ai 0) ah)) ah)))
 (ak (aT (i:=2) du.nd (ax rJ (rm hr) (ae (ai 0) ah)))
 (ak (aT (i:=3) du.nd (ax (ik 10) (rm hr) (ae (ai 2) (ae (aS bc bf (aS eQ cX aj (ai 1)) aj) (ae km ah)))))
 (ak (bB (DW.dt (oq (aH BO yk (ai 3) iC (aE _)) (oq (aH rL mJ (zqa 3) aj (aE _)) (mC (aH rL mJ (zqa 3) aj (aE _)))))) (ar (aF km)) aL)
 (ak (ft (i:=4) du.nd (ba ah))
 (ak (eL aaf rfl (bj (m1:=.S) (ax jo (rm hr) (ae (ai 1) ah))) (ay (i:=5) du.nd)
 (ak (aT (i:=6) du.nd (ax v9 (rm hr) (ae (ai 5) ah)))
 (ak (bB (DW.dt (oq (oO (jl (ax (ji 6) (rm hr) (ae (ai 6) (ae (ax ki (rm hr) (ae (ai 5) ah)) ah))))) (mC (aH (iA hu) (a6 (f:=not)) (ax kh (rm hr) (ae (ai 2) (ae (ai 6) ah))) (ba (ae (ax nC (rm hr) (ae (ax (eo 30) (rm hr) (ae (ai 0) (ae (ai 5) ah))) ah)) ah)) (aE _))))) (ar (aF km)) aL)
 (ar (jw (kE (i:=4) aaq ab9 ab_ nD oR (ae (ax fH (rm hr) (ae (ai 2) (ae (ai 6) ah))) ah)))))))
 (tR 4 (ar (aF (jN (bF hu) (a6 (f:=id)) (dF (aq iR) ["formula","count","plan","size","seen","bits","row"] ["one","seen"] [none,some 4] rfl (bj (ai 4)) (λY=>⟨(ay (i:=0) (show (["one","seen"]:List Str).Nodup by decide+kernel)),(gK (aH (iA hu) (a6 (f:=not)) (ai 0) (zqa 1) (aE _))),(ai 0)⟩)) (ba ah) (aE _)))))))))))
def Qg {f:ZY}(T:Txt mg)(FL:Kw K "law" "law" A_ f fd)(j7:Df K mg "is_whole" k7)(jd:Df K mg "exchanged" iK)(dH:Df K mg "arrangements" bV)(j8:Df K mg "pile_mix" j2)(lj:Df K mg "pair_at" nR)(nA:Df K mg "turned" nU)(dI:Df K mg "mixed_and_seen" eH)(lr:Df K mg "turning" i_)(j9:Df K mg "choosing" jI)(lu:Df K mg "is_made" nV)(dg:Df K mg "formulas_within" cT)(g9:Df K mg "is_formula" e_)(nB:Df K mg "row_of" rj)(iS:Df K mg "steps_of" j3)(j_:Df K mg "piles_of" k8)(fN:Df K mg "pair_behind" gf)(gm:Df K mg "plan_from" iL)(lx:Df K mg "plan_of" lT)(fi:Df K mg "_law_cell_at" iM)(g_:Df K mg "_law_state" jJ)(je:Df K mg "_law_take" k9)(fj:Df K mg "_law_divisor" gj)(ic:Df K mg "_law_ratio" jK)(jf:Df K mg "_law_laid" j4)(fy:Df K mg "_law_paths" iN)(fO:Df K mg "_law_walked" dk)(ie:Df K mg "_law_total" jL)(jg:Df K mg "_law_gone" j5)(ij:Df K mg "_law_order" iO)(fz:Df K mg "_law_sound" bS)(jh:Df K mg "_law_pair" k_)(dJ:Df K mg "_law_formula" fb)(cz:Df K mg "_law_some_formula" cU)(fA:Df K mg "_law_worth" iP)(dN:Df K mg "_law_bits_in" fY)(eF:Df K mg "_law_all_bits" dW)(cA:Df K mg "_law_seen_chances" cu)(fm:Df K mg "_law_results" fc)(gu:Df K mg "_law_same" ja)(fo:Df K mg "_law_row_due" iQ)(iq:Df K mg "_law_right" iR)(hp:∀ns:List Int,ns.length<=63->A9 [.scr (ns.map .int)]=.ok (.bl true)):nZ P w K mg base zM 35 f fd ["script"] (Ad K):=by
 have pA:=Bj (P:=P) (w:=w) (base:=base) T  j7;have ny:=y8 (P:=P) (w:=w) (base:=base) T  jd;have fh:=s_ (P:=P) (w:=w) (base:=base) T  dH;have pz:=Bk (P:=P) (w:=w) (base:=base) T ny fh j8;have jM:=C0 (P:=P) (w:=w) (base:=base) T  lj;have eE:=Gn (P:=P) (w:=w) (base:=base) T  nA;have iT:=qp (P:=P) (w:=w) (base:=base) T pz dI;have rH:=C1 (P:=P) (w:=w) (base:=base) T  lr;have l0:=Bl (P:=P) (w:=w) (base:=base) T  j9;have rG:=C2 (P:=P) (w:=w) (base:=base) T pA lu;have g8:=pf (P:=P) (w:=w) (base:=base) T  dg;have l4:=wJ (P:=P) (w:=w) (base:=base) T rG g8 g9;have v9:=Gp (P:=P) (w:=w) (base:=base) T  nB;have d_:=Bm (P:=P) (w:=w) (base:=base) T jM eE iS;have pB:=Bn (P:=P) (w:=w) (base:=base) T eE rH l0 j_;have kO:=vK (P:=P) (w:=w) (base:=base) T eE fN;have gq:=y9 (P:=P) (w:=w) (base:=base) T eE iT pB kO gm;have rJ:=C3 (P:=P) (w:=w) (base:=base) T jM l4 d_ gq lx;have ke:=tm (P:=P) (w:=w) (base:=base) T  fi;have zA:=wK (P:=P) (w:=w) (base:=base) T ke g_;have bQ:=y_ (P:=P) (w:=w) (base:=base) T  je;have kg:=tq (P:=P) (w:=w) (base:=base) T  fj;have dh:=wL (P:=P) (w:=w) (base:=base) T kg ic;have gr:=za (P:=P) (w:=w) (base:=base) T  jf;have eh:=wM (P:=P) (w:=w) (base:=base) T gr fy;have ig:=wN (P:=P) (w:=w) (base:=base) T dh ie;have kP:=vL (P:=P) (w:=w) (base:=base) T dh ig fO;have gs:=zc (P:=P) (w:=w) (base:=base) T eh kP jg;have l5:=wO (P:=P) (w:=w) (base:=base) T bQ ij;have ik:=wQ (P:=P) (w:=w) (base:=base) T  fz;have nC:=zd (P:=P) (w:=w) (base:=base) T  jh;have dM:=tw (P:=P) (w:=w) (base:=base) T bQ dJ;have oj:=nh (P:=P) (w:=w) (base:=base) T bQ l5 dM cz;have eo:=wR (P:=P) (w:=w) (base:=base) T  fA;have fq:=tE (P:=P) (w:=w) (base:=base) T  dN;have jo:=rA (P:=P) (w:=w) (base:=base) T  eF;have fH:=nj (P:=P) (w:=w) (base:=base) T gs cA;have kh:=tF (P:=P) (w:=w) (base:=base) T gs fm;have ji:=ze (P:=P) (w:=w) (base:=base) T  gu;have ki:=tG (P:=P) (w:=w) (base:=base) T  fo;have qz:=wU (P:=P) (w:=w) (base:=base) T v9 rJ ik nC eo fq jo fH kh ji ki iq;refine PB (f:=A9) ?_ hp;refine Kw.okD (N:=["script","k","state","formula","more","turn"]) (ps:=["script"]) (st:=A_) (k:=34) S0 .S JS FL o_ rfl (by decide) ?_;intro f cc A outer s0 H E hr;have hu:=hr.units;have iZ:=br hr;exact (ak (eL aaf rfl (kX (ae (aI (Ff rfl) HU (by rfl) T.zoq Hs (ae aj (ae (aI (Fg rfl) HV (by rfl) T.zrq Pf (ae (aI aX bg (by rfl) T.znq bG (ae (ai 0) ah)) (ae aj ah))) ah))) ah) T.zfq) (ay (i:=1) o_.nd)
 (ak (ft (i:=2) o_.nd (ax zA (rm hr) (ae (ai 0) (ae (ai 1) ah))))
 (ak (aT (i:=3) o_.nd (eU (i:=2) oj (rm hr) ah))
 (ak (aT (i:=4) o_.nd (ai 3))
 (ak (eL aaf rfl (kX (ae (eU (i:=2) bQ (rm hr) (ae aj ah)) ah) T.zfq) (ay (i:=5) o_.nd)
 (ar (aT (i:=4) o_.nd (aP (ae a8 (ae (ai 4) ah))))))
 (ar (bB (DW.dt (oq (oO (jl (ax qz (rm hr) (ae (ai 3) ah)))) (mC (oO (jl (ax qz (rm hr) (ae (ai 4) ah))))))) (ar (aF km)) aL)))))))
 (ar (aF km)))
end
inductive kC (K:ZD)(x:Str)(st:aca):Prop
 |mk {f:ZY} {od an:Option ZY} {sl:Array (Option ZF)} {oc kV dc pm cd ct:ZF}:aaD K aag x=some (some (.ref f))->K.lookup f=some ⟨oc,od,.func (abi x x (gF st) (cJ st) (aq st) .none kV dc pm an cd ct),sl⟩->aex K cd x=true->acs K (.ref f)=true->kC K x st
theorem bN {st:aca}(q:kC K x st)(X:K.In h)(G:h.Ns aag mg):Df K mg x st:=by
 obtain⟨a,l,c,k⟩:=q;exact⟨_,_,adZ X G a,Hd (st:=st) l c k⟩
theorem all_mk {fa:ZY}(X:K.In h)(G:h.Ns aag mg)(Yz:mg "law"=some (.ref fa))(q0:kC K "is_whole" k7)(q1:kC K "exchanged" iK)(q2:kC K "arrangements" bV)(q3:kC K "pile_mix" j2)(q4:kC K "pair_at" nR)(q5:kC K "turned" nU)(q6:kC K "mixed_and_seen" eH)(q7:kC K "turning" i_)(q8:kC K "choosing" jI)(q9:kC K "is_made" nV)(YA:kC K "formulas_within" cT)(YB:kC K "is_formula" e_)(YC:kC K "row_of" rj)(YD:kC K "steps_of" j3)(YE:kC K "piles_of" k8)(YF:kC K "pair_behind" gf)(YG:kC K "plan_from" iL)(YH:kC K "plan_of" lT)(YI:kC K "_law_cell_at" iM)(YJ:kC K "_law_state" jJ)(YK:kC K "_law_take" k9)(YL:kC K "_law_divisor" gj)(YM:kC K "_law_ratio" jK)(YN:kC K "_law_laid" j4)(YO:kC K "_law_paths" iN)(YQ:kC K "_law_walked" dk)(YR:kC K "_law_total" jL)(YS:kC K "_law_gone" j5)(YT:kC K "_law_order" iO)(YU:kC K "_law_sound" bS)(YV:kC K "_law_pair" k_)(YW:kC K "_law_formula" fb)(YX:kC K "_law_some_formula" cU)(YY:kC K "_law_worth" iP)(YZ:kC K "_law_bits_in" fY)(Y0:kC K "_law_all_bits" dW)(Y1:kC K "_law_seen_chances" cu)(Y2:kC K "_law_results" fc)(Y3:kC K "_law_same" ja)(Y4:kC K "_law_row_due" iQ)(Y5:kC K "_law_right" iR)(Y6:kC K "law" A_)(zkq:aaD K aag "abs"=some none)(zmq:aaD K aag "all"=some none)(zhq:aaD K aag "bool"=some none)(zlq:aaD K aag "int"=some none)(zcq:aaD K aag "isinstance"=some none)(znq:aaD K aag "len"=some none)(ziq:aaD K aag "list"=some none)(zoq:aaD K aag "max"=some none)(zrq:aaD K aag "min"=some none)(zfq:aaD K aag "range"=some none)(zjq:aaD K aag "set"=some none)(zeq:aaD K aag "sorted"=some none)(zqq:aaD K aag "sum"=some none)(zgq:aaD K aag "tuple"=some none)(zpq:aaD K aag "zip"=some none){qA:Tok}(zdq:aaD K aag "MOST_BITS"=some (some (.int 3 qA))){gx:Tok}(zaq:aaD K aag "MOST_FORMULAS_WITHIN"=some (some (.int 20 gx))){jt:Tok}(zbq:aaD K aag "MOST_PILES_MIXED"=some (some (.int 4 jt)))(hp:∀ns:List Int,ns.length<=63->A9 [.scr (ns.map .int)]=.ok (.bl true))
  : ∃fd:adR,(∀(s:ZT) (v:ZF),BindsTo s fd ⟨[v],[]⟩ [("script",v)])/\∀base:abT,K.In base->base.Ns aag mg->nZ PySem.Challenge.pw_hushcards_k56_plans_of_formulas w K mg base zM 35 fa fd ["script"] (Ad K):=by
 obtain @⟨f_,od_,an41,sl_,oc_,kV41,dc41,pm41,cd41,ct41,a41,l41,c41,k41⟩:=Y6;have e:=Yz.symm.trans (adZ X G a41);cases e;have T:Txt mg:=⟨aam X G zkq,aam X G zmq,aam X G zhq,aam X G zlq,aam X G zcq,aam X G znq,aam X G ziq,aam X G zoq,aam X G zrq,aam X G zfq,aam X G zjq,aam X G zeq,aam X G zqq,aam X G zgq,aam X G zpq,⟨_,adZ X G zdq⟩,⟨_,adZ X G zaq⟩,⟨_,adZ X G zbq⟩⟩;have j7:=bN q0 X G;have jd:=bN q1 X G;have dH:=bN q2 X G;have j8:=bN q3 X G;have lj:=bN q4 X G;have nA:=bN q5 X G;have dI:=bN q6 X G;have lr:=bN q7 X G;have j9:=bN q8 X G;have lu:=bN q9 X G;have dg:=bN YA X G;have g9:=bN YB X G;have nB:=bN YC X G;have iS:=bN YD X G;have j_:=bN YE X G;have fN:=bN YF X G;have gm:=bN YG X G;have lx:=bN YH X G;have fi:=bN YI X G;have g_:=bN YJ X G;have je:=bN YK X G;have fj:=bN YL X G;have ic:=bN YM X G;have jf:=bN YN X G;have fy:=bN YO X G;have fO:=bN YQ X G;have ie:=bN YR X G;have jg:=bN YS X G;have ij:=bN YT X G;have fz:=bN YU X G;have jh:=bN YV X G;have dJ:=bN YW X G;have cz:=bN YX X G;have fA:=bN YY X G;have dN:=bN YZ X G;have eF:=bN Y0 X G;have cA:=bN Y1 X G;have fm:=bN Y2 X G;have gu:=bN Y3 X G;have fo:=bN Y4 X G;have iq:=bN Y5 X G;have FL:=Hd (st:=A_) l41 c41 k41;refine⟨abi "law" "law" (gF A_) (cJ A_) (aq A_) .none kV41 dc41 pm41 an41 cd41 ct41,λs v=>.of_eq rfl,λbase _ _=>?_⟩;exact Qg (P:=PySem.Challenge.pw_hushcards_k56_plans_of_formulas) (w:=w) (base:=base) T  FL j7 jd dH j8 lj nA dI lr j9 lu dg g9 nB iS j_ fN gm lx fi g_ je fj ic jf fy fO ie jg ij fz jh dJ cz fA dN eF cA fm gu fo iq hp
end Hc
namespace Hc
open L2
end Hc
namespace Hc
open L2
def N4 {f:Bool->Bool}{u w:U}:kl f u w=(Qa u w).bind λb=>.ok (.bl (f b)):=nr rfl
def EL {a b:Int}:Qa (.int a) (.int b)=.ok (a==b):=nr rfl
def JT {a b:Bool}:Qa (.bl a) (.bl b)=.ok (a==b):=nr rfl
def EM {a b:Str}:Qa (.str a) (.str b)=.ok (a==b):=nr rfl
def cK:type_of% @ZR.{0,0}/\type_of% @abj.{0,0}/\type_of% @ZM.{0}/\type_of% @aaL.{0}/\type_of% @acZ.{0}/\type_of% @ab4.{0}/\type_of% @aeb.{0}/\type_of% @List.replicate_zero.{0}/\type_of% @acj.{0}/\type_of% @aax.{0}/\type_of% @acy.{0}/\type_of% @adh.{0}/\type_of% @abO.{0}/\type_of% @acY.{0}/\type_of% @if_true.{1}/\type_of% @if_false.{1}/\type_of% @Z9/\type_of% @Nj/\type_of% @acf/\type_of% @aeA/\type_of% @N4/\type_of% @EL/\type_of% @JT/\type_of% @EM:=
 ⟨@ZR.{0,0},@abj.{0,0},@ZM.{0},@aaL.{0},@acZ.{0},@ab4.{0},@aeb.{0},@List.replicate_zero.{0},@acj.{0},@aax.{0},@acy.{0},@adh.{0},@abO.{0},@acY.{0},@if_true.{1},@if_false.{1},@Z9,@Nj,@acf,@aeA,@N4,@EL,@JT,@EM⟩
end Hc
namespace Hc
open L2
def NS:(0:Nat)<=ZH/\(1:Nat)<=ZH/\(2:Nat)<=ZH/\(3:Nat)<=ZH/\(4:Nat)<=ZH/\(5:Nat)<=ZH/\(6:Nat)<=ZH/\(10:Nat)<=ZH/\(16:Nat)<=ZH/\(18:Nat)<=ZH/\(22:Nat)<=ZH:=by decide
def Pzz:type_of% @aG∧type_of% @cK∧type_of% @NS:=⟨@aG,@cK,@NS⟩
theorem Bo {α:Type}{f:U->R (Option U)}{c g:α->U}:∀{xs:List α},(∀x∈xs,f (c x)=.ok (some (g x)))->ko f (xs.map c)=.ok (xs.map g)
 | [],_=>rfl
 |x::xs,h=>by
  rw[ZR,ZR];unfold ko;rw[h x ZA];show (ko f (xs.map c)).bind _=_;rw[Bo λy hy=>h y (ZC _ hy)];rfl
def N5 {ws:List U}:gP (.lst us) [.lst ws]=if us.length+ws.length<=ZH then .ok (.non,.lst (us++ws)) else .stk:=nr rfl
theorem JU (us:List U)(k:Nat):kF us none (some (k:Int))=us.take k:=by
 unfold kF;rw[HT.sIx_none,HT.sIx_nat,acv,Nat.sub_zero];rcases Nat.le_total k us.length with h|h
 ·rw[Nat.min_eq_left h]
 ·rw[Nat.min_eq_right h,adN,abJ h]
theorem Bp (us:List U)(k:Nat):kF us (some (k:Int)) none=us.drop k:=by
 unfold kF;rw[HT.sIx_none,HT.sIx_nat];rcases Nat.le_total k us.length with h|h
 ·rw[Nat.min_eq_left h,abJ (by rw[acm];lia)]
 ·rw[Nat.min_eq_right h,aco,List.drop_of_length_le h,List.take_nil]
def GJ (s:U):Prop:=∃v b,s=.lst [.int v,.bl b]/\0<=v/\(b=false->v<2147483647)
theorem nW {s:U}{m:Int}(h:GJ s)(h0:0<m)(h1:m<18446744073709551616):∃r s',bp [s,.int m]=.ok (.int r,s')/\0<=r/\r<m/\GJ s':=by
 obtain⟨v,b,rfl,hv,hb⟩:=h;cases b with
 |true=>
  refine⟨v % m,.lst [.int (v / m),.bl true],?_,acF _ (by lia),abQ _ h0,v / m,true,rfl,Int.ediv_nonneg hv (by lia),λh=>nomatch h⟩;simp only[Pzz,cb,Nat.reduceAdd,Nat.reduceSub,bp,ky,hG h0,Es h0 h1,Et]
 |false=>
  have g1:0<=(v*48271+29) % 2147483647:=acF _ (by decide);have g2:(v*48271+29) % 2147483647<2147483647:=abQ _ (by decide);have c1:oQ v 48271=true:=Jv (by decide) (by decide);have d1:decide ((0:Int)<2147483647)=true:=by decide
  have d2:decide ((0:Int)<2147483629)=true:=by decide
  have d3:decide ((0:Int)<2147483587)=true:=by decide
  have e8:Fz (((((v*48271+29) % 2147483647)*((v*48271+29) % 2147483647)+39373*((v*48271+29) % 2147483647)+7) % 2147483629*((((v*48271+29) % 2147483647)*((v*48271+29) % 2147483647)+39373*((v*48271+29) % 2147483647)+7) % 2147483629)+16807*((((v*48271+29) % 2147483647)*((v*48271+29) % 2147483647)+39373*((v*48271+29) % 2147483647)+7) % 2147483629)) % 2147483587) 8=true:=Es (by decide) (by decide);have c2:oQ ((v*48271+29) % 2147483647) ((v*48271+29) % 2147483647)=true:=yx g1 (by lia);have c3:oQ 39373 ((v*48271+29) % 2147483647)=true:=yx (by decide) (by decide);generalize hs:(v*48271+29) % 2147483647=s1 at *;have g3:0<=(s1*s1+39373*s1+7) % 2147483629:=acF _ (by decide);have g4:(s1*s1+39373*s1+7) % 2147483629<2147483629:=abQ _ (by decide);have c4:oQ ((s1*s1+39373*s1+7) % 2147483629) ((s1*s1+39373*s1+7) % 2147483629)=true:=yx g3 (by lia);have c5:oQ 16807 ((s1*s1+39373*s1+7) % 2147483629)=true:=yx (by decide) (by decide);refine⟨((s1*s1+39373*s1+7) % 2147483629*((s1*s1+39373*s1+7) % 2147483629)+16807*((s1*s1+39373*s1+7) % 2147483629)) % 2147483587 / 8 % m,.lst [.int s1,.bl false],?_,acF _ (by lia),abQ _ h0,s1,false,rfl,g1,λ_=>g2⟩
  ·simp only[Pzz,cb,Nat.reduceAdd,Nat.reduceSub,bp,ky,hG h0,c1,d1,d2,d3,hs,c2,c3,c4,c5,e8,Et]
theorem JV {us:List U}{u:U}{k:Int}(hu:u=.scr (ns.map .int)\/u=.lst (ns.map .int))(h0:0<=k):∃s,gY [u,.int k]=.ok s/\GJ s:=by
 obtain⟨k,rfl⟩:∃n:Nat,k=n:=⟨k.toNat,(by lia)⟩;have sL:∃c:Int,dG [u,.int k]=.ok (.int c):=by
  by_cases hk:k<ns.length
  ·refine⟨ns[k],?_⟩;have d:decide ((k:Int)<((ns.map U.int).length:Nat))=true:=by rw[Zz];exact hG (by lia)
   have e:mx (ns.map U.int) (k:Int)=some (.int ns[k]):=by rw[uK,Z2,Zw hk];rfl
   rcases hu with rfl|rfl<;>simp only[Pzz,cb,Nat.reduceAdd,Nat.reduceSub,dG,gX,d,e]
  ·refine⟨0,?_⟩;have d:decide ((k:Int)<((ns.map U.int).length:Nat))=false:=by rw[Zz];exact hJ (by lia)
   rcases hu with rfl|rfl<;>simp only[Pzz,cb,Nat.reduceAdd,Nat.reduceSub,dG,gX,d]
 obtain⟨c,hc⟩:=sL;have Xq:Lw 10 18=true:=by decide
 have Xr:(10:Int) ^ (18:Int).toNat=1000000000000000000:=by decide
 have dm:decide ((0:Int)<2147483647)=true:=by decide
 by_cases h:1000000000000000000<=c
 ·refine⟨.lst [.int (c-1000000000000000000),.bl true],?_,_,true,rfl,(by lia),λh=>nomatch h⟩;simp only[Pzz,cb,Nat.reduceAdd,Nat.reduceSub,gY,jz,hc,Xq,Xr,hG h,hV]
 ·refine⟨.lst [.int (c % 2147483647),.bl false],?_,_,false,rfl,acF _ (by decide),λ_=>abQ _ (by decide)⟩;simp only[Pzz,cb,Nat.reduceAdd,Nat.reduceSub,gY,jz,hc,Xq,Xr,hJ h,dm,hV]
theorem vM {α:Type}:∀(l:List α) (i:Nat) (h:i<l.length),(l[i]::l.eraseIdx i).Perm l
 |x::l,0,_=>aa5 _
 |x::l,i+1,h=>by
  have h':i<l.length:=by simpa using h
  show (l[i]::x::l.eraseIdx i).Perm (x::l);exact (List.Perm.swap _ _ _).trans (List.Perm.cons x (vM l i h'))
theorem qr {α β:Type}(f:α->β):∀(l:List α) (i:Nat),(l.map f).eraseIdx i=(l.eraseIdx i).map f
 | [],_=>rfl
 |_::_,0=>rfl
 |x::l,i+1=>by
  show f x::(l.map f).eraseIdx i=f x::(l.eraseIdx i).map f;rw[qr f l i]
theorem Qh {k:Int}{y:U}(h1:aeG k us.length=some j)(h2:us[j]? = some y)(h3:0<=k)(h4:k<1000000000):qO (.lst us) [.int k]=.ok (y,.lst (us.eraseIdx j)):=by
 unfold qO;dsimp only;rw[hV (by lia),h1];dsimp only;rw[h2]
def Bq (n:Nat)(os:List Int):Prop:=os.Perm (bz n)
theorem JW {s:U}(h:GJ s)(h1:m<=1000):∃(os:List Int) (s':U),g0 [s,.int m]=.ok (.tup (os.map .int),s')/\Bq m os/\GJ s':=by
 obtain⟨ys,⟨left,s'⟩,e,l,os,hr,hp,hs'⟩:=Aq (G:=lQ) (js:=[none,some 2,some 0]) (sg:=bL 0) (ge:=gM "list" 1 qO (af (xn 2 2 bp (af (dP cD (af (ag 1) ao)) ao)) ao))
  (λx:List Int×U=>[some x.2,some (.int m),some (.lst (x.1.map .int))]) m (λys x=>∃os:List Int,ys=os.map .int/\(os++x.1).Perm (bz m)/\GJ x.2)
  (λdone u x hd h00=>by
   obtain⟨os,hr,hp,hs⟩:=h00;obtain⟨left,s⟩:=x;have hl:0<left.length:=by
    have:=hp.length_eq;rw[ZJ,cG] at this;have h2:done.length=os.length:=by rw[hr,Zz]
    dsimp only at this;lia
   have QJ:left.length<=m:=by
    have:=hp.length_eq;rw[ZJ,cG] at this;dsimp only at this;lia
   obtain⟨r,s',b1,b2,b3,b4⟩:=nW (m:=left.length) hs (by lia) (by lia);obtain⟨k,rfl⟩:∃n:Nat,r=n:=⟨r.toNat,(by lia)⟩;have hk:k<left.length:=(by lia)
   refine⟨[some u,some (.lst (left.map .int)),some s],.int left[k],[some u,some (.lst ((left.eraseIdx k).map .int)),some s'],(left.eraseIdx k,s'),rfl,?_,rfl,os++[left[k]],by rw[hr,aae];rfl,?_,b4⟩
   ·have hx:aeG (k:Int) (left.map U.int).length=some k:=by
     unfold aeG;rw[Zz];simp;lia
    have hy:(left.map U.int)[k]? = some (.int left[k]):=by rw[Z2,Zw hk];rfl
    have pp:=Qh hx hy (by lia) (by lia);rw[qr] at pp;simp only[Pzz,cb,Nat.reduceAdd,Nat.reduceSub,Zz,b1,pp]
   ·rw[aac];refine List.Perm.trans (abq os ?_) hp;exact vM left k hk) (bY 0 m) [] (bz m,s) (by rw[iF];simp) ⟨[],rfl,aa5 _,h⟩
 rw[iF] at l;have ln:os.length=m:=by
  have:=congrArg List.length hr;rw[ab4,Zz] at this;lia
 have le:left=[]:=by
  have:=hp.length_eq;rw[ZJ,cG] at this;dsimp only at this;exact adM (by lia)
 subst le;rw[aad] at hp;rw[ab4] at hr;dsimp only at e;refine⟨os,s',?_,hp,hs'⟩;rw[hr] at e;simp only[Pzz,cb,Nat.reduceAdd,Nat.reduceSub,g0,lR,yu m (by lia),pV m (by lia),mM] at e ⊢;simp only[Pzz,cb,Nat.reduceAdd,Nat.reduceSub,e]
inductive Fm where
 |bit (n:Int)
 |neg (f:Fm)
 |two (w:Str) (f g:Fm)
noncomputable def Fm.u:Fm->U
 | .bit n=>.tup [.str "bit",.int n]
 | .neg f=>.tup [.str "not",f.u]
 | .two w f g=>.tup [.str w,f.u,g.u]
noncomputable def Fm.bits:Fm->List Int
 | .bit n=>[n]
 | .neg f=>f.bits
 | .two _ f g=>f.bits++g.bits
noncomputable def Fm.dep:Fm->Nat
 | .bit _=>1
 | .neg f=>f.dep+1
 | .two _ f g=>max f.dep g.dep+1
abbrev zC (w:Str):Prop:=w="all"\/w="any"\/w="one"
def Fm.ok:Fm->Prop
 | .bit _=>True
 | .neg f=>f.ok
 | .two w f g=>zC w/\f.ok/\g.ok
noncomputable def lU:Nat->Fm->Fm
 |0,f=>f
 |n+1,f=>.neg (lU n f)
theorem vN (n:Nat)(f:Fm):(lU n f).bits=f.bits/\(lU n f).dep=f.dep+n/\(f.ok->(lU n f).ok):=by
 induction n with
 |zero=>exact⟨rfl,rfl,λh=>h⟩
 |succ n ih=>exact⟨ih.1,by show (lU n f).dep+1=_;rw[ih.2.1];lia,ih.2.2⟩
noncomputable def Uw:Ev->SR:=aY 2 (aU (af (gC (.str "not")) (af (ag 2) ao)))
noncomputable def Br:Ev->SR:=aB (jx (pN (af (aD bD (bb (af (zqc 0) (af (zqc 0) (af (zqc 0) (af (zqc 1) (af (zqc 1) (af (zqc 2) ao))))))) (xn 2 0 bp (af (zqc 6) ao))) ao)) (bL 5) Uw) (aV (ag 2))
theorem Me {s:U}{b o3 o4:Option U}(F:Fm)(v:Nat):∃o5,f9 (bL 5) Uw (bY 0 v) [some s,b,some F.u,o3,o4,none]=.nx [some s,b,some (lU v F).u,o3,o4,o5]:=by
 obtain⟨ρ',e,o,rfl⟩:=jG (sg:=bL 5) (s:=Uw) (us:=bY 0 v) (λi ρ=>∃o:Option U,ρ=[some s,b,some (lU i F).u,o3,o4,o])
  (λi v ρ hv h00=>by
   obtain⟨o,hρ⟩:=h00;subst hρ;refine⟨_,_,rfl,.inl (by
    unfold Uw;simp only[Pzz,cb,Nat.reduceAdd,Nat.reduceSub,adh,acy];rfl),some v,rfl⟩) (ρ:=[some s,b,some F.u,o3,o4,none]) ⟨none,rfl⟩
 rw[iF] at e;exact⟨o,e⟩
theorem Qi {t:Int}(h0:0<=t)(h1:t<6):∃v:Nat,v<=2/\bD (.lst [.int 0,.int 0,.int 0,.int 1,.int 1,.int 2]) (.int t)=.ok (.int v):=by
 have:t=0\/t=1\/t=2\/t=3\/t=4\/t=5:=(by lia)
 rcases this with rfl|rfl|rfl|rfl|rfl|rfl
 ·exact⟨0,(by lia),rfl⟩
 ·exact⟨0,(by lia),rfl⟩
 ·exact⟨0,(by lia),rfl⟩
 ·exact⟨1,(by lia),rfl⟩
 ·exact⟨1,(by lia),rfl⟩
 ·exact⟨2,(by lia),rfl⟩
theorem EN {s:U}{b o3 o4:Option U}(F:Fm)(hs:GJ s):∃(v:Nat) (s':U) (o5:Option U),Br [some s,b,some F.u,o3,o4,none]=.rt (lU v F).u [some s',b,some (lU v F).u,o3,o4,o5]/\v<=2/\GJ s':=by
 obtain⟨t,s1,e1,t0,t1,hs1⟩:=nW (m:=6) hs (by decide) (by decide);obtain⟨v,hv,e2⟩:=Qi t0 t1;obtain⟨o5,e3⟩:=Me (s:=s1) (b:=b) (o3:=o3) (o4:=o4) F v;refine⟨v,s1,o5,?_,hv,hs1⟩;unfold Br;simp only[Pzz,cb,Nat.reduceAdd,Nat.reduceSub,e1,e2,yu v (by lia),e3]
def S1 (n:Nat):eX (n+1)=aB (gJ (gB (aD (gc id) (dP cD (af (ag 1) ao)) (zqc 1))) (aY 2 (aU (af (gC (.str "bit")) (af (zqb 1 0) ao)))) (aB (aY 3 (aD dO (zqc 1) (xn 2 0 bp (af (aD uE (dP cD (af (ag 1) ao)) (zqc 1)) ao))))
 (aB (aY 4 (bb (af (xn 2 0 (bZ n) (af (z9 xr (ag 1) i6 (iy (ag 3))) ao)) (af (xn 2 0 (bZ n) (af (z9 xr (ag 1) (iy (ag 3)) i6) ao)) ao))))
 (aY 2 (aU (af (aD bD (bb (af (gC (.str "all")) (af (gC (.str "any")) (af (gC (.str "one")) ao)))) (xn 2 0 bp (af (zqc 3) ao))) (af (zqb 4 0) (af (zqb 4 1) ao)))))))) Br:=rfl
theorem JX {t:Int}(h0:0<=t)(h1:t<3):∃w:Str,zC w/\bD (.lst [.str "all",.str "any",.str "one"]) (.int t)=.ok (.str w):=by
 have:t=0\/t=1\/t=2:=(by lia)
 rcases this with rfl|rfl|rfl
 ·exact⟨_,.inl rfl,rfl⟩
 ·exact⟨_,.inr (.inl rfl),rfl⟩
 ·exact⟨_,.inr (.inr rfl),rfl⟩
theorem ph:∀(k:Nat) (bs:List Int) (s:U),1<=bs.length->bs.length<=k->bs.length<=3->GJ s->∃(F:Fm) (s':U),bZ k [s,.tup (bs.map .int)]=.ok (F.u,s')/\F.bits=bs/\F.ok/\F.dep<=3*bs.length/\GJ s'
 |0,bs,s,h1,h2,_,_=>by lia
 |k+1,bs,s,h1,h2,h3,hs=>by
  by_cases c1:bs.length=1
  ·obtain⟨b,rfl⟩:=List.length_eq_one_iff.mp c1;obtain⟨v,s',o5,e,hv,hs'⟩:=EN (b:=some (.tup [.int b])) (o3:=none) (o4:=none) (.bit b) hs;have N:=vN v (.bit b);refine⟨lU v (.bit b),s',?_,N.1,N.2.2 True.intro,?_,hs'⟩
   ·have e:Br [some s,some (.tup [.int b]),some (.tup [.str "bit",.int b]),none,none,none]=.rt (lU v (.bit b)).u [some s',some (.tup [.int b]),some (lU v (.bit b)).u,none,none,o5]:=e;rw[bZ,S1];have b1:(((1:Nat):Int)==1)=true:=rfl;simp only[Pzz,cb,Nat.reduceAdd,Nat.reduceSub,ZR,abj,ZM,aaL,cY,id,b1,e]
   ·rw[N.2.1];show 1+v<=3*1;lia
  ·obtain⟨t,s1,e1,t0,t1,hs1⟩:=nW (m:=(bs.length:Int)-1) hs (by lia) (by lia);obtain⟨c,hc⟩:∃c:Nat,1+t=c:=⟨(1+t).toNat,(by lia)⟩;have l1:(bs.take c).length=c:=by rw[abx];lia
   have l2:(bs.drop c).length=bs.length-c:=acm;obtain⟨F,s2,e2,f1,f2,f3,cV⟩:=ph k (bs.take c) s1 (by lia) (by lia) (by lia) hs1;obtain⟨G,s3,e3,g1,g2,g3,Q3⟩:=ph k (bs.drop c) s2 (by lia) (by lia) (by lia) cV;obtain⟨q,s4,e4,q0,q1,Wi⟩:=nW (m:=3) Q3 (by decide) (by decide);obtain⟨w,hw,e5⟩:=JX q0 q1;obtain⟨v,s',o5,e,hv,hs'⟩:=EN (b:=some (.tup (bs.map .int))) (o3:=some (.int c)) (o4:=some (.lst [F.u,G.u])) (.two w F G) Wi;have N:=vN v (.two w F G);refine⟨lU v (.two w F G),s',?_,?_,N.2.2 ⟨hw,f2,g2⟩,?_,hs'⟩
   ·have e:Br [some s4,some (.tup (bs.map .int)),some (.tup [.str w,F.u,G.u]),some (.int c),some (.lst [F.u,G.u]),none]=.rt (lU v (.two w F G)).u [some s',some (.tup (bs.map .int)),some (lU v (.two w F G)).u,some (.int c),some (.lst [F.u,G.u]),o5]:=e;rw[List.map_take] at e2;rw[List.map_drop] at e3;have b1:(((bs.length:Nat):Int)==1)=false:=beq_eq_false_iff_ne.mpr (by lia);rw[bZ,S1];simp only[Pzz,cb,Nat.reduceAdd,Nat.reduceSub,Zz,cY,id,b1,e1,hc,JU,Bp,e2,e3,e4,e5,e]
   ·rw[N.1];show F.bits++G.bits=bs;rw[f1,g1,adE]
   ·rw[N.2.1];show max F.dep G.dep+1+v<=3*bs.length;lia
theorem Mf {s:U}(hs:GJ s):∃(F:Fm) (s':U) (n:Nat),dB [s]=.ok (F.u,s')/\F.ok/\Bq n F.bits/\1<=n/\n<=3/\F.dep<=9/\GJ s':=by
 obtain⟨t,s1,e1,t0,t1,hs1⟩:=nW (m:=3) hs (by decide) (by decide);obtain⟨n,hn⟩:∃n:Nat,1+t=n:=⟨(1+t).toNat,(by lia)⟩;obtain⟨os,s2,e2,ho,cV⟩:=JW (m:=n) hs1 (by lia);have l:os.length=n:=by have:=ho.length_eq;rwa [cG] at this
 obtain⟨F,s3,e3,f1,f2,f3,Q3⟩:=ph 6 os s2 (by lia) (by lia) (by lia) cV;refine⟨F,s3,n,?_,f2,by rw[f1];exact ho,(by lia),(by lia),(by lia),Q3⟩;simp only[Pzz,cb,Nat.reduceAdd,Nat.reduceSub,dB,fF,e1,hn,e2,e3]
def Bs:(ZL "bit"==ZL "bit")=true/\(ZL "not"==ZL "bit")=false/\(ZL "not"==ZL "not")=true/\(ZL "all"==ZL "bit")=false/\(ZL "all"==ZL "not")=false/\(ZL "all"==ZL "all")=true/\(ZL "any"==ZL "bit")=false/\(ZL "any"==ZL "not")=false/\(ZL "any"==ZL "all")=false/\(ZL "any"==ZL "any")=true/\(ZL "one"==ZL "bit")=false/\(ZL "one"==ZL "not")=false/\(ZL "one"==ZL "all")=false/\(ZL "one"==ZL "any")=false/\(ZL "one"==ZL "one")=true/\(ZL "all"==ZL "one")=false/\(ZL "any"==ZL "one")=false:=by decide
noncomputable def EO (w:Str)(a b:Int):Int:=if w="all" then min a b else if w="any" then max a b else (a+b) % 2
noncomputable def Fm.wo (rs:List Int):Fm->Int
 | .bit n=>rs.getD n.toNat 0
 | .neg f=>1-f.wo rs
 | .two w f g=>EO w (f.wo rs) (g.wo rs)
theorem sI {rs:List Int}(h:∀r∈rs,r=0\/r=1):∀F:Fm,(∀n∈F.bits,0<=n/\n<rs.length)->F.wo rs=0\/F.wo rs=1
 | .bit n,hb=>by
  have:=hb n (by unfold Fm.bits;exact ZV.mpr rfl);have hl:n.toNat<rs.length:=(by lia)
  unfold Fm.wo;rw[aak,Zw hl];exact h _ (acr hl)
 | .neg f,hb=>by
  have:=sI h f hb;unfold Fm.wo;lia
 | .two w f g,hb=>by
  have h1:=sI h f (λn hn=>hb n (ZZ _ hn));have h2:=sI h g (λn hn=>hb n (ZO _ hn));unfold Fm.wo EO;split
  ·lia
  ·split
   ·lia
   ·lia
def vO (n:Nat):bO .S 3 (c_ n)=de n:=rfl
theorem Qj {rs:List Int}{n:Int}(h0:0<=n)(h1:n<rs.length):mx (rs.map U.int) n=some (.int (rs.getD n.toNat 0)):=by
 obtain⟨m,rfl⟩:∃m:Nat,n=m:=⟨n.toNat,(by lia)⟩;have hm:m<rs.length:=(by lia)
 rw[uK,Z2,Zw hm,aau,aak,Zw hm];rfl
theorem qt {rs:List Int}(h:∀r∈rs,r=0\/r=1):∀(F:Fm) (k:Nat),F.ok->F.dep<=k->(∀n∈F.bits,0<=n/\n<rs.length)->de k [F.u,.tup (rs.map .int)]=.ok (.int (F.wo rs))
 | .bit n,0,_,hd,_=>by unfold Fm.dep at hd;lia
 | .neg f,0,_,hd,_=>by unfold Fm.dep at hd;lia
 | .two w f g,0,_,hd,_=>by unfold Fm.dep at hd;lia
 | .bit n,k+1,_,hd,hb=>by
  have hn:=hb n (by unfold Fm.bits;exact ZV.mpr rfl);have e:=Qj hn.1 hn.2;rw[de,c_,vO];unfold Fm.u Fm.wo;simp only[Pzz,cb,Nat.reduceAdd,Nat.reduceSub,Bs,id,e]
 | .neg f,k+1,ho,hd,hb=>by
  have e:=qt h f k ho (by unfold Fm.dep at hd;lia) hb;rw[de,c_,vO];unfold Fm.u Fm.wo;simp only[Pzz,cb,Nat.reduceAdd,Nat.reduceSub,Bs,id,e]
 | .two w f g,k+1,ho,hd,hb=>by
  have h1:=sI h f (λn hn=>hb n (ZZ _ hn));have h2:=sI h g (λn hn=>hb n (ZO _ hn));have e1:=qt h f k ho.2.1 (by unfold Fm.dep at hd;lia) (λn hn=>hb n (ZZ _ hn));have e2:=qt h g k ho.2.2 (by unfold Fm.dep at hd;lia) (λn hn=>hb n (ZO _ hn));rw[de,c_,vO];unfold Fm.u Fm.wo;rcases ho.1 with rfl|rfl|rfl<;>simp only[Pzz,cb,Nat.reduceAdd,Nat.reduceSub,Bs,id,e1,e2]<;>rcases h1 with h1|h1<;>rcases h2 with h2|h2<;>rw[h1,h2]<;>kernel_rfl
def N6 {a b:U}:kF [a,b] (some 1) none=[b]:=nr rfl
def N7 {a b c:U}:kF [a,b,c] (some 1) none=[b,c]:=nr rfl
def Gq {f:U->R (Option U)}{u y:U}(h:f u=.ok (some y)):ko f [u]=.ok [y]:=by unfold ko;rw[h];rfl
def Mg {f:U->R (Option U)}{u v y:U}(h1:f u=.ok (some y))(h2:f v=.ok (some z)):ko f [u,v]=.ok [y,z]:=by
 unfold ko;rw[h1];show (ko f [v]).bind _=_;rw[Gq h2];rfl
noncomputable def eP (p:Int×Int):U:=.tup [.int p.1,.int p.2]
noncomputable def Fm.st:Fm->Bool->List U
 | .bit n,a=>[if a then eP (2*n+1,2*n) else eP (2*n,2*n+1)]
 | .neg f,a=>f.st (!a)
 | .two w f g,a=>if w="one" then f.st a++g.st false++[.str "one"] else f.st a++g.st a++[.str (if ((w=="all") != a)=true then "all" else "any")]
theorem lV:∀(F:Fm) (a:Bool),(F.st a).length+1=2*F.bits.length
 | .bit n,a=>rfl
 | .neg f,a=>lV f (!a)
 | .two w f g,a=>by
  have h1:=lV f a;have h2:=lV g a;have h3:=lV g false;unfold Fm.st Fm.bits;rw[ZJ];split
  ·simp only[ZJ,ZM,aaL];lia
  ·simp only[ZJ,ZM,aaL];lia
def vP (n:Nat):bO .S 4 (eV n)=eW n:=rfl
def NB:not (true==false)=true/\not (true==true)=false/\not (false==true)=true/\not (false==false)=false:=by decide
theorem vQ {n:Int}(h0:0<=n)(h1:n<=3):jH [.int n]=.ok (eP (2*n,2*n+1)):=by
 have:n=0\/n=1\/n=2\/n=3:=(by lia)
 rcases this with rfl|rfl|rfl|rfl<;>kernel_rfl
def xS:eA [eP p]=.ok (eP (p.2,p.1)):=by
 unfold eP;simp only[Pzz,cb,Nat.reduceAdd,Nat.reduceSub,eA,vy]
theorem nq:∀(F:Fm) (a:Bool) (k:Nat),F.ok->F.dep<=k->F.bits.length<=1000->(∀n∈F.bits,0<=n/\n<=3)->eW k [F.u,.bl a]=.ok (.lst (F.st a))
 | .bit n,_,0,_,hd,_,_=>by unfold Fm.dep at hd;lia
 | .neg f,_,0,_,hd,_,_=>by unfold Fm.dep at hd;lia
 | .two w f g,_,0,_,hd,_,_=>by unfold Fm.dep at hd;lia
 | .bit n,a,k+1,_,hd,_,hb=>by
  have hn:=hb n (by unfold Fm.bits;exact ZV.mpr rfl);have e:=vQ hn.1 hn.2;rw[eW,eV,vP];unfold Fm.u Fm.st;cases a<;>simp only[Pzz,cb,Nat.reduceAdd,Nat.reduceSub,Bs,id,e,xS]
 | .neg f,a,k+1,ho,hd,hl,hb=>by
  have e:=nq f (!a) k ho (by unfold Fm.dep at hd;lia) hl hb;rw[eW,eV,vP];unfold Fm.u Fm.st;simp only[Pzz,cb,Nat.reduceAdd,Nat.reduceSub,Bs,id,e]
 | .two w f g,a,k+1,ho,hd,hl,hb=>by
  have hl:(f.bits++g.bits).length<=1000:=hl;rw[ZJ] at hl;have e1:=nq f a k ho.2.1 (by unfold Fm.dep at hd;lia) (by lia) (λn hn=>hb n (ZZ _ hn));have e2:=nq g a k ho.2.2 (by unfold Fm.dep at hd;lia) (by lia) (λn hn=>hb n (ZO _ hn));have e3:=nq g false k ho.2.2 (by unfold Fm.dep at hd;lia) (by lia) (λn hn=>hb n (ZO _ hn));have l1:=lV f a;have l2:=lV g a;have l3:=lV g false;rw[eW,eV,vP];unfold Fm.u Fm.st;have S:ZH=16777216:=rfl;have z1:(f.st a).length+(g.st a).length<=ZH:=(by lia)
  have z2:(f.st a++g.st a).length+1<=ZH:=by rw[ZJ];lia
  have z3:(f.st a).length+(g.st false).length<=ZH:=(by lia)
  have z4:(f.st a++g.st false).length+1<=ZH:=by rw[ZJ];lia
  rcases ho.1 with rfl|rfl|rfl
  ·rw[hU (by decide)];cases a<;>simp only[Pzz,cb,Nat.reduceAdd,Nat.reduceSub,Bs,id,e1,e2,NB,z1,z2]<;>rfl
  ·rw[hU (by decide)];cases a<;>simp only[Pzz,cb,Nat.reduceAdd,Nat.reduceSub,Bs,id,e1,e2,NB,z1,z2]<;>rfl
  ·rw[hV rfl];simp only[Pzz,cb,Nat.reduceAdd,Nat.reduceSub,Bs,id,e1,e3,z3,z4]
noncomputable def PT (p:List Int):U:=.tup (p.map .int)
noncomputable def PU (ps:List (List Int)):U:=.tup (ps.map PT)
noncomputable def dv (q:List (Int×Int))(x:Int):Int:=q.foldl (λv z=>if z.1=x then z.2 else v) x
noncomputable def Bu (q:List (Int×Int))(x v:Int):Int:=q.foldl (λv z=>if z.1=x then z.2 else v) v
noncomputable def JY (ps:List (List Int))(src:List Int):List (Int×Int):=(ps.zip src).flatMap λz=>z.1.zip (ps.getD z.2.toNat [])
noncomputable def mv (m:Nat)(q:List (Int×Int)):List Int:=(bz m).map (dv q)
noncomputable def cQ (o:List Int)(q:List (Int×Int)):List Int:=q.foldl (λo z=>o.set z.1.toNat z.2) o
theorem lW:∀(q:List (Int×Int)) (o:List Int),(cQ o q).length=o.length
 | [],_=>rfl
 |z::q,o=>by
  show (cQ (o.set z.1.toNat z.2) q).length=_;rw[lW q,aaF]
theorem vR:∀(q:List (Int×Int)) (o:List Int) (i:Nat) (v:Int),(∀z∈q,0<=z.1)->o[i]? = some v->(cQ o q)[i]? = some (Bu q i v)
 | [],_,_,_,_,h=>h
 |z::q,o,i,v,hz,h=>by
  have hi:i<o.length:=(ZN.mp h).1;have h0:=hz z ZA;show (cQ (o.set z.1.toNat z.2) q)[i]? = some (Bu q i (if z.1=i then z.2 else v));refine vR q _ i _ (λy hy=>hz y (ZC _ hy)) ?_;by_cases c:z.1=i
  ·rw[hV c,c];show (o.set ((i:Int).toNat) z.2)[i]? = some z.2;rw[aau,abk hi]
  ·rw[hU c,Z_ (by lia)];exact h
def pj (h:i<m):(bz m)[i]? = some (i:Int):=by
 unfold bz;rw[Z2,acg h];rfl
theorem Gs (m:Nat)(q:List (Int×Int))(h:∀z∈q,0<=z.1):cQ (bz m) q=mv m q:=by
 apply ab5;intro i;by_cases c:i<m
 ·rw[vR q (bz m) i i h (pj c)];unfold mv;rw[Z2,pj c];rfl
 ·rw[aaB.mpr (by rw[lW,cG];lia),aaB.mpr (by unfold mv;rw[Zz,cG];lia)]
def vS (o:List Int)(q r:List (Int×Int)):cQ o (q++r)=cQ (cQ o q) r:=by
 unfold cQ;rw[List.foldl_append]
def Q0 {a b:U}:dR 2 (aM (bL i) (aM (bL j) dQ)) (.tup [a,b]) ρ=.ok ((ρ.set i (some a)).set j (some b)):=nr rfl
noncomputable def S2 (us:List U)(ρ:Ev):R (List U×Ev):=match us with
 | [u,w]=>match FX u,FX w with
  |some us,some ws=>.ok (aba (λa b=>.tup [a,b]) us ws,ρ)
  |_,_=>.stk
 |_=>.stk
def N8 {ga:Ev->R (List U×Ev)}:Cp ga ρ=(ga ρ).bind λx=>S2 x.1 x.2:=nr rfl
def ER {ws:List U}:S2 [.tup us,.tup ws] ρ=.ok (aba (λa b=>.tup [a,b]) us ws,ρ):=nr rfl
theorem Qk {p q:List Int}{u:U}(h:(aba (λa b=>U.tup [a,b]) (p.map U.int) (q.map U.int))[j]? = some u):∃x y,p[j]? = some x/\q[j]? = some y/\u=.tup [.int x,.int y]:=by
 rw[abS,Z2,Z2] at h;cases e1:p[j]? with
 |none=>rw[e1] at h;cases h
 |some x=>
  cases e2:q[j]? with
  |none=>rw[e1,e2] at h;cases h
  |some y=>
   rw[e1,e2] at h;exact⟨x,y,rfl,rfl,(Z0 h).symm⟩
def wV {p q:List Int}{x y:Int}(h1:p[j]? = some x)(h2:q[j]? = some y):(p.zip q).take (j+1)=(p.zip q).take j++[(x,y)]:=by
 have e:(p.zip q)[j]? = some (x,y):=by
  rw[List.zip,abS,h1,h2]
 rw[List.take_succ,e];rfl
def S3 {w:U}{x:Int}(h0:0<=x)(h1:x<us.length):Sg i w (.int x) ρ (some (some (.lst us)))=.nx (ρ.set i (some (.lst (us.set x.toNat w)))):=by
 refine Nw ?_;unfold zK;rw[hV h0,hV h1]
theorem Mh {ps:List (List Int)}{src:List Int}{z:Int×Int}(h:z∈JY ps src):∃p∈ps,z.1∈p:=by
 unfold JY at h;obtain⟨⟨p,s⟩,h1,h2⟩:=ac1.mp h;exact⟨p,(ac6 h1).1,(ac6 h2).1⟩
theorem qu {ps:List (List Int)}{src:List Int}(hm:m<=1000)(T_:∀p∈ps,∀x∈p,0<=x/\x<m)(Wu:∀s∈src,0<=s/\s<ps.length) :
  cZ [.int m,PU ps,.tup (src.map .int)]=.ok (.tup ((mv m (JY ps src)).map .int)):=by
 let T:=λn=>((ps.zip src).take n).flatMap λz=>z.1.zip (ps.getD z.2.toNat [])
 obtain⟨ρ',e1,a,b,c,d,rfl⟩:=jG (us:=aba (λa b=>U.tup [a,b]) (ps.map PT) (src.map U.int)) (sg:=dR 2 (aM (bL 4) (aM (bL 5) dQ)))
  (s:=jx (Cp (af (ag 4) (af (aD bD (ag 1) (ag 5)) ao))) (dR 2 (aM (bL 6) (aM (bL 7) dQ))) (uD 3 (ag 7) (ag 6)))
  (λn ρ=>∃a b c d:Option U,ρ=[some (.int m),some (PU ps),some (.tup (src.map .int)),some (.lst ((cQ (bz m) (T n)).map .int)),a,b,c,d])
  (λi u ρ hu h00=>by
   obtain⟨a,b,c,d,hr⟩:=h00;subst hr;have hz:∃p s,ps[i]? = some p/\src[i]? = some s/\u=.tup [PT p,.int s]:=by
    rw[abS,Z2,Z2] at hu;cases e1:ps[i]? with
    |none=>rw[e1] at hu;cases hu
    |some x=>
     cases e2:src[i]? with
     |none=>rw[e1,e2] at hu;cases hu
     |some y=>
      rw[e1,e2] at hu;exact⟨x,y,rfl,rfl,(Z0 hu).symm⟩
   obtain⟨p,s,hp,hs,rfl⟩:=hz;have rK:=aan hp;have Zq:=Wu s (aan hs);obtain⟨k,rfl⟩:∃k:Nat,s=k:=⟨s.toNat,(by lia)⟩;have hk:k<ps.length:=(by lia)
   have ek:mx (ps.map PT) (k:Int)=some (PT ps[k]):=by
    rw[uK,Z2,Zw hk];rfl
   have gd:ps.getD k []=ps[k]:=by rw[aak,Zw hk];rfl
   have t1:T (i+1)=T i++p.zip ps[k]:=by
    show ((ps.zip src).take (i+1)).flatMap _=_;have e:(ps.zip src)[i]? = some (p,(k:Int)):=by rw[List.zip,abS,hp,hs]
    rw[List.take_succ,e,List.flatMap_append];show _++(p.zip (ps.getD ((k:Int).toNat) [])++[])=_;rw[aau,gd,aad]
   obtain⟨ρ2,e2,c',d',rfl⟩:=jG (us:=aba (λa b=>U.tup [a,b]) (p.map U.int) (ps[k].map U.int)) (sg:=dR 2 (aM (bL 6) (aM (bL 7) dQ))) (s:=uD 3 (ag 7) (ag 6))
    (λj ρ=>∃c d:Option U,ρ=[some (.int m),some (PU ps),some (.tup (src.map .int)),some (.lst ((cQ (cQ (bz m) (T i)) ((p.zip ps[k]).take j)).map .int)),some (PT p),some (.int k),c,d])
    (λj u ρ hu h00=>by
     obtain⟨c,d,hr⟩:=h00;subst hr;obtain⟨x,y,hx,hy,rfl⟩:=Qk hu;have bx:=T_ p rK x (aan hx);refine⟨_,[some (.int m),some (PU ps),some (.tup (src.map .int)),some (.lst ((cQ (cQ (bz m) (T i)) ((p.zip ps[k]).take (j+1))).map .int)),some (PT p),some (.int k),some (.int x),some (.int y)],Q0,.inl ?_,_,_,rfl⟩;have ln:x<(((cQ (cQ (bz m) (T i)) ((p.zip ps[k]).take j)).map U.int).length:Nat):=by rw[Zz,lW,lW,cG];lia
     simp only[Pzz,cb,Nat.reduceAdd,Nat.reduceSub,S3 bx.1 ln];rw[wV hx hy,vS];have es:((cQ (cQ (bz m) (T i)) ((p.zip ps[k]).take j)).map U.int).set x.toNat (.int y)=(cQ (cQ (cQ (bz m) (T i)) ((p.zip ps[k]).take j)) [(x,y)]).map U.int:=by
      rw[←List.map_set];rfl
     rw[es])
    (ρ:=[some (.int m),some (PU ps),some (.tup (src.map .int)),some (.lst ((cQ (bz m) (T i)).map .int)),some (PT p),some (.int k),c,d]) ⟨c,d,rfl⟩
   refine⟨_,_,Q0,.inl ?_,some (PT p),some (.int k),c',d',rfl⟩;have fin:(p.zip ps[k]).take (aba (λa b=>U.tup [a,b]) (p.map U.int) (ps[k].map U.int)).length=p.zip ps[k]:=by
    refine abJ ?_;rw[aci,Zz,Zz,adg];exact ZP _
   rw[fin,←vS,←t1] at e2;simp only[Pzz,cb,Nat.reduceAdd,Nat.reduceSub,PU,ek,N8,PT,ER];simp only[PU,PT] at e2;exact e2)
  (ρ:=[some (.int m),some (PU ps),some (.tup (src.map .int)),some (.lst ((bz m).map .int)),none,none,none,none]) ⟨_,_,_,_,rfl⟩
 have hT:T (aba (λa b=>U.tup [a,b]) (ps.map PT) (src.map U.int)).length=JY ps src:=by
  show ((ps.zip src).take _).flatMap _=_;rw[abJ (by rw[aci,Zz,Zz,adg];exact ZP _)];rfl
 rw[hT,Gs] at e1
 ·simp only[PU] at e1;simp only[Pzz,cb,Nat.reduceAdd,Nat.reduceSub,cZ,mU,PU,pV m (by lia),mM,N8,ER,e1]
 ·intro z hz;obtain⟨p,hp,hx⟩:=Mh hz;exact (T_ p hp _ hx).1
def Vv:gU 6 [.lst [.int 0,.int 1]]=.ok (.lst [.tup [.int 0,.int 1],.tup [.int 1,.int 0]]):=by kernel_rfl
theorem Vw:Ep [.int ((2:Nat):Int)] ρ=.ok (.lst [.int 0,.int 1],ρ):=pV 2 (by lia)
noncomputable def cR (w:Str)(o t f:Int×Int):List Int×List Int:=if w="one" then ([o.1,t.1],[o.2,t.2]) else if w="all" then ([o.1,f.1,f.2],[o.2,t.1,t.2]) else ([o.1,t.1,t.2],[o.2,f.2,f.1])
theorem JZ {w:Str}(hw:zC w):jZ [.str w,eP o,eP t,eP f]=.ok (PU [(cR w o t f).1,(cR w o t f).2]):=by
 rcases hw with rfl|rfl|rfl<;>kernel_rfl
def J0 (u:U):Prop:=∃d,fP u=some d/\cB d<=30
theorem J1 {n:Nat}:∀{us:List U} {ds:List D},fU us=some ds->fJ ds<=n->∀x∈us,∃d,fP x=some d/\cB d<=n
 | [],_,_,_,x,hx=>by cases hx
 |u::us,ds,e,l,x,hx=>by
  unfold fU at e;cases e1:fP u with
  |none=>rw[e1] at e;cases e
  |some d=>
   cases e2:fU us with
   |none=>rw[e1,e2] at e;cases e
   |some ds'=>
    rw[e1,e2] at e;cases e;unfold fJ at l;rcases ZK.mp hx with rfl|z
    ·exact⟨d,e1,(by lia)⟩
    ·exact J1 e2 (by lia) x z
theorem lX (h:J0 (.tup us)):∀x∈us,J0 x:=λx hx=>by
 obtain⟨d,e,l⟩:=h;unfold fP at e;obtain⟨ds,e2,rfl⟩:=aaQ.mp e;unfold cB at l;exact J1 e2 (by lia) x hx
noncomputable def Bv (s:Str)(u:U):Bool:=match u with
 | .str x=>x==s
 |_=>false
theorem wW {u:U}{s:Str}(h:J0 u):jO u (.str s)=.ok (Bv s u):=by
 obtain⟨d,e,l⟩:=h;unfold jO;rw[e,show fP (.str s)=some (.str s) by unfold fP;rfl];dsimp only;rw[hV (by lia)];cases u
 case dct=>unfold fP at e;cases e
 case scr=>unfold fP at e;cases e
 case tup us=>
  unfold fP at e;obtain⟨ds,_,rfl⟩:=aaQ.mp e;unfold iu;rfl
 case lst us=>
  unfold fP at e;obtain⟨ds,_,rfl⟩:=aaQ.mp e;unfold iu;rfl
 all_goals (unfold fP at e;cases e;unfold iu;rfl)
noncomputable def C4 (u:U):Bool:=Bv "all" u||(Bv "any" u||Bv "one" u)
theorem Vx {u:U}(h:J0 u):F5 id u (.tup [.str "all",.str "any",.str "one"])=.ok (.bl (C4 u))/\F5 id u (.lst [.str "all",.str "any",.str "one"])=.ok (.bl (C4 u)):=by
 obtain⟨d,e,l⟩:=h;have hs:fU [.str "all",.str "any",.str "one"]=some [.str "all",.str "any",.str "one"]:=by simp[fU,fP]
 have hd:∀s:Str,iu (.str s) d=Bv s u:=by
  intro s;cases u
  case dct=>unfold fP at e;cases e
  case scr=>unfold fP at e;cases e
  case tup us=>
   unfold fP at e;obtain⟨ds,_,rfl⟩:=aaQ.mp e;unfold iu;rfl
  case lst us=>
   unfold fP at e;obtain⟨ds,_,rfl⟩:=aaQ.mp e;unfold iu;rfl
  case str x=>
   unfold fP at e;cases e;unfold iu Bv;exact Bool.beq_comm
  all_goals (unfold fP at e;cases e;unfold iu;rfl)
 have h3:([D.str "all",.str "any",.str "one"].all λd=>decide (cB d<=30))=true:=by simp[cB]
 have key:[D.str "all",.str "any",.str "one"].any (λx=>iu x d)=C4 u:=by
  simp only[List.any_cons,List.any_nil,hd,Bool.or_false];rfl
 constructor
 ·unfold F5 vj;simp only[aaV,e,hs];rw[hV h3,key];rfl
 ·unfold F5 vj;simp only[aaV,e,hs];rw[hV h3,key];rfl
noncomputable def kd:U->Option (List Int×List U)
 | .tup [w,a]=>if Bv "bit" w=true then (match a with|.int n=>some ([n],[])|_=>none) else if Bv "not" w=true then some ([],[a]) else none
 | .tup [w,a,b]=>if C4 w=true then some ([],[a,b]) else none
 |_=>none
theorem pq {s:Str}{u:U}(h:Bv s u=true):u=.str s:=by
 cases u<;>first|(cases h;done)|skip
 exact congrArg U.str (eq_of_beq h)
theorem S4 {u:U}(h:C4 u=true):∃w,u=.str w/\zC w:=by
 unfold C4 at h;rw[ab6,ab6] at h;rcases h with h|h|h
 ·exact⟨_,pq h,.inl rfl⟩
 ·exact⟨_,pq h,.inr (.inl rfl)⟩
 ·exact⟨_,pq h,.inr (.inr rfl)⟩
theorem nX {u:U}{p:List Int×List U}(h:kd u=some p):(∃n,u=.tup [.str "bit",.int n]/\p=([n],[]))\/(∃a,u=.tup [.str "not",a]/\p=([],[a]))\/∃w a b,u=.tup [.str w,a,b]/\zC w/\p=([],[a,b]):=by
 unfold kd at h;split at h
 ·rename_i w a;split at h
  ·rename_i hb;split at h
   ·cases h;exact .inl ⟨_,by rw[pq hb],rfl⟩
   ·cases h
  ·split at h
   ·rename_i hn;cases h;exact .inr (.inl ⟨_,by rw[pq hn],rfl⟩)
   ·cases h
 ·split at h
  ·rename_i hg;cases h;obtain⟨w,rfl,hw⟩:=S4 hg;exact .inr (.inr ⟨w,_,_,rfl,hw,rfl⟩)
  ·cases h
 ·cases h
noncomputable def d9 (g:U->Option (List Int)):List U->Option (List Int)
 | []=>some []
 |u::us=>(g u).bind λx=>(d9 g us).map (x++·)
noncomputable def lq:Nat->U->Option (List Int)
 |0,_=>none
 |k+1,u=>(kd u).bind λp=>(d9 (lq k) p.2).map (p.1++·)
theorem ES {g:U->Option (List Int)}:∀us ws:List U,d9 g (us++ws)=(d9 g us).bind λx=>(d9 g ws).map (x++·)
 | [],ws=>by
  show d9 g ws=(some []).bind _;rw[aaV];cases d9 g ws<;>rfl
 |u::us,ws=>by
  show ((g u).bind λx=>(d9 g (us++ws)).map (x++·))=((g u).bind λx=>(d9 g us).map (x++·)).bind λx=>(d9 g ws).map (x++·);rw[ES us ws];cases g u with
  |none=>rfl
  |some x=>
   cases d9 g us with
   |none=>rfl
   |some y=>
    cases d9 g ws with
    |none=>rfl
    |some z=>
     simp only[aaV,Option.map_some];rw[aac]
theorem ET:∀{k:Nat} {u:U} {xs:List Int},lq k u=some xs->∃F:Fm,F.u=u/\F.bits=xs/\F.ok/\F.dep<=k
 |0,u,xs,h=>by cases h
 |k+1,u,xs,h=>by
  unfold lq at h;obtain⟨p,h1,h2⟩:=Option.bind_eq_some_iff.mp h;rcases nX h1 with⟨n,rfl,rfl⟩|⟨a,rfl,rfl⟩|⟨w,a,b,rfl,hw,rfl⟩
  ·cases h2;exact⟨.bit n,rfl,rfl,True.intro,by show 1<=_;lia⟩
  ·unfold d9 d9 at h2;cases e:lq k a with
   |none=>rw[e] at h2;cases h2
   |some x=>
    rw[e] at h2;cases h2;obtain⟨F,rfl,f2,f3,f4⟩:=ET e;exact⟨.neg F,rfl,by show F.bits=_;rw[f2];simp,f3,by show F.dep+1<=_;lia⟩
  ·unfold d9 d9 d9 at h2;cases e:lq k a with
   |none=>rw[e] at h2;cases h2
   |some x=>
    cases e':lq k b with
    |none=>rw[e,e'] at h2;cases h2
    |some y=>
     rw[e,e'] at h2;cases h2;obtain⟨F,rfl,f2,f3,f4⟩:=ET e;obtain⟨G,rfl,g2,g3,g4⟩:=ET e';exact⟨.two w F G,rfl,by show F.bits++G.bits=_;rw[f2,g2];simp,⟨hw,f3,g3⟩,by show max F.dep G.dep+1<=_;lia⟩
theorem C5:∀F:Fm,1<=F.bits.length:=λF=>by have:=lV F true;lia
noncomputable def qv (xs:List Int):Bool:=decide (xs.length<=3)&&decide (kr xs=bz xs.length)
theorem Gu (n:Nat):(bz n).Pairwise (·<=·):=by
 unfold bz;rw[aaO];exact List.pairwise_lt_range.imp λh=>by lia
def qw:kr ns=bz n↔ns.Perm (bz n):=by
 constructor
 ·intro h;rw[←h];exact (fV ns).symm
 ·intro h;exact PySem.W.ksm_same ((fV ns).trans h) (uF ns) (Gu n)
def Gv {xs ys:List Int}(h:xs.Perm ys):qv xs=qv ys:=by
 unfold qv;rw[h.length_eq];congr 1;refine decide_eq_decide.mpr ?_;rw[qw,qw];exact⟨h.symm.trans,h.trans⟩
noncomputable def J2 (o:Option (List Int))(bs:List Int):Bool:=match o with
 |some xs=>qv (bs++xs)
 |none=>false
noncomputable def lh (u:U):List Int:=match kd u with
 |some p=>p.1
 |none=>[]
noncomputable def rB (u:U):List U:=match kd u with
 |some p=>p.2
 |none=>[]
theorem vT {k:Nat}:∀us:List U,(∀u∈us,(kd u).isSome=true)->(d9 (lq (k+1)) us=none/\d9 (lq k) (us.flatMap rB)=none)\/∃xs ys,d9 (lq (k+1)) us=some xs/\d9 (lq k) (us.flatMap rB)=some ys/\xs.Perm (us.flatMap lh++ys)
 | [],_=>.inr ⟨[],[],rfl,rfl,.refl _⟩
 |u::us,h=>by
  have ih:=vT (k:=k) us λv hv=>h v (ZC _ hv);have hu:=h u ZA;obtain⟨p,hp⟩:=ab0.mp hu;have e1:rB u=p.2:=by unfold rB;rw[hp]
  have e2:lh u=p.1:=by unfold lh;rw[hp]
  have e3:lq (k+1) u=(d9 (lq k) p.2).map (p.1++·):=by rw[lq,hp];rfl
  rw[acO,acO,ES,e1,e2,d9,e3];cases c:d9 (lq k) p.2 with
  |none=>exact .inl ⟨rfl,rfl⟩
  |some z=>
   rcases ih with⟨i1,i2⟩|⟨xs,ys,i1,i2,i3⟩
   ·rw[i1,i2];exact .inl ⟨rfl,rfl⟩
   ·rw[i1,i2];refine .inr ⟨p.1++z++xs,z++ys,rfl,rfl,?_⟩;refine (abq (p.1++z) i3).trans ?_;rw[aac,aac];refine abq _ ?_;rw[←aac,←aac];exact List.Perm.append_right _ List.perm_append_comm
theorem EU {k:Nat}:∀{us:List U} {xs:List Int},d9 (lq k) us=some xs->us.length<=xs.length
 | [],_,_=>aaI _
 |u::us,xs,h=>by
  unfold d9 at h;obtain⟨x,h1,h2⟩:=Option.bind_eq_some_iff.mp h;obtain⟨y,h3,rfl⟩:=aaQ.mp h2;have:=EU h3;obtain⟨F,_,f,_⟩:=ET h1;have l:=C5 F;rw[f] at l;rw[ZM,ZJ];lia
theorem Bw {k:Nat}:∀{us:List U} {u:U},u∈us->kd u=none->d9 (lq (k+1)) us=none
 |v::us,u,hu,h=>by
  unfold d9;rcases ZK.mp hu with rfl|hu
  ·have:lq (k+1) u=none:=by rw[lq,h];rfl
   rw[this];rfl
  ·rw[Bw hu h];cases lq (k+1) v<;>rfl
theorem Bx {u:U}(h:J0 u):jX [u]=.ok (.bl (XA u)):=by
 obtain⟨d,e,_⟩:=h;cases u<;>first|(unfold fP at e;cases e;done)|skip
 all_goals simp only[Pzz,cb,Nat.reduceAdd,Nat.reduceSub,jX,oZ]
 all_goals rfl
theorem GK (n:Nat):(((0+1:Nat):Int)==0)=false/\(((1:Nat):Int)==0)=false/\(((2:Nat):Int)==0)=false/\(((3:Nat):Int)==0)=false/\(((1:Nat):Int)==2)=false/\(((2:Nat):Int)==2)=true/\(((3:Nat):Int)==2)=false/\(((1:Nat):Int)==3)=false/\(((2:Nat):Int)==3)=false/\(((3:Nat):Int)==3)=true/\(((n+4:Nat):Int)==0)=false/\(((n+4:Nat):Int)==2)=false/\(((n+4:Nat):Int)==3)=false:=
 ⟨rfl,rfl,rfl,rfl,rfl,rfl,rfl,rfl,rfl,rfl,beq_eq_false_iff_ne.mpr (by lia),beq_eq_false_iff_ne.mpr (by lia),beq_eq_false_iff_ne.mpr (by lia)⟩
def XM:(((0:Nat):Int)==0)=true:=rfl
theorem C6 {u:U}(h:J0 u):bJ [u]=.ok (.bl (kd u).isSome):=by
 cases u
 case dct=>obtain⟨d,e,_⟩:=h;unfold fP at e;cases e
 case scr=>obtain⟨d,e,_⟩:=h;unfold fP at e;cases e
 case tup us=>
  match us,h with
  | [],_=>simp only[Pzz,cb,Nat.reduceAdd,Nat.reduceSub,bJ,cf,cY,id,XM];rfl
  | [w],h=>
   have w3:=lX h w (by simp);have z:kd (.tup [w])=none:=rfl;rw[z];cases b1:Bv "bit" w
   ·cases b2:Bv "not" w
    ·simp only[Pzz,cb,Nat.reduceAdd,Nat.reduceSub,bJ,cf,cY,id,GK 0,wW w3,b1,b2];rfl
    ·simp only[Pzz,cb,Nat.reduceAdd,Nat.reduceSub,bJ,cf,cY,id,GK 0,wW w3,b1,b2];rfl
   ·simp only[Pzz,cb,Nat.reduceAdd,Nat.reduceSub,bJ,cf,cY,id,GK 0,wW w3,b1];rfl
  | [w,a],h=>
   have w3:=lX h w (by simp);have a3:=lX h a (by simp);have ia:=Bx a3;cases b1:Bv "bit" w
   ·cases b2:Bv "not" w
    ·simp only[Pzz,cb,Nat.reduceAdd,Nat.reduceSub,bJ,cf,cY,id,GK 0,wW w3,b1,b2,kd];rfl
    ·simp only[Pzz,cb,Nat.reduceAdd,Nat.reduceSub,bJ,cf,cY,id,GK 0,wW w3,b1,b2,kd];rfl
   ·simp only[Pzz,cb,Nat.reduceAdd,Nat.reduceSub,bJ,cf,cY,id,GK 0,wW w3,b1,ia,kd];cases a<;>rfl
  | [w,a,b],h=>
   have w3:=lX h w (by simp);cases b1:Bv "bit" w
   ·cases b2:Bv "not" w
    ·simp only[Pzz,cb,Nat.reduceAdd,Nat.reduceSub,bJ,cf,cY,id,GK 0,wW w3,b1,b2,kd,(Vx w3).1];cases C4 w<;>rfl
    ·rw[pq b2];kernel_rfl
   ·rw[pq b1];kernel_rfl
  |w::a::b::c::us,h=>
   have w3:=lX h w (by simp);have z:kd (.tup (w::a::b::c::us))=none:=rfl;rw[z];cases b1:Bv "bit" w
   ·cases b2:Bv "not" w
    ·simp only[Pzz,cb,Nat.reduceAdd,Nat.reduceSub,bJ,cf,cY,id,GK us.length,wW w3,b1,b2];rfl
    ·simp only[Pzz,cb,Nat.reduceAdd,Nat.reduceSub,bJ,cf,cY,id,GK us.length,wW w3,b1,b2];rfl
   ·simp only[Pzz,cb,Nat.reduceAdd,Nat.reduceSub,bJ,cf,cY,id,GK us.length,wW w3,b1];rfl
 all_goals (simp only[Pzz,cb,Nat.reduceAdd,Nat.reduceSub,bJ,cf];rfl)
def J3 {ws:List U}:gP (.lst us) [.tup ws]=if us.length+ws.length<=ZH then .ok (.non,.lst (us++ws)) else .stk:=nr rfl
theorem Gw (h:∀u∈us,(kd u).isSome=true)(hl:us.length<=1000):cg [.lst us]=.ok (.lst (us.flatMap rB)):=by
 have S:ZH=16777216:=rfl;have step:∀(ws:List U) (cy:List U) (o:Option U),(∀u∈ws,(kd u).isSome=true)->cy.length+2*ws.length<=10000->∃o',f9 (bL 2) cH ws [some (.lst us),some (.lst cy),o]=.nx [some (.lst us),some (.lst (cy++ws.flatMap rB)),o']:=by
  intro ws
  induction ws with
  |nil=>intro cy o _ _;exact⟨o,by rw[List.flatMap_nil,aad];rfl⟩
  |cons u ws ih=>
   intro cy o hk hz;rw[ZM] at hz;obtain⟨p,hp⟩:=ab0.mp (hk u ZA);have e1:rB u=p.2:=by unfold rB;rw[hp]
   have lp:p.2.length<=2:=by
    rcases nX hp with⟨n,_,rfl⟩|⟨a,_,rfl⟩|⟨w,a,b,_,_,rfl⟩<;>simp
   obtain⟨o',e⟩:=ih (cy++p.2) (some u) (λv hv=>hk v (ZC _ hv)) (by rw[ZJ];lia);refine⟨o',?_⟩;rw[acO,e1,←aac,←e,jS];have z1:cy.length+1<=ZH:=(by lia)
   have z2:cy.length+2<=ZH:=(by lia)
   rcases nX hp with⟨n,rfl,rfl⟩|⟨a,rfl,rfl⟩|⟨w,a,b,rfl,hw,rfl⟩
   ·simp only[Pzz,cb,Nat.reduceAdd,Nat.reduceSub,cH,Bs,aad]
   ·simp only[Pzz,cb,Nat.reduceAdd,Nat.reduceSub,cH,Bs,N6,J3,z1]
   ·rcases hw with rfl|rfl|rfl<;>simp only[Pzz,cb,Nat.reduceAdd,Nat.reduceSub,cH,Bs,N7,J3,z2]
 obtain⟨o',e⟩:=step us [] none h (by show 0+_<=_;lia);rw[ab4] at e;simp only[Pzz,cb,Nat.reduceAdd,Nat.reduceSub,cg,gW,e]
noncomputable def hI:Ev->R (Bool×Ev):=gB (aD FA (dP cD (af (ag 1) ao)) (zqc 0))
noncomputable def bI:Ev->SR:=(aB (HP 2 (RV (λi j=>i+j)) (zqc 1))
 (aB (gJ (DJ (gB (aD FA (ag 2) (zqc 20))) (gB (aD FA (dP cD (af (ag 1) ao)) (zqc 3)))) (aV (gC (.bl false))) a9)
 (aB (gJ (sP (gB (dP B_ (af (eO (cC (ag 1)) [none] (bL 0) fT (dw 1 bJ (af (ag 0) ao))) ao)))) (aV (gC (.bl false))) a9)
 (aB (kW (gM "list" 3 gP (af (eO (cC (ag 1)) [none] (bL 0) (gB (aD (gc id) (zqb 0 0) (gC (.str "bit")))) (zqb 0 1)) ao)))
 (aY 1 (dw 1 cg (af (ag 1) ao)))))))
noncomputable def tI:Ev->SR:=(aV (zY (aD Ly (dP cD (af (ag 3) ao)) (zqc 3)) (aD (gc id) (dP kG (af (ag 3) ao)) (mI (af (dP cD (af (ag 3) ao)) ao)))))
def S5:lP=(aB (aY 1 (bb (af (ag 0) ao)))
 (aB (aY 2 (zqc 0))
 (aB (aY 3 (bb ao))
 (aB (iD hI bI 1000) tI)))):=rfl
noncomputable abbrev eI (t:U)(us:List U)(d:Int)(bs:List Int):Ev:=[some t,some (.lst us),some (.int d),some (.lst (bs.map .int))]
def N9 {t:U}{d:Int}{bs:List Int}:hI (eI t us d bs)=.ok (decide ((0:Int)<((us.length:Nat):Int)),eI t us d bs):=by
 unfold hI;simp only[Pzz,cb,Nat.reduceAdd,Nat.reduceSub,yw]
theorem qx (ns:List Int):jq (ns.map .int)=some ns:=by
 induction ns with
 |nil=>rfl
 |cons n ns ih=>rw[ZR];unfold jq;rw[ih];rfl
def zf (h:ns.length<64):kG [.lst (ns.map .int)]=.ok (.lst ((kr ns).map .int)):=by
 unfold kG;dsimp only;rw[qx];dsimp only;rw[hV h]
theorem N_ {t:U}{d:Int}{bs:List Int}:∃ρ',tI (eI t us d bs)=.rt (.bl (qv bs)) ρ':=by
 refine⟨eI t us d bs,?_⟩;unfold tI qv;by_cases h:bs.length<=3
 ·have c:decide (((bs.length:Nat):Int)<=3)=true:=hG (by lia);simp only[Pzz,cb,Nat.reduceAdd,Nat.reduceSub,Zz,c,zf (show bs.length<64 by lia),pV bs.length (by lia),mM,Ex,id,hG h,Bool.true_and]
 ·have c:decide (((bs.length:Nat):Int)<=3)=false:=hJ (by lia);simp only[Pzz,cb,Nat.reduceAdd,Nat.reduceSub,Zz,c,hJ h,Bool.false_and]
theorem J5 {xs:List U}{c:U->Bool}:B_ [.lst (xs.map λx=>.bl (c x))]=.ok (.bl (xs.all c)):=by
 have e:mG (xs.map λx=>.bl (c x))=some (xs.map c):=by
  induction xs with
  |nil=>rfl
  |cons x xs ih=>rw[ZR];unfold mG;rw[ih];rfl
 unfold B_;dsimp only;rw[e];dsimp only;rw[List.all_map];rfl
def Mi {f:Int->Int->Int}{i j:Int}:RV f (.int i) (.int j)=.ok (.int (f i j)):=nr rfl
def J6 (h:∀u∈us,J0 u):ko (xp [none] (bL 0) fT (dw 1 bJ (af (ag 0) ao)) ρ) us=.ok (us.map λu=>.bl (kd u).isSome):=
 Ew λu hu=>by simp only[Pzz,cb,Nat.reduceAdd,Nat.reduceSub,C6 (h u hu)]
theorem J7 {ρ:Ev}:∀{us:List U},(∀u∈us,(kd u).isSome=true)->ko (xp [none] (bL 0) (gB (aD (gc id) (zqb 0 0) (gC (.str "bit")))) (zqb 0 1) ρ) us=.ok ((us.flatMap lh).map .int)
 | [],_=>rfl
 |u::us,h=>by
  obtain⟨p,hp⟩:=ab0.mp (h u ZA);have e1:lh u=p.1:=by unfold lh;rw[hp]
  rw[acO,e1,aae];unfold ko;rw[J7 λv hv=>h v (ZC _ hv)];rcases nX hp with⟨n,rfl,rfl⟩|⟨a,rfl,rfl⟩|⟨w,a,b,rfl,hw,rfl⟩
  ·simp only[Pzz,cb,Nat.reduceAdd,Nat.reduceSub,iX,Bs,id]
  ·simp only[Pzz,cb,Nat.reduceAdd,Nat.reduceSub,iX,Bs,id]
  ·rcases hw with rfl|rfl|rfl<;>simp only[Pzz,cb,Nat.reduceAdd,Nat.reduceSub,iX,Bs,id]
theorem J8:(us.flatMap lh).length<=us.length:=by
 induction us with
 |nil=>exact ZP _
 |cons u us ih=>
  rw[acO,ZJ,ZM];have:(lh u).length<=1:=by
   unfold lh;cases e:kd u with
   |none=>decide
   |some p=>
    rcases nX e with⟨n,_,rfl⟩|⟨a,_,rfl⟩|⟨w,a,b,_,_,rfl⟩<;>simp
  lia
theorem Mj {u:U}(h:J0 u):∀x∈rB u,J0 x:=λx hx=>by
 unfold rB at hx;cases e:kd u with
 |none=>rw[e] at hx;cases hx
 |some p=>
  rw[e] at hx;rcases nX e with⟨n,rfl,rfl⟩|⟨a,rfl,rfl⟩|⟨w,a,b,rfl,_,rfl⟩
  ·cases hx
  ·exact lX h x (ZC _ hx)
  ·exact lX h x (ZC _ hx)
theorem Ml {t:U}:∀(k cI:Nat) (us:List U) (bs:List Int),k<=20->k<cI->(∀u∈us,J0 u)->bs.length+3*k<=1000->∃ρ',(iD hI bI cI (eI t us (20-k:Int) bs)).seq tI=.rt (.bl (J2 (d9 (lq k) us) bs)) ρ':=by
 intro k;have S:ZH=16777216:=rfl
 induction k with
 |zero=>
  intro cI us bs _ hf g hb;obtain⟨cI,rfl⟩:∃f,cI=f+1:=⟨cI-1,(by lia)⟩;rw[Eo,N9];cases us with
  |nil=>
   obtain⟨ρ',e⟩:=N_ (t:=t) (us:=[]) (d:=20-((0:Nat):Int)) (bs:=bs);refine⟨ρ',?_⟩;show tI _=_;rw[e];show _=SR.rt (.bl (qv (bs++[]))) ρ';rw[aad]
  |cons u us=>
   have c:decide ((0:Int)<(((u::us).length:Nat):Int))=true:=hG (by rw[ZM];lia);have c2:decide ((20:Int)<20-((0:Nat):Int)+1)=true:=hG (by lia);refine⟨[some t,some (.lst (u::us)),some (.int (20-((0:Nat):Int)+1)),some (.lst (bs.map .int))],?_⟩;rw[c];unfold bI;simp only[Pzz,cb,Nat.reduceAdd,Nat.reduceSub,Mi,yw,c2];rfl
 |succ k ih=>
  intro cI us bs hk hf g hb;obtain⟨cI,rfl⟩:∃f,cI=f+1:=⟨cI-1,(by lia)⟩;rw[Eo,N9];by_cases hz:us=[]
  ·subst hz;obtain⟨ρ',e⟩:=N_ (t:=t) (us:=[]) (d:=20-((k+1:Nat):Int)) (bs:=bs);refine⟨ρ',?_⟩;show tI _=_;rw[e];show _=SR.rt (.bl (qv (bs++[]))) ρ';rw[aad]
  have lp:=List.length_pos_iff.mpr hz;have c:decide ((0:Int)<((us.length:Nat):Int))=true:=hG (by lia);have c2:decide ((20:Int)<20-((k+1:Nat):Int)+1)=false:=hJ (by lia);have d2:(20:Int)-((k+1:Nat):Int)+1=20-(k:Int):=(by lia)
  rw[c];by_cases h3:us.length<=3
  ·have c3:decide ((3:Int)<((us.length:Nat):Int))=false:=hJ (by lia);cases ha:us.all λu=>(kd u).isSome with
   |false=>
    obtain⟨u,hu,hn⟩:=List.all_eq_false.mp ha;have hn:kd u=none:=by cases e:kd u with
     |none=>rfl
     |some p=>rw[e] at hn;exact absurd rfl hn
    rw[Bw hu hn];refine⟨[some t,some (.lst us),some (.int (20-((k+1:Nat):Int)+1)),some (.lst (bs.map .int))],?_⟩;unfold bI;simp only[Pzz,cb,Nat.reduceAdd,Nat.reduceSub,Mi,yw,c2,c3,J6 g,J5,ha];rfl
   |true=>
    have hm:=aaT.mp ha;have lb:=J8 (us:=us);obtain⟨ρ',e⟩:=ih cI (us.flatMap rB) (bs++us.flatMap lh) (by lia) (by lia) (λx hx=>by
     obtain⟨u,hu,hx⟩:=ac1.mp hx;exact Mj (g u hu) x hx) (by rw[ZJ];lia)
    refine⟨ρ',?_⟩;have Y7:J2 (d9 (lq (k+1)) us) bs=J2 (d9 (lq k) (us.flatMap rB)) (bs++us.flatMap lh):=by
     rcases vT (k:=k) us hm with⟨i1,i2⟩|⟨xs,ys,i1,i2,i3⟩
     ·rw[i1,i2];rfl
     ·rw[i1,i2];show qv _=qv _;rw[aac];exact Gv (abq _ i3)
    rw[Y7,←e];have z1:(bs.map U.int).length+((us.flatMap lh).map U.int).length<=ZH:=by rw[Zz,Zz];lia
    have c4:decide ((20:Int)<20-(k:Int))=false:=hJ (by lia);have eb:bI (eI t us (20-((k+1:Nat):Int)) bs)=.nx (eI t (us.flatMap rB) (20-(k:Int)) (bs++us.flatMap lh)):=by
     unfold bI eI;rw[aae];simp only[Pzz,cb,Nat.reduceAdd,Nat.reduceSub,Mi,yw,c4,c3,J6 g,J5,ha,J7 hm,N5,z1,Gw hm (by lia),d2]
    show ((bI (eI t us (20-((k+1:Nat):Int)) bs)).turn _).seq tI=_;rw[eb];rfl
  ·have c3:decide ((3:Int)<((us.length:Nat):Int))=true:=hG (by lia);have f:J2 (d9 (lq (k+1)) us) bs=false:=by
    cases e:d9 (lq (k+1)) us with
    |none=>rfl
    |some xs=>
     have:=EU e;show qv _=false;unfold qv;rw[hJ (by rw[ZJ];lia)];rfl
   rw[f];refine⟨[some t,some (.lst us),some (.int (20-((k+1:Nat):Int)+1)),some (.lst (bs.map .int))],?_⟩;unfold bI;simp only[Pzz,cb,Nat.reduceAdd,Nat.reduceSub,Mi,yw,c2,c3]
noncomputable def Ql (u:U):Bool:=J2 (lq 20 u) []
theorem wX {u:U}(h:J0 u):d7 [u]=.ok (.bl (Ql u)):=by
 obtain⟨ρ',e⟩:=Ml (t:=u) 20 1000 [u] [] (by lia) (by lia) (λx hx=>by rw[ZV.mp hx];exact h) (by decide);have e1:d9 (lq 20) [u]=lq 20 u:=by
  unfold d9 d9;cases lq 20 u with
  |none=>rfl
  |some x=>show some (x++[])=_;rw[aad]
 rw[e1] at e;rw[d7,S5];have e:(iD hI bI 1000 [some u,some (.lst [u]),some (.int 0),some (.lst [])]).seq tI=.rt (.bl (Ql u)) ρ':=e;simp only[Pzz,cb,Nat.reduceAdd,Nat.reduceSub,e]
def Pr (m:Nat)(p:Int×Int):Prop:=(0<=p.1/\p.1<m)/\0<=p.2/\p.2<m
noncomputable abbrev Vy (m:Nat)(ρ:Int->Int):List U:=(bz m).map λi=>.int (ρ i)
noncomputable abbrev gA (m:Nat)(ρ:Int->Int):U:=.tup (Vy m ρ)
theorem Qm {ρ:Int->Int}{x:Int}(h:0<=x/\x<m):mx (Vy m ρ) x=some (.int (ρ x)):=by
 obtain⟨n,rfl⟩:∃n:Nat,x=n:=⟨x.toNat,(by lia)⟩;rw[uK,Z2,pj (by lia)];rfl
def nN {ρ:Int->Int}{os:List Int}(h:∀x∈os,0<=x/\x<m):bH [gA m ρ,.tup (os.map .int)]=.ok (.tup (os.map λx=>.int (ρ x))):=by
 have e:ko (xp [none,some 0] (bL 0) fT (aD bD (ag 1) (ag 0)) [some (gA m ρ),some (.tup (os.map .int))]) (os.map .int)=.ok (os.map λx=>.int (ρ x)):=
  Bo λx hx=>by simp only[Pzz,cb,Nat.reduceAdd,Nat.reduceSub,Qm (h x hx)]
 simp only[Pzz,cb,Nat.reduceAdd,Nat.reduceSub,bH,mY,e]
def vU (n:Nat):bO .S 10 (c7 n)=aW n:=rfl
def Qn:(ZL "end"==ZL "again")=false/\(ZL "end"==ZL "end")=true/\(ZL "mix"==ZL "again")=false/\(ZL "mix"==ZL "end")=false/\(ZL "mix"==ZL "lay")=false/\(ZL "mix"==ZL "mix")=true/\(ZL "look"==ZL "again")=false/\(ZL "look"==ZL "end")=false/\(ZL "look"==ZL "lay")=false/\(ZL "look"==ZL "mix")=false/\(ZL "look"==ZL "look")=true/\(ZL "mix"==ZL "look")=false:=by decide
theorem Gx {K:Nat}{ρ:Int->Int}{s:U}{b:Int}{tr:List U}(h:Pr m p):aW (K+1) [.tup [.str "end",eP p],gA m ρ,s,.int b,.tup tr]=.ok (.lst [.tup [.tup tr,eP (ρ p.1,ρ p.2),.int b]]):=by
 have e:bH [gA m ρ,.tup [.int p.1,.int p.2]]=.ok (eP (ρ p.1,ρ p.2)):=nN (os:=[p.1,p.2]) (λx hx=>by
  simp only[ZK,aaM,or_false] at hx;rcases hx with rfl|rfl
  ·exact h.1
  ·exact h.2)
 rw[aW,c7,vU];show (bO .S 10 _ [.tup [.str "end",.tup [.int p.1,.int p.2]],_,_,_,_])=_;simp only[Pzz,cb,Nat.reduceAdd,Nat.reduceSub,iX,Qn,id,e]
noncomputable abbrev rC (x:Int)(a c:U):U:=.tup [.str "look",.tup [.int x],.tup [.tup [.tup [.int 0],a],.tup [.tup [.int 1],c]]]
def S6 (a b:Int):jO (.tup [.int a]) (.tup [.int b])=.ok (a==b):=by
 have:=Jw [a] [b];rw[show [a].map U.int=[.int a] from rfl,show [b].map U.int=[.int b] from rfl] at this;rw[this];congr 1;rw[aaR];simp
theorem C7 {K:Nat}{ρ:Int->Int}{x:Int}{a c s r:U}{b:Int}{tr:List U}(h:0<=x/\x<m)(ht:tr.length<=1000)(hv:ρ x=0\/ρ x=1)(e:aW K [if ρ x=0 then a else c,gA m ρ,s,.int b,.tup (tr++[.tup [.int (ρ x)]])]=.ok r) :
  aW (K+1) [rC x a c,gA m ρ,s,.int b,.tup tr]=.ok r:=by
 have l:bH [gA m ρ,.tup [.int x]]=.ok (.tup [.int (ρ x)]):=nN (os:=[x]) (λy hy=>by rw[ZV.mp hy];exact h);have S:ZH=16777216:=rfl;have z:tr.length+1<=ZH:=(by lia)
 rw[aW,c7,vU];rcases hv with hv|hv
 ·rw[hv,hV rfl] at e;rw[hv] at l;have b0:((0:Int)==0)=true:=rfl;simp only[Pzz,cb,Nat.reduceAdd,Nat.reduceSub,iX,Qn,id,l,jS,Q0,S6,b0,z,e]
 ·rw[hv,hU (by decide)] at e;rw[hv] at l;have b0:((0:Int)==1)=false:=rfl;have b1:((1:Int)==1)=true:=rfl;simp only[Pzz,cb,Nat.reduceAdd,Nat.reduceSub,iX,Qn,id,l,jS,Q0,S6,b0,b1,z,e]
theorem Gy {K:Nat}{o1 o2 l r r1 r2 s:U}{A B tr:List U}{b:Int}(l1:bH [r,o1]=.ok r1)(l2:bH [r,o2]=.ok r2)(e1:aW K [l,r1,s,.int (b*2),.tup tr]=.ok (.lst A))(e2:aW K [l,r2,s,.int (b*2),.tup tr]=.ok (.lst B))(ha:A.length<=1000)(hB:B.length<=1000) :
  aW (K+1) [.tup [.str "mix",.tup [o1,o2],l],r,s,.int b,.tup tr]=.ok (.lst (A++B)):=by
 have S:ZH=16777216:=rfl;have z1:0+A.length<=ZH:=(by lia)
 have z2:A.length+B.length<=ZH:=(by lia)
 have c:oQ b ((2:Nat):Int)=true:=Jv (by decide) (by decide);rw[aW,c7,vU];have e1:aW K [l,r1,s,.int (b*((2:Nat):Int)),.tup tr]=.ok (.lst A):=e1;have e2:aW K [l,r2,s,.int (b*((2:Nat):Int)),.tup tr]=.ok (.lst B):=e2;simp only[Pzz,cb,Nat.reduceAdd,Nat.reduceSub,iX,Qn,id,jS,l1,l2,c,e1,e2,N5,z1,z2]
def vV (n:Nat):bO .S 7 (c9 n)=a_ n:=rfl
def WY:(ZL "mix"==ZL "end")=false/\(ZL "look"==ZL "end")=false/\(ZL "end"==ZL "look")=false:=by decide
theorem Ux:jO (.lst []) (.lst [])=.ok true:=Cy λu hu=>by cases hu
def rD {a b:Int}:jq [.int a,.int b]=some [a,b]:=qx [a,b]
def xT {a:Int}:jq [.int a]=some [a]:=qx [a]
def Mm {a b:Int}(h:a≠b):nP [.tup [.int a,.int b]]=.ok (.int 2):=by
 have e:(oy [a,b]).length=2:=by
  unfold oy;show (ack (ack [] a) b).length=2;have e1:ack [] a=[a]:=rfl;rw[e1];unfold ack;rw[hU (by simpa using h)];rfl
 unfold nP;dsimp only;rw[rD];dsimp only;rw[hV (show [a,b].length<64 by simp),e];rfl
theorem Gz {K:Nat}(h:Pr m p)(hd:p.1≠p.2):a_ (K+1) [.tup [.str "end",eP p],.int m,.bl false]=.ok (.tup [.int 1,.int 1]):=by
 obtain⟨⟨h1,h2⟩,h3,h4⟩:=h;have ls:=Mm hd;have o:∀(w:Option U) (r:Ev),ko (xp [none,some 1] (bL 0) (sP (gB (oP Ly PH (zqc 0) (ag 0) (ag 1)))) (ag 0) (w::some (.int m)::r)) [.int p.1,.int p.2]=.ok []:=λw r=>by
  have g:∀x:Int,0<=x->x<m->xp [none,some 1] (bL 0) (sP (gB (oP Ly PH (zqc 0) (ag 0) (ag 1)))) (ag 0) (w::some (.int m)::r) (.int x)=.ok none:=λx a b=>by
   simp only[Pzz,cb,Nat.reduceAdd,Nat.reduceSub,hG a,hG b]
  unfold ko ko ko;rw[g p.1 h1 h2,g p.2 h3 h4];rfl
 have b2:(((2:Nat):Int)==2)=true:=rfl;have n2:not ((2:Int)==((2:Nat):Int))=false:=rfl;have c:decide ((0:Int)<((2:Nat):Int))=true:=rfl;rw[a_,c9,vV];show (bO .S 7 _ [.tup [.str "end",.tup [.int p.1,.int p.2]],_,_])=_;simp only[Pzz,cb,Nat.reduceAdd,Nat.reduceSub,iX,Qn,id,cY,b2,o,Ux,ls,n2,yw,c]
def Oa {i j:Int}:Ur (.tup [.int i,.int j]):=Jx [i,j]
def Vz {i j:Int}:F5 id .non (.lst [.tup [.int i,.int j]])=.ok (.bl false):=by
 have hs:fU [.tup [.int i,.int j]]=some [.tup [.int i,.int j]]:=by simp[fU,fP]
 have hn:fP .non=some .non:=by unfold fP;rfl
 unfold F5 vj;simp only[aaV,hn,hs];rw[hV (by simp[cB,fJ])];simp[iu]
def VA {i j:Int}:F5 id .non (.lst [.tup [.int i,.int j],.tup [.int i,.int j]])=.ok (.bl false):=by
 have hs:fU [.tup [.int i,.int j],.tup [.int i,.int j]]=some [.tup [.int i,.int j],.tup [.int i,.int j]]:=by simp[fU,fP]
 have hn:fP .non=some .non:=by unfold fP;rfl
 unfold F5 vj;simp only[aaV,hn,hs];rw[hV (by simp[cB,fJ])];simp[iu]
theorem VB {i:Int}(h:0<=i/\i<=1000):vh [.lst [.int i,.int i]]=.ok (.int (i+i)):=by
 unfold vh;dsimp only;rw[rD];dsimp only;rw[hV (by simp[vf];lia)];simp
theorem VC {i:Int}(h:0<=i/\i<=1000):vh [.lst [.int i]]=.ok (.int i):=by
 unfold vh;dsimp only;rw[xT];dsimp only;rw[hV (by simp[vf];lia)];simp
def VD {i:Int}:vi [.lst [.int i,.int i]]=.ok (.int i):=by
 unfold vi;dsimp only;rw[rD];dsimp only;simp[wy]
def VE {i:Int}:vi [.lst [.int i]]=.ok (.int i):=by
 unfold vi;dsimp only;rw[xT];dsimp only;simp[wy]
def XN:jU [.lst [.tup [.int 0],.tup [.int 1]]]=.ok (.lst [.tup [.int 0],.tup [.int 1]]):=by kernel_rfl
def XO:jO (.lst [.tup [.int 0],.tup [.int 1]]) (.lst [.tup [.int 0],.tup [.int 1]])=.ok true:=by kernel_rfl
def VF {a:U}{r:List U}:xp [none] (bL 0) fT (zqb 0 0) ρ (.tup (a::r))=.ok (some a):=by simp only[aG,cK,NS,cb,Nat.reduceAdd,Nat.reduceSub]
def VG {a b:U}{r:List U}:xp [none] (bL 0) fT (zqb 0 1) ρ (.tup (a::b::r))=.ok (some b):=by simp only[aG,cK,NS,cb,Nat.reduceAdd,Nat.reduceSub]
def J9 {K:Nat}{m:Int}{c u:U}{x3 x4 x6:Option U}(e:a_ K [u,.int m,.bl false]=.ok z):xp [none,some 1,some 2] (bL 0) fT (dw 3 (a_ K) (af (ag 0) (af (ag 1) (af (ag 2) ao)))) [some c,some (.int m),some (.bl false),x3,x4,x5,x6] u=.ok (some z):=by simp only[Pzz,cb,Nat.reduceAdd,Nat.reduceSub,e]
def C8 {K:Nat}{x i j:Int}{a c:U}(hi:0<=i/\i<=1000)(e1:a_ K [a,.int m,.bl false]=.ok (.tup [.int i,.int j]))(e2:a_ K [c,.int m,.bl false]=.ok (.tup [.int i,.int j])):a_ (K+1) [rC x a c,.int m,.bl false]=.ok (.tup [.int (1+(i+i)),.int (1+j)]):=by
 have n1:not (((1:Nat):Int)==((1:Nat):Int))=false:=rfl;have g:∀(y:Int) (r:Ev),xp [none,some 0] (bL 0) (gB (aD (gc not) (dP cD (af (ag 0) ao)) (dP cD (af (zqb 1 1) ao)))) (ag 0) (some (rC x a c)::r) (.tup [.int y])=.ok none:=λy r=>by
  simp only[Pzz,cb,Nat.reduceAdd,Nat.reduceSub,cY,n1]
 have o:∀r:Ev,ko (xp [none,some 0] (bL 0) (gB (aD (gc not) (dP cD (af (ag 0) ao)) (dP cD (af (zqb 1 1) ao)))) (ag 0) (some (rC x a c)::r)) [.tup [.int 0],.tup [.int 1]]=.ok []:=λr=>by
  unfold ko ko ko;rw[g 0,g 1];rfl
 have en:jO (.lst [.tup [.int i,.int j],.tup [.int i,.int j]]) (.lst [])=.ok false:=Cy λu hu=>by
  simp only[ZK,aaM,or_false,or_self] at hu;rw[hu];exact Oa
 rw[a_,c9,vV];simp only[Pzz,cb,Nat.reduceAdd,Nat.reduceSub,iX,Qn,WY,id,cY,GK 0,Mg VF VF,Mg VG VG,XN,XO,o,Ux,Mg (J9 e1) (J9 e2),en,VA,VB hi,VD]
def J_ (h:ns.length<64):p9 [.tup (ns.map .int)]=.ok (.lst ((kr ns).map .int)):=by
 have e:kG [.tup (ns.map .int)]=.ok (.lst ((kr ns).map .int)):=by
  unfold kG;dsimp only;rw[qx];dsimp only;rw[hV h]
 unfold p9;rw[e]
theorem GA {K:Nat}{i j:Int}{o1 o2:List Int}{l:U}(hm:m<64)(hi:0<=i/\i<=1000)(h1:o1.Perm (bz m))(h2:o2.Perm (bz m))(e:a_ K [l,.int m,.bl false]=.ok (.tup [.int i,.int j])):a_ (K+1) [.tup [.str "mix",.tup [.tup (o1.map .int),.tup (o2.map .int)],l],.int m,.bl false]=.ok (.tup [.int (1+i),.int (1+j)]):=by
 have g:∀(os:List Int) (w:Option U) (r:Ev),os.Perm (bz m)->xp [none,some 1] (bL 0) (gB (aD (gc not) (dP p9 (af (ag 0) ao)) (mI (af (ag 1) ao)))) (ag 0) (w::some (.int m)::r) (.tup (os.map .int))=.ok none:=λos w r h=>by
  have l:=h.length_eq;rw[cG] at l;have d:not (decide (kr os=bz m))=false:=by rw[hG (qw.mpr h)];rfl
  simp only[Pzz,cb,Nat.reduceAdd,Nat.reduceSub,J_ (show os.length<64 by lia),pV m (by lia),mM,Ex,d]
 have o:∀(w:Option U) (r:Ev),ko (xp [none,some 1] (bL 0) (gB (aD (gc not) (dP p9 (af (ag 0) ao)) (mI (af (ag 1) ao)))) (ag 0) (w::some (.int m)::r)) [.tup (o1.map .int),.tup (o2.map .int)]=.ok []:=λw r=>by
  unfold ko ko ko;rw[g o1 w r h1,g o2 w r h2];rfl
 have en:jO (.lst [.tup [.int i,.int j]]) (.lst [])=.ok false:=Cy λu hu=>by
  rw[ZV.mp hu];exact Oa
 have c1:decide ((1:Int)<=((2:Nat):Int))=true:=rfl;have c2:decide (((2:Nat):Int)<=24)=true:=rfl;rw[a_,c9,vV];simp only[Pzz,cb,Nat.reduceAdd,Nat.reduceSub,iX,Qn,WY,id,cY,GK 0,c1,c2,o,Ux,Gq (J9 e),Gq VF,Gq VG,en,Vz,VC hi,VE]
def dj (p q:Int×Int):Prop:=p.1≠q.1/\p.1≠q.2/\p.2≠q.1/\p.2≠q.2
def Bt (ρ:Int->Int)(p:Int×Int):Prop:=(ρ p.1=0\/ρ p.1=1)/\ρ p.2=1 - ρ p.1
noncomputable def zg (w:Str)(o t f:Int×Int):List (Int×Int):=JY [(cR w o t f).1,(cR w o t f).2] [1,0]
noncomputable def Ob (w:Str)(o t f:Int×Int):List (Int×Int):=JY [(cR w o t f).1,(cR w o t f).2] [0,1]
noncomputable def Kz (w:Str)(o t f:Int×Int):Int×Int:=if w="one" then (t.2,t.1) else if w="all" then f else (f.2,f.1)
noncomputable def KA (w:Str)(o t f:Int×Int):Int×Int:=if w="one" then f else if w="all" then t else (t.2,t.1)
structure Gt (o t f:Int×Int):Prop where
 ot:dj o t
 of:dj o f
 tf:dj t f
 o1:o.1≠o.2
 t1:t.1≠t.2
 f1:f.1≠f.2
def XQ:¬(("all":Str)="one")/\¬(("any":Str)="one")/\¬(("any":Str)="all")/\¬(("one":Str)="all")/\¬(("one":Str)="any"):=by decide
structure Sw (σ:Int->Int)(o t f t' f':Int×Int):Prop where
 o1:σ o.1=o.2
 o2:σ o.2=o.1
 t1:σ t.1=t'.1
 t2:σ t.2=t'.2
 f1:σ f.1=f'.1
 f2:σ f.2=f'.2
 no:∀x,x≠o.1->x≠o.2->x≠t.1->x≠t.2->x≠f.1->x≠f.2->σ x=x
theorem EV {w:Str}(hw:zC w)(h:Gt o t f):Sw (dv (zg w o t f)) o t f (Kz w o t f) (KA w o t f):=by
 obtain⟨⟨a1,a2,a3,a4⟩,⟨b1,b2,b3,b4⟩,⟨c1,c2,c3,c4⟩,d1,d2,d3⟩:=h;rcases hw with rfl|rfl|rfl
 ·have e:zg "all" o t f=[(o.1,o.2),(f.1,t.1),(f.2,t.2),(o.2,o.1),(t.1,f.1),(t.2,f.2)]:=by kernel_rfl
  have e1:Kz "all" o t f=f:=by kernel_rfl
  have e2:KA "all" o t f=t:=by kernel_rfl
  rw[e,e1,e2];refine⟨?_,?_,?_,?_,?_,?_,λx k1 k2 k3 k4 k5 k6=>by simp[dv,k1.symm,k2.symm,k3.symm,k4.symm,k5.symm,k6.symm]⟩<;>simp[dv,a1,a2,a3,a4,b1,b2,b3,b4,c1,c2,c3,c4,d1,d2,d3,a1.symm,a2.symm,a3.symm,a4.symm,b1.symm,b2.symm,b3.symm,b4.symm,c1.symm,c2.symm,c3.symm,c4.symm,d1.symm,d2.symm,d3.symm]
 ·have e:zg "any" o t f=[(o.1,o.2),(t.1,f.2),(t.2,f.1),(o.2,o.1),(f.2,t.1),(f.1,t.2)]:=by kernel_rfl
  have e1:Kz "any" o t f=(f.2,f.1):=by kernel_rfl
  have e2:KA "any" o t f=(t.2,t.1):=by kernel_rfl
  rw[e,e1,e2];refine⟨?_,?_,?_,?_,?_,?_,λx k1 k2 k3 k4 k5 k6=>by simp[dv,k1.symm,k2.symm,k3.symm,k4.symm,k5.symm,k6.symm]⟩<;>simp[dv,a1,a2,a3,a4,b1,b2,b3,b4,c1,c2,c3,c4,d1,d2,d3,a1.symm,a2.symm,a3.symm,a4.symm,b1.symm,b2.symm,b3.symm,b4.symm,c1.symm,c2.symm,c3.symm,c4.symm,d1.symm,d2.symm,d3.symm]
 ·have e:zg "one" o t f=[(o.1,o.2),(t.1,t.2),(o.2,o.1),(t.2,t.1)]:=by kernel_rfl
  have e1:Kz "one" o t f=(t.2,t.1):=by kernel_rfl
  have e2:KA "one" o t f=f:=by kernel_rfl
  rw[e,e1,e2];refine⟨?_,?_,?_,?_,?_,?_,λx k1 k2 k3 k4 k5 k6=>by simp[dv,k1.symm,k2.symm,k3.symm,k4.symm,k5.symm,k6.symm]⟩<;>simp[dv,a1,a2,a3,a4,b1,b2,b3,b4,c1,c2,c3,c4,d1,d2,d3,a1.symm,a2.symm,a3.symm,a4.symm,b1.symm,b2.symm,b3.symm,b4.symm,c1.symm,c2.symm,c3.symm,c4.symm,d1.symm,d2.symm,d3.symm]
theorem S7 {w:Str}(hw:zC w)(x:Int):dv (Ob w o t f) x=x:=by
 have key:∀(q:List (Int×Int)) (x v:Int),(∀z∈q,z.1=z.2)->(v=x)->q.foldl (λv z=>if z.1=x then z.2 else v) v=x:=by
  intro q
  induction q with
  |nil=>intro x v _ h;exact h
  |cons z q ih=>
   intro x v h hv;refine ih x _ (λy hy=>h y (ZC _ hy)) ?_;have:=h z ZA;show (if z.1=x then z.2 else v)=x;split
   ·lia
   ·exact hv
 refine key _ x x (λz hz=>?_) rfl;unfold Ob JY at hz;obtain⟨⟨p,s⟩,h1,h2⟩:=ac1.mp hz;have hs:(p,s)=((cR w o t f).1,0)\/(p,s)=((cR w o t f).2,1):=by
  have h1:(p,s)∈[((cR w o t f).1,(0:Int)),((cR w o t f).2,1)]:=h1;simpa using h1
 have zz:∀l:List Int,∀z∈l.zip l,z.1=z.2:=by
  intro l
  induction l with
  |nil=>intro z hz;cases hz
  |cons a l ih=>
   intro z hz;rcases ZK.mp (show z∈(a,a)::l.zip l from hz) with rfl|hz
   ·rfl
   ·exact ih z hz
 rcases hs with hs|hs
 ·cases hs;exact zz _ z h2
 ·cases hs;exact zz _ z h2
theorem fg {x:Int}:x∈bz n↔0<=x/\x<n:=by
 unfold bz;constructor
 ·intro h;obtain⟨j,hj,rfl⟩:=aal.mp h;have:=aao.mp hj;lia
 ·intro h;exact aal.mpr ⟨x.toNat,aao.mpr (by lia),(by lia)⟩
theorem lY (n:Nat):(bz n).Nodup:=by
 unfold bz aeQ;rw[aaO];exact List.pairwise_lt_range.imp λh=>by lia
theorem Ka {w:Str}(hw:zC w)(h:Gt o t f)(ho:Pr m o)(ht:Pr m t)(hf:Pr m f)(x:Int):dv (zg w o t f) (dv (zg w o t f) x)=x/\(0<=x/\x<m->0<=dv (zg w o t f) x/\dv (zg w o t f) x<m):=by
 have S:=EV hw h;obtain⟨⟨o1,o2⟩,o3,o4⟩:=ho;obtain⟨⟨t1,t2⟩,t3,t4⟩:=ht;obtain⟨⟨f1,f2⟩,f3,f4⟩:=hf;have E:(Kz w o t f=(t.2,t.1)/\KA w o t f=f)\/(Kz w o t f=f/\KA w o t f=t)\/(Kz w o t f=(f.2,f.1)/\KA w o t f=(t.2,t.1)):=by
  rcases hw with rfl|rfl|rfl
  ·exact .inr (.inl ⟨by kernel_rfl,by kernel_rfl⟩)
  ·exact .inr (.inr ⟨by kernel_rfl,by kernel_rfl⟩)
  ·exact .inl ⟨by kernel_rfl,by kernel_rfl⟩
 obtain⟨s1,s2,s3,s4,s5,s6,s7⟩:=S;generalize dv (zg w o t f)=σ at *;by_cases c1:x=o.1
 ·subst c1;rw[s1,s2];exact⟨rfl,λ_=>⟨o3,o4⟩⟩
 by_cases c2:x=o.2
 ·subst c2;rw[s2,s1];exact⟨rfl,λ_=>⟨o1,o2⟩⟩
 by_cases c3:x=t.1
 ·subst c3;rw[s3];rcases E with⟨E,E'⟩|⟨E,E'⟩|⟨E,E'⟩<;>rw[E] at s3 s4 ⊢<;>rw[E'] at s5 s6<;>(try dsimp only at *)<;>exact⟨by first|exact s4|exact s5|exact s6,λ_=>⟨by assumption,by assumption⟩⟩
 by_cases c4:x=t.2
 ·subst c4;rw[s4];rcases E with⟨E,E'⟩|⟨E,E'⟩|⟨E,E'⟩<;>rw[E] at s3 s4 ⊢<;>rw[E'] at s5 s6<;>(try dsimp only at *)<;>exact⟨by first|exact s3|exact s5|exact s6,λ_=>⟨by assumption,by assumption⟩⟩
 by_cases c5:x=f.1
 ·subst c5;rw[s5];rcases E with⟨E,E'⟩|⟨E,E'⟩|⟨E,E'⟩<;>rw[E] at s3 s4<;>rw[E'] at s5 s6 ⊢<;>(try dsimp only at *)<;>exact⟨by first|exact s3|exact s4|exact s5,λ_=>⟨by assumption,by assumption⟩⟩
 by_cases c6:x=f.2
 ·subst c6;rw[s6];rcases E with⟨E,E'⟩|⟨E,E'⟩|⟨E,E'⟩<;>rw[E] at s3 s4<;>rw[E'] at s5 s6 ⊢<;>(try dsimp only at *)<;>exact⟨by first|exact s3|exact s4|exact s6,λ_=>⟨by assumption,by assumption⟩⟩
 ·rw[s7 x c1 c2 c3 c4 c5 c6,s7 x c1 c2 c3 c4 c5 c6];exact⟨rfl,λh=>h⟩
theorem Mn {w:Str}(hw:zC w)(h:Gt o t f)(ho:Pr m o)(ht:Pr m t)(hf:Pr m f):(mv m (zg w o t f)).Perm (bz m):=by
 have I:=Ka hw h ho ht hf;unfold mv;refine (aef ?_ (lY m)).mpr λx=>⟨λhx=>?_,λhx=>?_⟩
 ·exact List.Pairwise.map _ (λa b ab e=>ab (by rw[←(I a).1,e,(I b).1])) (lY m)
 ·obtain⟨y,hy,rfl⟩:=aal.mp hx;exact fg.mpr ((I y).2 (fg.mp hy))
 ·exact aal.mpr ⟨_,fg.mpr ((I x).2 (fg.mp hx)),(I x).1⟩
def Oc {w:Str}(hw:zC w):mv m (Ob w o t f)=bz m:=by
 unfold mv;rw[show dv (Ob w o t f)=id from funext (S7 hw),List.map_id]
noncomputable def bh (w:Str)(t f:Int×Int)(j:Int):Int×Int:=if w="one" then (if j=1 then (t.2,t.1) else t) else if w="all" then (if j=1 then t else f) else if j=1 then (f.2,f.1) else t
noncomputable def fr (o:Int×Int)(j:Int):Int×Int:=if j=1 then (o.2,o.1) else o
def MM:min (0:Int) 1=0/\min (1:Int) 0=0/\max (0:Int) 1=1/\max (1:Int) 0=1:=by decide
theorem Kb {w:Str}{ρ ρ':Int->Int}(hw:zC w)(h:Gt o t f)(bo:Bt ρ o)(bt:Bt ρ t)(v:ρ f.1=0/\ρ f.2=1)(hρ:ρ'=ρ\/ρ'=λx=>ρ (dv (zg w o t f) x)) :
  (ρ' o.1=0\/ρ' o.1=1)/\Bt ρ' (bh w t f (ρ' o.1))/\ρ' (bh w t f (ρ' o.1)).1=EO w (ρ o.1) (ρ t.1)/\ρ' (fr o (ρ' o.1)).1=0/\ρ' (fr o (ρ' o.1)).2=1:=by
 have S:=EV hw h;obtain⟨b1,b2⟩:=bo;obtain⟨b3,b4⟩:=bt;obtain⟨v1,v2⟩:=v;have V:(ρ' o.1=ρ o.1/\ρ' o.2=ρ o.2/\ρ' t.1=ρ t.1/\ρ' t.2=ρ t.2/\ρ' f.1=ρ f.1/\ρ' f.2=ρ f.2)\/(ρ' o.1=ρ o.2/\ρ' o.2=ρ o.1/\ρ' t.1=ρ (Kz w o t f).1/\ρ' t.2=ρ (Kz w o t f).2/\ρ' f.1=ρ (KA w o t f).1/\ρ' f.2=ρ (KA w o t f).2):=by
  rcases hρ with rfl|rfl
  ·exact .inl ⟨rfl,rfl,rfl,rfl,rfl,rfl⟩
  ·refine .inr ⟨?_,?_,?_,?_,?_,?_⟩<;>dsimp only
   ·rw[S.o1]
   ·rw[S.o2]
   ·rw[S.t1]
   ·rw[S.t2]
   ·rw[S.f1]
   ·rw[S.f2]
 unfold Bt bh fr EO;unfold Kz KA at V;rcases hw with rfl|rfl|rfl<;>simp only[XQ,if_false,if_true] at V ⊢<;>rcases b1 with b1|b1<;>rcases b3 with b3|b3<;>rw[b1] at b2<;>rw[b3] at b4<;>rcases V with⟨x1,x2,x3,x4,x5,x6⟩|⟨x1,x2,x3,x4,x5,x6⟩<;>simp[x1,x2,x3,x4,x5,x6,b1,b2,b3,b4,v1,v2,MM]
def Od (n:Nat):bO .S 12 (dU n)=aZ n:=rfl
def Kc:ku "tuple" (eP p) ρ=.ok (.bl true,ρ):=by unfold eP;exact nr rfl
def Kd {a:U}:kF (a::us) (some 1) none=us:=Bp (a::us) 1
theorem Ke {a b:U}:kF (us++[a,b]) none (some (-2))=us:=by
 have l:(us++[a,b]).length=us.length+2:=by simp
 have e:HT.sIx (us++[a,b]).length (us++[a,b]).length (some (-2))=us.length:=by
  rw[l];unfold HT.sIx;dsimp only;rw[hV (by decide)];lia
 unfold kF;rw[HT.sIx_none,e,acv,Nat.sub_zero,List.take_left]
theorem S8 {a b:U}:mx (us++[a,b]) (-2)=some a:=by
 have l:(us++[a,b]).length=us.length+2:=by simp
 have e:zK (us++[a,b]).length (-2)=some us.length:=by
  unfold zK;rw[l,hU (by decide),hV (by lia)];congr 1;lia
 unfold mx;rw[e];show (us++[a,b])[us.length]? = _;rw[aaG (ZP _),Nat.sub_self];rfl
theorem S9 {a b:U}:mx (us++[a,b]) (-1)=some b:=by
 have l:(us++[a,b]).length=us.length+2:=by simp
 have e:zK (us++[a,b]).length (-1)=some (us.length+1):=by
  unfold zK;rw[l,hU (by decide),hV (by lia)];congr 1;lia
 unfold mx;rw[e];show (us++[a,b])[us.length+1]? = _;rw[aaG (by lia),Nat.add_sub_cancel_left];rfl
noncomputable def Uy (k:Nat):Ev->SR:=(aB (aY 10 (dw 4 fL (af (ag 4) (af (ag 7) (af (ag 6) (af (ag 9) ao))))))
 (aB (aY 11 (MY (gB (aD (kl id) (ag 9) (zqc 1))) (dw 1 eA (af (ag 5) ao)) (ag 5)))
 (kW (gM "list" 8 lJ (af (dw 4 (aZ k) (af (ag 0) (af (z9 xr (ag 1) (iy (zqc 1)) i6) (af (aD dO (z9 xr (ag 2) i6 (iy (Lo yh (zqc 2)))) (bb (af (ag 10) ao))) (af (ag 11) ao))))) ao)))))
def VH (k:Nat):dU (k+1)=(aB (gJ (gB (aD (kl id) (dP cD (af (ag 1) ao)) (zqc 0))) (aV (aU (af (gC (.str "end")) (af (zqb 2 0) ao)))) a9)
 (aB (aY 4 (zqb 1 0))
 (aB (gJ (gB (jQ "tuple" (ag 4))) (aV (dw 4 (aZ k) (af (ag 0) (af (z9 xr (ag 1) (iy (zqc 1)) i6) (af (aD dO (ag 2) (bb (af (ag 4) ao))) (af (ag 3) ao)))))) a9)
 (aB (aY 5 (aD bD (ag 2) (Lo yh (zqc 2))))
 (aB (aY 6 (aD bD (ag 2) (Lo yh (zqc 1))))
 (aB (aY 7 (dw 4 jZ (af (ag 4) (af (ag 5) (af (ag 6) (af (ag 3) ao))))))
 (aB (aY 8 (bb ao))
 (aB (jx (cC (aU (af (zqc 0) (af (zqc 1) ao)))) (bL 9) (Uy k))
 (wu 8 (aV (dw 3 cF (af (ag 0) (af (ag 7) (af (ag 8) ao)))))))))))))):=rfl
noncomputable abbrev eG (m:Nat)(w:Str)(rest:List U)(ps:List (Int×Int))(o t f:Int×Int)(dn:List U)(a b c:Option U):Ev:=[some (.int m),some (.lst (.str w::rest)),some (.lst (ps.map eP++[eP o,eP t])),some (eP f),some (.str w),some (eP o),some (eP t),some (PU [(cR w o t f).1,(cR w o t f).2]),some (.lst dn),a,b,c]
def C9:lJ (.lst us) [z]=if us.length<ZH then .ok (.non,.lst (us++[z])) else .stk:=nr rfl
theorem Qo {w:Str}(hw:zC w)(ho:Pr m o)(ht:Pr m t)(hf:Pr m f):∃x p,(cR w o t f).1=x::p/\(∀y∈(cR w o t f).1,0<=y/\y<(m:Int))/\∀y∈(cR w o t f).2,0<=y/\y<(m:Int):=by
 obtain⟨⟨o1,o2⟩,o3,o4⟩:=ho;obtain⟨⟨t1,t2⟩,t3,t4⟩:=ht;obtain⟨⟨f1,f2⟩,f3,f4⟩:=hf;rcases hw with rfl|rfl|rfl
 ·refine⟨o.1,[f.1,f.2],rfl,λy hy=>?_,λy hy=>?_⟩
  ·have hy:y∈[o.1,f.1,f.2]:=hy;simp only[ZK,aaM,or_false] at hy;lia
  ·have hy:y∈[o.2,t.1,t.2]:=hy;simp only[ZK,aaM,or_false] at hy;lia
 ·refine⟨o.1,[t.1,t.2],rfl,λy hy=>?_,λy hy=>?_⟩
  ·have hy:y∈[o.1,t.1,t.2]:=hy;simp only[ZK,aaM,or_false] at hy;lia
  ·have hy:y∈[o.2,f.2,f.1]:=hy;simp only[ZK,aaM,or_false] at hy;lia
 ·refine⟨o.1,[t.1],rfl,λy hy=>?_,λy hy=>?_⟩
  ·have hy:y∈[o.1,t.1]:=hy;simp only[ZK,aaM,or_false] at hy;lia
  ·have hy:y∈[o.2,t.2]:=hy;simp only[ZK,aaM,or_false] at hy;lia
theorem Mo {s:Ev->SR}{ρ2:Ev}{u v:U}(h1:s (ρ.set i (some u))=.nx ρ1)(h2:s (ρ1.set i (some v))=.nx ρ2):f9 (bL i) s [u,v] ρ=.nx ρ2:=by
 show (match s (ρ.set i (some u)) with
   | .nx ρ2=>f9 (bL i) s [v] ρ2
   | .ct ρ2=>f9 (bL i) s [v] ρ2
   | .bk ρ2=>.nx ρ2
   |r=>r)=_
 rw[h1];show (match s (ρ1.set i (some v)) with
   | .nx ρ2=>f9 (bL i) s [] ρ2
   | .ct ρ2=>f9 (bL i) s [] ρ2
   | .bk ρ2=>.nx ρ2
   |r=>r)=_
 rw[h2];rfl
noncomputable def Uz (i:Nat):SR->SR
 | .nx ρ'=>.nx (ρ'.set i none)
 | .bk ρ'=>.bk (ρ'.set i none)
 | .ct ρ'=>.ct (ρ'.set i none)
 | .rt u ρ'=>.rt u (ρ'.set i none)
 |r=>r
theorem Oe {g:Ev->SR}:wu i g ρ=Uz i (g ρ):=nr (by unfold wu Uz;cases g ρ<;>rfl)
theorem S_ {w:Str}(hw:zC w){j:Int}(hj:j=0\/j=1):fL [.str w,PU [(cR w o t f).1,(cR w o t f).2],eP t,.int j]=.ok (eP (bh w t f j)):=by
 rcases hj with rfl|rfl<;>rcases hw with rfl|rfl|rfl<;>kernel_rfl
theorem EW {w:Str}{ps:List (Int×Int)}{dn:List U}{b c:Option U}(hw:zC w)(hl:ps.length<=1000)(hd:dn.length<=5){j:Int}(hj:j=0\/j=1)(e:aZ k [.int m,.lst rest,.lst ((ps++[bh w t f j]).map eP),eP (fr o j)]=.ok z) :
  Uy k (eG m w rest ps o t f dn (some (.int j)) b c)=.nx (eG m w rest ps o t f (dn++[z]) (some (.int j)) (some (eP (bh w t f j))) (some (eP (fr o j)))):=by
 have e1:=S_ (o:=o) (t:=t) (f:=f) hw hj;have S:ZH=16777216:=rfl;have z1:(ps.map eP).length+1<=ZH:=by rw[Zz];lia
 have z2:dn.length<ZH:=(by lia)
 rw[aae] at e;have e:aZ k [.int m,.lst rest,.lst (ps.map eP++[eP (bh w t f j)]),eP (fr o j)]=.ok z:=e;rcases hj with rfl|rfl
 ·rw[show fr o 0=o from rfl] at e ⊢;have b0:((0:Int)==1)=false:=rfl;unfold Uy;simp only[Pzz,cb,Nat.reduceAdd,Nat.reduceSub,id,e1,b0,Kd,Ke,z1,e,C9,z2]
 ·rw[show fr o 1=(o.2,o.1) from rfl] at e ⊢;have b0:((1:Int)==1)=true:=rfl;unfold Uy;simp only[Pzz,cb,Nat.reduceAdd,Nat.reduceSub,id,e1,b0,xS,Kd,Ke,z1,e,C9,z2]
noncomputable abbrev Qp (m:Nat)(w:Str)(o t f:Int×Int)(a c:U):U:=.tup [.str "mix",.tup [.tup ((mv m (Ob w o t f)).map .int),.tup ((mv m (zg w o t f)).map .int)],rC o.1 a c]
theorem Mp {w:Str}{a b:U}(hm:m<=1000)(hw:zC w)(ho:Pr m o)(ht:Pr m t)(hf:Pr m f):cF [.int m,PU [(cR w o t f).1,(cR w o t f).2],.lst [a,b]]=.ok (Qp m w o t f a b):=by
 obtain⟨x,p',hx,hp,hq⟩:=Qo hw ho ht hf;have Y8:x=o.1:=by
  have:(cR w o t f).1.head? = some o.1:=by rcases hw with rfl|rfl|rfl<;>kernel_rfl
  rw[hx] at this;exact Z0 this
 unfold Qp Ob zg;generalize (cR w o t f).1=p at *;generalize (cR w o t f).2=q at *;have T_:∀y∈[p,q],∀x∈y,0<=x/\x<m:=λy hy=>by
  rcases ZK.mp hy with rfl|hy
  ·exact hp
  ·rw[ZV.mp hy];exact hq
 have e1:=qu (m:=m) (ps:=[p,q]) (src:=[0,1]) hm T_ (λs hs=>by simp at hs;rcases hs with rfl|rfl<;>simp);have e2:=qu (m:=m) (ps:=[p,q]) (src:=[1,0]) hm T_ (λs hs=>by simp at hs;rcases hs with rfl|rfl<;>simp);have e1:cZ [.int m,PU [p,q],.tup [.int 0,.int 1]]=_:=e1;have e2:cZ [.int m,PU [p,q],.tup [.int 1,.int 0]]=_:=e2;have l1:∀{u z:U},cZ [.int m,PU [p,q],u]=.ok z->xp [none,some 0,some 1] (bL 0) fT (dw 3 cZ (af (ag 1) (af (ag 2) (af (ag 0) ao)))) [some (.int m),some (PU [p,q])] u=.ok (some z):=λe=>by
  simp only[Pzz,cb,Nat.reduceAdd,Nat.reduceSub,e]
 have l2:=Mg (l1 e1) (l1 e2);have pu:PU [p,q]=.tup [PT p,PT q]:=rfl;have e3:jY [.int m,PU [p,q]]=.ok (.tup [.tup ((mv m (JY [p,q] [0,1])).map .int),.tup ((mv m (JY [p,q] [1,0])).map .int)]):=by
  rw[pu] at l2 ⊢;have g:decide ((4:Int)<((2:Nat):Int))=false:=by decide
  simp only[Pzz,cb,Nat.reduceAdd,Nat.reduceSub,jY,o7,g,Vw,Vv,l2]
 subst hx Y8;have pu:PU [o.1::p',q]=.tup [.tup (.int o.1::p'.map .int),.tup (q.map .int)]:=rfl;rw[pu] at e3 ⊢;simp only[Pzz,cb,Nat.reduceAdd,Nat.reduceSub,cF,iJ,e3]
theorem Mq {w:Str}{ps:List (Int×Int)}{z0 z1:U}(hm:m<=1000)(hw:zC w)(hl:ps.length<=1000)(ho:Pr m o)(ht:Pr m t)(hf:Pr m f)(e0:aZ k [.int m,.lst rest,.lst ((ps++[bh w t f 0]).map eP),eP (fr o 0)]=.ok z0)(e1:aZ k [.int m,.lst rest,.lst ((ps++[bh w t f 1]).map eP),eP (fr o 1)]=.ok z1) :
  aZ (k+1) [.int m,.lst (.str w::rest),.lst ((ps++[o,t]).map eP),eP f]=.ok (Qp m w o t f z0 z1):=by
 have t0:=EW (dn:=[]) (b:=none) (c:=none) hw hl (by simp) (.inl rfl) e0;have t1:=EW (dn:=[]++[z0]) (b:=some (eP (bh w t f 0))) (c:=some (eP (fr o 0))) hw hl (by simp) (.inr rfl) e1;have ef:=Mo (ρ:=eG m w rest ps o t f [] none none none) (i:=9) (u:=.int 0) (v:=.int 1) t0 t1;have es:=Mp (a:=z0) (b:=z1) hm hw ho ht hf;rw[aae];show aZ (k+1) [.int m,.lst (.str w::rest),.lst (ps.map eP++[eP o,eP t]),eP f]=_;have b:(((rest.length+1:Nat):Int)==0)=false:=beq_eq_false_iff_ne.mpr (by lia);rw[aZ,VH];simp only[Pzz,cb,Nat.reduceAdd,Nat.reduceSub,id,b,in_str,S8,S9,JZ hw];unfold eG at ef;rw[ef];simp only[Pzz,cb,Nat.reduceAdd,Nat.reduceSub,Oe,Uz,es]
def Qq:aZ (k+1) [.int m,.lst [],.lst ([p].map eP),eP f]=.ok (.tup [.str "end",eP p]):=by
 have b:(((0:Nat):Int)==0)=true:=rfl;rw[aZ,dU,Od];simp only[Pzz,cb,Nat.reduceAdd,Nat.reduceSub,id,b]
theorem Qr {ps:List (Int×Int)}(hl:ps.length<=1000)(e:aZ k [.int m,.lst rest,.lst ((ps++[p]).map eP),eP f]=.ok z):aZ (k+1) [.int m,.lst (eP p::rest),.lst (ps.map eP),eP f]=.ok z:=by
 have S:ZH=16777216:=rfl;rw[aae] at e;have e:aZ k [.int m,.lst rest,.lst (ps.map eP++[eP p]),eP f]=.ok z:=e;have b:(((rest.length+1:Nat):Int)==0)=false:=beq_eq_false_iff_ne.mpr (by lia);have z1:(ps.map eP).length+1<=ZH:=by rw[Zz];lia
 rw[aZ,dU,Od];simp only[Pzz,cb,Nat.reduceAdd,Nat.reduceSub,id,b,Kd,Kc,z1,e]
inductive Tr:Nat->List (List Int)->Prop
 |z:Tr 0 [[]]
 |s {g:Nat} {L1 L2:List (List Int)} {a:Int} (ha:a=0\/a=1) (h1:Tr g L1) (h2:Tr g L2):Tr (g+1) (L1.map (a::·)++L2.map ((1-a)::·))
theorem Tr.len {L:List (List Int)}(h:Tr g L):L.length=2 ^ g:=by
 induction h with
 |z=>rfl
 |s ha h1 h2 i1 i2=>rw[ZJ,Zz,Zz,i1,i2,abD];lia
noncomputable abbrev CL (t:List Int):List U:=t.map λi=>.tup [.int i]
noncomputable abbrev Mr (tr:List U)(w b:Int)(t:List Int):U:=.tup [.tup (tr++CL t),eP (w,1-w),.int b]
def Ps (m g:Nat)(z:U)(ρ:Int->Int)(w:Int):Prop:=∀(K:Nat) (s:U) (b:Int) (tr:List U),2*g+1<=K->tr.length+g<=1000->∃L,Tr g L/\aW K [z,gA m ρ,s,.int b,.tup tr]=.ok (.lst (L.map (Mr tr w (b*2 ^ g))))
noncomputable def cn:Nat->Int
 |0=>1
 |g+1=>1+(1+(cn g+cn g))
theorem Ta (h:g<=5):0<=cn g/\cn g<=100:=by
 have:g=0\/g=1\/g=2\/g=3\/g=4\/g=5:=(by lia)
 rcases this with rfl|rfl|rfl|rfl|rfl|rfl<;>decide
def Sd (m g:Nat)(z:U):Prop:=∀K:Nat,2*g+1<=K->a_ K [z,.int m,.bl false]=.ok (.tup [.int (cn g),.int ((2*g+1:Nat):Int)])
def Dj (ps:List (Int×Int)):Prop:=ps.Pairwise dj/\∀p∈ps,p.1≠p.2
def jC {q:Int×Int}(h:dj p q):dj q p:=⟨h.1.symm,h.2.2.1.symm,h.2.1.symm,h.2.2.2.symm⟩
def Dj.perm {ps qs:List (Int×Int)}(h:Dj ps)(e:ps.Perm qs):Dj qs:=⟨(e.pairwise_iff λh=>jC h).mp h.1,λp hp=>h.2 p (e.mem_iff.mpr hp)⟩
def nu {q:Int×Int}(h:dj p q):dj (p.2,p.1) q:=⟨h.2.2.1,h.2.2.2,h.1,h.2.1⟩
noncomputable abbrev Tb:=(Int->Int)->List Int->Int
def Of (m k g:Nat)(rest:List U)(lf:List (Int×Int))(ev:Tb)(ps:List (Int×Int)):Prop:=
 ∀f,Pr m f->Dj (f::(ps++lf))->(∀p∈ps++lf,Pr m p)->ps.length<=100->∃z,aZ k [.int m,.lst rest,.lst (ps.map eP),eP f]=.ok z/\Sd m g z/\
  ∀ρ,(∀p∈ps++lf,Bt ρ p)->ρ f.1=0->ρ f.2=1->Ps m g z ρ (ev ρ (ps.map λp=>ρ p.1))
theorem Tc {ev:Tb}(KL:∀ρ v,ev ρ [v]=v):Of m (k+1) 0 [] [] ev [p]:=λf hf hd hp _=>by
 have pp:Pr m p:=hp p (by simp);have pd:p.1≠p.2:=hd.2 p (by simp);refine⟨_,Qq,λK hK=>?_,λρ hb _ _ K s b tr hK _=>?_⟩
 ·obtain⟨K,rfl⟩:∃n,K=n+1:=⟨K-1,(by lia)⟩;exact Gz pp pd
 ·obtain⟨K,rfl⟩:∃n,K=n+1:=⟨K-1,(by lia)⟩;refine⟨[[]],.z,?_⟩;rw[Gx pp];have e:ev ρ ([p].map λp=>ρ p.1)=ρ p.1:=KL ρ _;have b2:=(hb p (by simp)).2;rw[e,b2];show _=R.ok (U.lst [.tup [.tup (tr++[]),eP (ρ p.1,1 - ρ p.1),.int (b*2 ^ 0)]]);rw[aad,Int.pow_zero,Int.mul_one]
theorem Og {lf:List (Int×Int)}{ev Kt:Tb}{ps:List (Int×Int)}(hl:ps.length<=50)(he:∀ρ vs,Kt ρ vs=ev ρ (vs++[ρ p.1]))(h:Of m k g rest lf ev (ps++[p])):Of m (k+1) g (eP p::rest) (p::lf) Kt ps:=λf hf hd hp _=>by
 have a:(ps++[p])++lf=ps++p::lf:=by simp
 obtain⟨z,e1,e2,e3⟩:=h f hf (by rw[a];exact hd) (by rw[a];exact hp) (by rw[ZJ];show _+1<=_;lia);refine⟨z,Qr (by lia) e1,e2,λρ hb h0 h1=>?_⟩;have:=e3 ρ (by rw[a];exact hb) h0 h1;rw[aae] at this;rw[he];exact this
def Ms (b:Int)(g:Nat):b*2*2 ^ g=b*2 ^ (g+1):=by rw[Int.pow_succ,Int.mul_assoc,Int.mul_comm 2]
def Qs {ρ:Int->Int}{q:List (Int×Int)}:((mv m q).map λx=>U.int (ρ x))=Vy m λx=>ρ (dv q x):=by
 unfold mv;rw[aaZ];rfl
theorem Qt {w:Str}{lf:List (Int×Int)}{ev Kt:Tb}{ps:List (Int×Int)}(hm:m<64)(hg:g<=4)(hw:zC w)(hl:ps.length<=50)(KL:∀ρ ρ' vs,(∀q∈lf,ρ q.1=ρ' q.1)->ev ρ vs=ev ρ' vs)(he:∀ρ vs a b,Kt ρ (vs++[a,b])=ev ρ (vs++[EO w a b]))(h:∀p,Of m k g rest lf ev (ps++[p])):Of m (k+1) (g+1) (.str w::rest) lf Kt (ps++[o,t]):=λf hf hd hp _=>by
 have P:(f::((ps++[o,t])++lf)).Perm (o::t::f::(ps++lf)):=by
  have a1:(ps++[o,t]).Perm ([o,t]++ps):=List.perm_append_comm;have a2:=(a1.append_right lf).cons f;exact a2.trans (((List.Perm.swap o f _).trans ((List.Perm.swap t f _).cons o)))
 have D:=hd.perm P;obtain⟨d1,d2⟩:=D;rw[aaa,aaa,aaa] at d1;obtain⟨do',dt,df,dr⟩:=d1;have ho:Pr m o:=hp o (by simp);have ht:Pr m t:=hp t (by simp);have G:Gt o t f:=⟨do' t (by simp),do' f (by simp),dt f (by simp),d2 o (by simp),d2 t (by simp),d2 f (by simp)⟩;have UK:∀j,fr o j=o\/fr o j=(o.2,o.1):=λj=>by unfold fr;split;exact .inr rfl;exact .inl rfl
 have UL:∀j,bh w t f j=t\/bh w t f j=(t.2,t.1)\/bh w t f j=f\/bh w t f j=(f.2,f.1):=λj=>by
  unfold bh;split
  ·split;exact .inr (.inl rfl);exact .inl rfl
  ·split
   ·split;exact .inl rfl;exact .inr (.inr (.inl rfl))
   ·split;exact .inr (.inr (.inr rfl));exact .inl rfl
 have sub:∀j,Pr m (fr o j)/\Dj (fr o j::((ps++[bh w t f j])++lf))/\(∀p∈(ps++[bh w t f j])++lf,Pr m p):=λj=>by
  have r1:∀q∈ps++lf,dj (fr o j) q:=λq hq=>by
   have:=do' q (by simp only[ZK];exact .inr (.inr hq))
   rcases UK j with e|e<;>rw[e]
   ·exact this
   ·exact nu this
  have r2:∀q∈ps++lf,dj (bh w t f j) q:=λq hq=>by
   have h1:=dt q (ZC _ hq);have h2:=df q hq;rcases UL j with e|e|e|e<;>rw[e]
   ·exact h1
   ·exact nu h1
   ·exact h2
   ·exact nu h2
  have r3:dj (fr o j) (bh w t f j):=by
   rcases UK j with e|e<;>rw[e]<;>rcases UL j with e|e|e|e<;>rw[e]
   ·exact G.ot
   ·exact jC (nu (jC G.ot))
   ·exact G.of
   ·exact jC (nu (jC G.of))
   ·exact nu G.ot
   ·exact nu (jC (nu (jC G.ot)))
   ·exact nu G.of
   ·exact nu (jC (nu (jC G.of)))
  have n1:(fr o j).1≠(fr o j).2:=by
   rcases UK j with e|e<;>rw[e]
   ·exact G.o1
   ·exact G.o1.symm
  have n2:(bh w t f j).1≠(bh w t f j).2:=by
   rcases UL j with e|e|e|e<;>rw[e]
   ·exact G.t1
   ·exact G.t1.symm
   ·exact G.f1
   ·exact G.f1.symm
  have pb:Pr m (bh w t f j):=by
   rcases UL j with e|e|e|e<;>rw[e]
   ·exact ht
   ·exact⟨ht.2,ht.1⟩
   ·exact hf
   ·exact⟨hf.2,hf.1⟩
  refine⟨?_,?_,λp rK=>?_⟩
  ·rcases UK j with e|e<;>rw[e]
   ·exact ho
   ·exact⟨ho.2,ho.1⟩
  ·have Q:(fr o j::bh w t f j::(ps++lf)).Perm (fr o j::((ps++[bh w t f j])++lf)):=by
    refine List.Perm.cons _ ?_;rw[aac];exact List.perm_middle.symm
   refine Dj.perm ⟨?_,λp rK=>?_⟩ Q
   ·rw[aaa,aaa];exact⟨λq hq=>(ZK.mp hq).elim (λe=>e▸r3) (r1 q),r2,dr⟩
   ·rcases ZK.mp rK with rfl|rK
    ·exact n1
    ·rcases ZK.mp rK with rfl|rK
     ·exact n2
     ·exact d2 p (by simp only[ZK];exact .inr (.inr (.inr rK)))
  ·rcases aab.mp rK with rK|rK
   ·rcases aab.mp rK with rK|rK
    ·exact hp p (ZZ _ (ZZ _ rK))
    ·rw[ZV.mp rK];exact pb
   ·exact hp p (ZO _ rK)
 have lp:∀p,(ps++[p]).length<=100:=λp=>by rw[ZJ];show _+1<=_;lia
 obtain⟨z0,a0,s0,w0⟩:=h (bh w t f 0) (fr o 0) (sub 0).1 (sub 0).2.1 (sub 0).2.2 (lp _);obtain⟨z1,a1,s1,w1⟩:=h (bh w t f 1) (fr o 1) (sub 1).1 (sub 1).2.1 (sub 1).2.2 (lp _);have cl:=Ta (g:=g) (by lia);refine⟨_,Mq (by lia) hw (by lia) ho ht hf a0 a1,λK hK=>?_,λρ hb v0 v1 K s b tr hK Zr=>?_⟩
 ·obtain⟨K,rfl⟩:∃n,K=n+2:=⟨K-2,(by lia)⟩;have l:=C8 (x:=o.1) ⟨cl.1,(by lia)⟩ (s0 K (by lia)) (s1 K (by lia));have e:=GA (o1:=mv m (Ob w o t f)) (o2:=mv m (zg w o t f)) hm ⟨(by lia),(by lia)⟩ (by rw[Oc hw]) (Mn hw G ho ht hf) l;rw[e];show R.ok (U.tup [.int (1+(1+(cn g+cn g))),.int (1+(1+((2*g+1:Nat):Int)))])=R.ok (U.tup [.int (1+(1+(cn g+cn g))),.int ((2*(g+1)+1:Nat):Int)]);rw[show (1:Int)+(1+((2*g+1:Nat):Int))=((2*(g+1)+1:Nat):Int) by lia]
 ·obtain⟨K,rfl⟩:∃n,K=n+2:=⟨K-2,(by lia)⟩;have bo:=hb o (by simp);have bt:=hb t (by simp);have one:∀ρ':Int->Int,(ρ'=ρ\/ρ'=λx=>ρ (dv (zg w o t f) x))->∃L,Tr g L/\aW (K+1) [rC o.1 z0 z1,gA m ρ',s,.int (b*2),.tup tr]=.ok (.lst ((L.map (ρ' o.1::·)).map (Mr tr (Kt ρ ((ps++[o,t]).map λp=>ρ p.1)) (b*2 ^ (g+1))))):=λρ' hρ=>by
   obtain⟨g1,g2,g3,g4,g5⟩:=Kb hw G bo bt ⟨v0,v1⟩ hρ;have same:∀q∈ps++lf,ρ' q.1=ρ q.1/\ρ' q.2=ρ q.2:=λq hq=>by
    rcases hρ with rfl|rfl
    ·exact⟨rfl,rfl⟩
    ·have S:=EV hw G;have q1:=do' q (by simp only[ZK];exact .inr (.inr hq))
     have q2:=dt q (ZC _ hq);have q3:=df q hq;exact⟨congrArg ρ (S.no q.1 q1.1.symm q1.2.2.1.symm q2.1.symm q2.2.2.1.symm q3.1.symm q3.2.2.1.symm),congrArg ρ (S.no q.2 q1.2.1.symm q1.2.2.2.symm q2.2.1.symm q2.2.2.2.symm q3.2.1.symm q3.2.2.2.symm)⟩
   have UM:∀p∈(ps++[bh w t f (ρ' o.1)])++lf,Bt ρ' p:=λp rK=>by
    have old:p∈ps++lf->Bt ρ' p:=λhq=>by
     have e:=same p hq;have:=hb p (by
      rcases aab.mp hq with z|z
      ·exact ZZ _ (ZZ _ z)
      ·exact ZO _ z)
     unfold Bt at this ⊢;rw[e.1,e.2];exact this
    rcases aab.mp rK with rK|rK
    ·rcases aab.mp rK with rK|rK
     ·exact old (ZZ _ rK)
     ·rw[ZV.mp rK];exact g2
    ·exact old (ZO _ rK)
   have val:ev ρ' ((ps++[bh w t f (ρ' o.1)]).map λp=>ρ' p.1)=Kt ρ ((ps++[o,t]).map λp=>ρ p.1):=by
    rw[aae,aae];show ev ρ' (_++[ρ' (bh w t f (ρ' o.1)).1])=Kt ρ (_++[ρ o.1,ρ t.1]);rw[he,g3,KL ρ' ρ _ λq hq=>(same q (ZO _ hq)).1];congr 2;exact abm λq hq=>(same q (ZZ _ hq)).1
   have fin:∃L,Tr g L/\aW K [if ρ' o.1=0 then z0 else z1,gA m ρ',s,.int (b*2),.tup (tr++[.tup [.int (ρ' o.1)]])]=.ok (.lst (L.map (Mr (tr++[.tup [.int (ρ' o.1)]]) (Kt ρ ((ps++[o,t]).map λp=>ρ p.1)) (b*2*2 ^ g)))):=by
    have tl:(tr++[U.tup [.int (ρ' o.1)]]).length+g<=1000:=by rw[ZJ];show _+1+_<=_;lia
    rw[←val];rcases g1 with e|e
    ·rw[hV e];rw[e] at UM g4 g5 tl ⊢;exact w0 ρ' UM g4 g5 K s (b*2) _ (by lia) tl
    ·rw[hU (by rw[e];decide)];rw[e] at UM g4 g5 tl ⊢;exact w1 ρ' UM g4 g5 K s (b*2) _ (by lia) tl
   obtain⟨L,hL,e⟩:=fin;refine⟨L,hL,?_⟩;rw[C7 ⟨ho.1.1,ho.1.2⟩ (by lia) g1 e,Ms,aaZ];congr 2;refine abm λx _=>?_;show U.tup [.tup ((tr++[.tup [.int (ρ' o.1)]])++CL x),_,_]=U.tup [.tup (tr++(.tup [.int (ρ' o.1)]::CL x)),_,_];rw[aac];rfl
  obtain⟨L1,hL1,e1⟩:=one ρ (.inl rfl);obtain⟨L2,hL2,e2⟩:=one (λx=>ρ (dv (zg w o t f) x)) (.inr rfl);have Y9:ρ (dv (zg w o t f) o.1)=1 - ρ o.1:=by rw[(EV hw G).o1];exact bo.2
  rw[Y9] at e2;have I:=Ka hw G ho ht hf;have l1:bH [gA m ρ,.tup ((mv m (Ob w o t f)).map .int)]=.ok (gA m ρ):=by
   rw[Oc hw,nN λx hx=>fg.mp hx]
  have l2:bH [gA m ρ,.tup ((mv m (zg w o t f)).map .int)]=.ok (gA m λx=>ρ (dv (zg w o t f) x)):=by
   rw[nN λx hx=>?_,Qs];obtain⟨y,hy,rfl⟩:=aal.mp hx;exact (I y).2 (fg.mp hy)
  have p2:2 ^ g<=2 ^ 4:=adP (by decide) hg;have n1:(List.map (Mr tr (Kt ρ ((ps++[o,t]).map λp=>ρ p.1)) (b*2 ^ (g+1))) (L1.map (ρ o.1::·))).length<=1000:=by rw[Zz,Zz,hL1.len];lia
  have n2:(List.map (Mr tr (Kt ρ ((ps++[o,t]).map λp=>ρ p.1)) (b*2 ^ (g+1))) (L2.map ((1 - ρ o.1)::·))).length<=1000:=by rw[Zz,Zz,hL2.len];lia
  refine⟨_,.s bo.1 hL1 hL2,?_⟩;rw[Gy l1 l2 e1 e2 n1 n2,←aae]
theorem zh {f:U->R (Option U)}:∀{xs ys zs ws:List U},ko f xs=.ok ys->ko f zs=.ok ws->ko f (xs++zs)=.ok (ys++ws)
 | [],ys,zs,ws,h1,h2=>by
  have:ys=[]:=by unfold ko at h1;cases h1;rfl
  subst this;exact h2
 |x::xs,ys,zs,ws,h1,h2=>by
  rw[acZ];unfold ko at h1 ⊢;cases e:f x with
  |ok o=>
   cases e2:ko f xs with
   |ok vs=>
    rw[e,e2] at h1;cases h1;rw[zh e2 h2];cases o<;>rfl
   |exc c u=>rw[e,e2] at h1;cases h1
   |stk=>rw[e,e2] at h1;cases h1
  |exc c u=>rw[e] at h1;cases h1
  |stk=>rw[e] at h1;cases h1
noncomputable def Oh (ρ:Ev):U->R (Option U):=xp [none] (bL 0) (gB (jQ "tuple" (ag 0))) (ag 0) ρ
def Oi:Oh ρ (eP p)=.ok (some (eP p)):=by
 unfold Oh;simp only[Pzz,cb,Nat.reduceAdd,Nat.reduceSub,Kc]
def Td {w:Str}:Oh ρ (.str w)=.ok none:=by
 unfold Oh;simp only[Pzz,cb,Nat.reduceAdd,Nat.reduceSub,in_str]
def Qu {w:Str}:ko (Oh ρ) [.str w]=.ok []:=by
 unfold ko;rw[Td];rfl
theorem tV {ρ:Ev}:∀(F:Fm) (a:Bool),∃us,ko (Oh ρ) (F.st a)=.ok us/\us.length=F.bits.length
 | .bit n,a=>by
  cases a with
  |true=>exact⟨_,Gq Oi,rfl⟩
  |false=>exact⟨_,Gq Oi,rfl⟩
 | .neg f,a=>tV f (!a)
 | .two w f g,a=>by
  have main:∀a2 v,∃us,ko (Oh ρ) (f.st a++g.st a2++[.str v])=.ok us/\us.length=(f.bits++g.bits).length:=λa2 v=>by
   obtain⟨us,e1,l1⟩:=tV (ρ:=ρ) f a;obtain⟨vs,e2,l2⟩:=tV (ρ:=ρ) g a2;exact⟨_,zh (zh e1 e2) Qu,by rw[aad,ZJ,ZJ,l1,l2]⟩
  unfold Fm.st;split
  ·exact main _ _
  ·exact main _ _
noncomputable def zj:Fm->Bool->List (Int×Int)
 | .bit n,a=>[if a then (2*n+1,2*n) else (2*n,2*n+1)]
 | .neg f,a=>zj f (!a)
 | .two w f g,a=>zj f a++zj g (if w="one" then false else a)
noncomputable def gw (w:Str)(a:Bool):Str:=if w="one" then "one" else if ((w=="all") != a)=true then "all" else "any"
noncomputable def vl:Fm->Bool->(Int->Int)->Int
 | .bit n,a,ρ=>if a then ρ (2*n+1) else ρ (2*n)
 | .neg f,a,ρ=>vl f (!a) ρ
 | .two w f g,a,ρ=>EO (gw w a) (vl f a ρ) (vl g (if w="one" then false else a) ρ)
noncomputable def gn:Fm->Nat
 | .bit _=>0
 | .neg f=>gn f
 | .two _ f g=>gn f+gn g+1
theorem Qv {w:Str}{f g:Fm}{a:Bool}:(Fm.two w f g).st a=f.st a++g.st (if w="one" then false else a)++[.str (gw w a)]:=by
 unfold gw;rw[Fm.st];split
 ·rfl
 ·rfl
theorem Te (w:Str)(a:Bool):zC (gw w a):=by
 unfold gw;split
 ·exact .inr (.inr rfl)
 ·split
  ·exact .inl rfl
  ·exact .inr (.inl rfl)
theorem zk:∀(F:Fm) (a:Bool) (ρ ρ':Int->Int),(∀q∈zj F a,ρ q.1=ρ' q.1)->vl F a ρ=vl F a ρ'
 | .bit n,a,ρ,ρ',h=>by
  unfold zj at h;unfold vl;cases a with
  |true=>exact h (2*n+1,2*n) (by simp)
  |false=>exact h (2*n,2*n+1) (by simp)
 | .neg f,a,ρ,ρ',h=>zk f (!a) ρ ρ' h
 | .two w f g,a,ρ,ρ',h=>by
  unfold vl;rw[zk f a ρ ρ' λq hq=>h q (ZZ _ hq),zk g _ ρ ρ' λq hq=>h q (ZO _ hq)]
noncomputable def C_ (w:Str)(vs:List Int):List Int:=match vs.reverse with
 |b::a::r=>r.reverse++[EO w a b]
 |_=>vs
def EX (w:Str)(vs:List Int)(a b:Int):C_ w (vs++[a,b])=vs++[EO w a b]:=by
 unfold C_;rw[List.reverse_append];show (vs.reverse).reverse++_=_;rw[List.reverse_reverse]
theorem vW:∀F:Fm,gn F+1=F.bits.length
 | .bit n=>rfl
 | .neg f=>vW f
 | .two w f g=>by
  have h1:=vW f;have h2:=vW g;show gn f+gn g+1+1=(f.bits++g.bits).length;rw[ZJ];lia
theorem Mt {m:Nat}(hm:m<64):∀(F:Fm) (a:Bool) (k g:Nat) (rest:List U) (lf:List (Int×Int)) (ev:Tb) (ps:List (Int×Int)),F.ok->ps.length+F.bits.length<=50->g+gn F<=5->(∀ρ ρ' vs,(∀q∈lf,ρ q.1=ρ' q.1)->ev ρ vs=ev ρ' vs)->(∀p,Of m k g rest lf ev (ps++[p]))->Of m (k+(F.st a).length) (g+gn F) (F.st a++rest) (zj F a++lf) (λρ vs=>ev ρ (vs++[vl F a ρ])) ps
 | .bit n,a,k,g,rest,lf,ev,ps,_,hl,hg,KL,h=>by
  have hl:ps.length+1<=50:=hl;cases a with
  |true=>exact Og (p:=(2*n+1,2*n)) (by lia) (λρ vs=>rfl) (h _)
  |false=>exact Og (p:=(2*n,2*n+1)) (by lia) (λρ vs=>rfl) (h _)
 | .neg f,a,k,g,rest,lf,ev,ps,ho,hl,hg,KL,h=>Mt hm f (!a) k g rest lf ev ps ho hl hg KL h
 | .two w f g,a,k,gg,rest,lf,ev,ps,ho,hl,hg,KL,h=>by
  have hl:ps.length+(f.bits++g.bits).length<=50:=hl;have hg:gg+(gn f+gn g+1)<=5:=hg;rw[ZJ] at hl;have Zs:=C5 f;have Zt:=C5 g;rw[Qv];generalize ha2:(if w="one" then false else a)=a2;have h1:∀o,Of m (k+1+(g.st a2).length) (gg+1+gn g) (g.st a2++(.str (gw w a)::rest)) (zj g a2++lf) (λρ vs=>ev ρ (C_ (gw w a) (vs++[vl g a2 ρ]))) (ps++[o]):=λo=>
   Mt hm g a2 (k+1) (gg+1) (.str (gw w a)::rest) lf (λρ vs=>ev ρ (C_ (gw w a) vs)) (ps++[o]) ho.2.2 (by rw[ZJ];show _+1+_<=_;lia) (by lia) (λρ ρ' vs hq=>KL ρ ρ' _ hq) λt=>by
    rw[aac];exact Qt hm (by lia) (Te w a) (by lia) KL (λρ vs x y=>by rw[EX]) h
  have h2:=Mt hm f a (k+1+(g.st a2).length) (gg+1+gn g) (g.st a2++(.str (gw w a)::rest)) (zj g a2++lf) (λρ vs=>ev ρ (C_ (gw w a) (vs++[vl g a2 ρ]))) ps ho.2.1 (by lia) (by lia) (λρ ρ' vs hq=>by
   rw[zk g a2 ρ ρ' λq hh=>hq q (ZZ _ hh)];exact KL ρ ρ' _ λq hh=>hq q (ZO _ hh)) h1
  have e1:k+(f.st a++g.st a2++[U.str (gw w a)]).length=k+1+(g.st a2).length+(f.st a).length:=by
   simp only[ZJ,ZM,aaL];lia
  have e2:f.st a++g.st a2++[U.str (gw w a)]++rest=f.st a++(g.st a2++(U.str (gw w a)::rest)):=by simp
  have e3:gg+gn (.two w f g)=gg+1+gn g+gn f:=by show gg+(gn f+gn g+1)=_;lia
  have e4:zj (.two w f g) a++lf=zj f a++(zj g a2++lf):=by rw[zj,ha2,aac]
  have e5:(λρ vs=>ev ρ (vs++[vl (.two w f g) a ρ]))=λ(ρ:Int->Int) (vs:List Int)=>(λρ vs=>ev ρ (C_ (gw w a) (vs++[vl g a2 ρ]))) ρ (vs++[vl f a ρ]):=by
   funext ρ vs;dsimp only;rw[aac];show _=ev ρ (C_ (gw w a) (vs++[vl f a ρ,vl g a2 ρ]));rw[EX,vl,ha2]
  rw[e1,e2,e3,e4,e5];exact h2
noncomputable def rρ (rs:List Int)(x:Int):Int:=if x % 2=0 then (rs++[0]).getD (x / 2).toNat 0 else 1-(rs++[0]).getD (x / 2).toNat 0
theorem Kg {rs:List Int}{n:Int}(h0:0<=n)(h1:n<rs.length):rρ rs (2*n)=rs.getD n.toNat 0/\rρ rs (2*n+1)=1-rs.getD n.toNat 0:=by
 have a:(2*n) % 2=0:=(by lia)
 have b:¬(2*n+1) % 2=0:=(by lia)
 have c:(2*n) / 2=n:=(by lia)
 have d:(2*n+1) / 2=n:=(by lia)
 unfold rρ;rw[hV a,hU b,c,d,aak,aak,aa1 (by lia)];exact⟨rfl,rfl⟩
theorem Mv (rs:List Int):rρ rs (2*(rs.length:Int))=0/\rρ rs (2*(rs.length:Int)+1)=1:=by
 have a:(2*(rs.length:Int)) % 2=0:=(by lia)
 have b:¬(2*(rs.length:Int)+1) % 2=0:=(by lia)
 have c:(2*(rs.length:Int)) / 2=rs.length:=(by lia)
 have d:(2*(rs.length:Int)+1) / 2=rs.length:=(by lia)
 have e:(rs++[0]).getD ((rs.length:Int)).toNat 0=0:=by
  rw[aau,aak,aaG (ZP _),Nat.sub_self];rfl
 unfold rρ;rw[hV a,hU b,c,d,e];exact⟨rfl,rfl⟩
def Mw:∀x∈[0,1],∀y∈[(0:Int),1],EO "any" (1-x) (1-y)=1-EO "all" x y/\EO "all" (1-x) (1-y)=1-EO "any" x y/\EO "one" (1-x) y=1-EO "one" x y:=by decide
theorem EY {rs:List Int}(h:∀r∈rs,r=0\/r=1):∀(F:Fm) (a:Bool),F.ok->(∀n∈F.bits,0<=n/\n<rs.length)->vl F a (rρ rs)=if a then 1-F.wo rs else F.wo rs
 | .bit n,a,_,hb=>by
  have hn:=hb n (by unfold Fm.bits;exact ZV.mpr rfl);have e:=Kg hn.1 hn.2;unfold vl Fm.wo;rw[e.1,e.2]
 | .neg f,a,ho,hb=>by
  have e:=EY h f (!a) ho hb;unfold vl Fm.wo;rw[e];cases a
  ·rfl
  ·show f.wo rs=1-(1-f.wo rs);lia
 | .two w f g,a,ho,hb=>by
  have b1:∀n∈f.bits,0<=n/\n<rs.length:=λn hn=>hb n (ZZ _ hn);have b2:∀n∈g.bits,0<=n/\n<rs.length:=λn hn=>hb n (ZO _ hn);have h1:f.wo rs∈[(0:Int),1]:=by rcases sI h f b1 with e|e<;>rw[e]<;>decide
  have h2:g.wo rs∈[(0:Int),1]:=by rcases sI h g b2 with e|e<;>rw[e]<;>decide
  have N:=Mw _ h1 _ h2;have e1:=EY h f a ho.2.1 b1;unfold vl Fm.wo;rw[e1,EY h g _ ho.2.2 b2];rcases ho.1 with rfl|rfl|rfl
  ·cases a
   ·rfl
   ·exact N.1
  ·cases a
   ·rfl
   ·exact N.2.1
  ·cases a
   ·rfl
   ·exact N.2.2
theorem qy:∀(F:Fm) (a:Bool),(zj F a).map (λp=>p.1 / 2)=F.bits/\∀p∈zj F a,p.2 / 2=p.1 / 2/\p.1≠p.2/\∃b∈F.bits,(p=(2*b,2*b+1)\/p=(2*b+1,2*b))
 | .bit n,a=>by
  unfold zj Fm.bits;cases a
  ·refine⟨by show [(2*n) / 2]=[n];rw[show (2*n) / 2=n by lia],λp hp=>?_⟩;obtain rfl:=ZV.mp hp;exact⟨by show (2*n+1) / 2=(2*n) / 2;lia,by show 2*n≠2*n+1;lia,n,ZV.mpr rfl,.inl rfl⟩
  ·refine⟨by show [(2*n+1) / 2]=[n];rw[show (2*n+1) / 2=n by lia],λp hp=>?_⟩;obtain rfl:=ZV.mp hp;exact⟨by show (2*n) / 2=(2*n+1) / 2;lia,by show 2*n+1≠2*n;lia,n,ZV.mpr rfl,.inr rfl⟩
 | .neg f,a=>qy f (!a)
 | .two w f g,a=>by
  obtain⟨h1,h2⟩:=qy f a;obtain⟨h3,h4⟩:=qy g (if w="one" then false else a);unfold zj Fm.bits;refine⟨by rw[aae,h1,h3],λp hp=>?_⟩;rcases aab.mp hp with hp|hp
  ·obtain⟨x,y,b,hb,z⟩:=h2 p hp;exact⟨x,y,b,ZZ _ hb,z⟩
  ·obtain⟨x,y,b,hb,z⟩:=h4 p hp;exact⟨x,y,b,ZO _ hb,z⟩
theorem Mx {F:Fm}(ho:F.ok)(hb:Bq n F.bits)(h1:1<=n)(h3:n<=3)(hd:F.dep<=30)(hf:d7 [F.u]=.ok (.bl true)):∃z,kZ [F.u]=.ok z/\Sd (2*n+2) (gn F) z/\∀rs:List Int,rs.length=n->(∀r∈rs,r=0\/r=1)->Ps (2*n+2) (gn F) z (rρ rs) (F.wo rs):=by
 have l:F.bits.length=n:=by have:=hb.length_eq;rwa [cG] at this
 have hm:∀i∈F.bits,0<=i/\i<(n:Int):=λi hi=>fg.mp (hb.mem_iff.mp hi);have e1:=nq F false 30 ho hd (by lia) (λi hi=>by have:=hm i hi;lia);obtain⟨us,e2,l2⟩:=tV (ρ:=[some F.u,some (.lst (F.st false)),none]) F false;have e3:=vQ (n:=(n:Int)) (by lia) (by lia);have ls:=lV F false;have gl:=vW F;have K:=Mt (m:=2*n+2) (by lia) F false (10-(F.st false).length) 0 [] [] (λ_ vs=>vs.headD 0) [] ho (by show 0+_<=_;lia) (by lia) (λ_ _ _ _=>rfl) (λp=>by
  have:10-(F.st false).length=(9-(F.st false).length)+1:=(by lia)
  rw[this];exact Tc λ_ _=>rfl)
 rw[show 10-(F.st false).length+(F.st false).length=10 by lia,aad,aad,acD] at K;obtain⟨b1,b2⟩:=qy F false;have JY:∀p∈zj F false,Pr (2*n+2) p:=λp hp=>by
  obtain⟨_,_,b,hbm,e⟩:=b2 p hp;have:=hm b hbm;unfold Pr;rcases e with rfl|rfl<;>dsimp only<;>lia
 obtain⟨z,a1,a2,a3⟩:=K (2*n,2*n+1) (by unfold Pr;dsimp only;lia) (by
  refine⟨aaa.mpr ⟨λq hq=>?_,?_⟩,λp hp=>?_⟩
  ·have hq:q∈zj F false:=hq;obtain⟨_,_,b,hbm,e⟩:=b2 q hq;have:=hm b hbm;unfold dj;rcases e with rfl|rfl<;>dsimp only<;>lia
  ·show (zj F false).Pairwise dj;have nd:F.bits.Nodup:=hb.nodup_iff.mpr (lY n);rw[←b1] at nd;unfold aeQ at nd;rw[aaO] at nd;refine abv (λ{p q} hp hq MJ=>?_) nd;have p2:=(b2 p hp).1;have q2:=(b2 q hq).1;unfold dj;lia
  ·rcases ZK.mp hp with rfl|hp
   ·dsimp only;lia
   ·exact (b2 p hp).2.1) JY (by simp)
 refine⟨z,?_,a2,λrs hl hr=>?_⟩
 ·unfold Oh at e2;have l3:us.length=n:=(by lia)
  have cm:oQ 2 (n:Int)=true:=by
   have:n=1\/n=2\/n=3:=(by lia)
   rcases this with rfl|rfl|rfl<;>kernel_rfl
  rw[show ((2*n+2:Nat):Int)=2*(n:Int)+2 by lia] at a1;have a1:aZ 10 [.int (2*(n:Int)+2),.lst (F.st false),.lst [],eP (2*(n:Int),2*(n:Int)+1)]=.ok z:=a1;simp only[Pzz,cb,Nat.reduceAdd,Nat.reduceSub,kZ,rg,hf,e1,e2,l3,e3,cm,a1]
 ·have fr:=Mv rs;rw[hl] at fr;have:=a3 (rρ rs) (λp hp=>by
   obtain⟨_,_,b,hbm,e⟩:=b2 p hp;have VT:=hm b hbm;have v:=Kg (rs:=rs) VT.1 (by lia);have Zu:rs.getD b.toNat 0=0\/rs.getD b.toNat 0=1:=by
    have wY:b.toNat<rs.length:=(by lia)
    rw[aak,Zw wY];exact hr _ (acr wY)
   unfold Bt;rcases e with rfl|rfl<;>dsimp only<;>rw[v.1,v.2]<;>lia) fr.1 fr.2
  have e:vl F false (rρ rs)=F.wo rs:=EY hr F false ho (by rw[hl];exact hm);dsimp only at this;rw[show ([]:List (Int×Int)).map (λp=>rρ rs p.1)=[] from rfl,ab4,e] at this;exact this
def zm (n:Nat):bO .O 3 (b6 n)=b9 n:=rfl
theorem lZ:∀(F:Fm) (k:Nat),F.ok->F.dep<=k->F.bits.length<64->∃ys:List Int,b9 k [F.u]=.ok (.lst (ys.map .int))/\ys.length=F.bits.length
 | .bit n,0,_,hd,_=>by unfold Fm.dep at hd;lia
 | .neg f,0,_,hd,_=>by unfold Fm.dep at hd;lia
 | .two w f g,0,_,hd,_=>by unfold Fm.dep at hd;lia
 | .bit n,k+1,_,hd,_=>by
  refine⟨[n],?_,rfl⟩;rw[b9,b6,zm];unfold Fm.u;simp only[Pzz,cb,Nat.reduceAdd,Nat.reduceSub,Bs,id]
 | .neg f,k+1,ho,hd,hl=>by
  have hl:f.bits.length<64:=hl;obtain⟨ys,e,l⟩:=lZ f k ho (by unfold Fm.dep at hd;lia) hl;have S:ZH=16777216:=rfl;refine⟨kr ys,?_,by rw[(fV ys).length_eq];exact l⟩;have z:0+ys.length<=ZH:=(by lia)
  rw[b9,b6,zm];unfold Fm.u;simp only[Pzz,cb,Nat.reduceAdd,Nat.reduceSub,Bs,id,N6,jS,e,Zz,z,zf (show ys.length<64 by lia)]
 | .two w f g,k+1,ho,hd,hl=>by
  have hl:(f.bits++g.bits).length<64:=hl;rw[ZJ] at hl;obtain⟨ys,e,l⟩:=lZ f k ho.2.1 (by unfold Fm.dep at hd;lia) (by lia);obtain⟨ws,e2,l2⟩:=lZ g k ho.2.2 (by unfold Fm.dep at hd;lia) (by lia);have S:ZH=16777216:=rfl;refine⟨kr (ys++ws),?_,by rw[(fV _).length_eq,ZJ];show _=(f.bits++g.bits).length;rw[ZJ];lia⟩;have z:0+ys.length<=ZH:=(by lia)
  have z2:ys.length+ws.length<=ZH:=(by lia)
  have so:=zf (ns:=ys++ws) (by rw[ZJ];lia);rw[aae] at so;rw[b9,b6,zm];unfold Fm.u;rcases ho.1 with rfl|rfl|rfl<;>simp only[Pzz,cb,Nat.reduceAdd,Nat.reduceSub,Bs,id,N7,jS,e,e2,Zz,z,z2,so]
theorem Kh {f:U->R (Option U)}:∀{us:List U},(∀u∈us,f u=.ok none)->ko f us=.ok []
 | [],_=>rfl
 |u::us,h=>by
  unfold ko;rw[h u ZA,Kh λv hv=>h v (ZC _ hv)];rfl
theorem GB {z:Nat}{u:U}(h:(bY 0 z)[i]? = some u):u=.int i:=by
 have hi:i<z:=by
  rcases ac3 i z with y|y
  ·exact y
  ·rw[aaB.mpr (by rw[iF];exact y)] at h;cases h
 rw[mM] at h;unfold bz at h;rw[aaZ,Z2,acg hi] at h;cases h;rfl
noncomputable def Tf:Ev->SR:=(aB (aY 3 (eO (cC (ag 2)) [none,none,none] (dR 3 (aM (bL 0) (aM (bL 1) (aM (bL 2) dQ)))) (qJ (gB (aD (sR not) (ag 1) (gC .non))) (gB (aD (gc id) (z9 xr (ag 1) i6 (iy (zqc 1))) (aU (af (gC (.str "no way")) ao))))) (zqb 1 1)))
 (aB (gJ (gB (aD (gc not) (ag 3) (bb ao))) (aV (aU (af (gC (.str "way")) (af (ag 3) ao)))) a9)
 (aB (aY 4 (aD bD (dw 1 iY (af (ag 2) ao)) (zqc 1)))
 (aB (gJ (gB (aD (sR id) (ag 4) (gC .non))) (aV (aU (af (gC (.str "end")) (af (bb ao) ao)))) a9)
 (aV (aU (af (gC (.str "walked")) (af (ag 4) ao))))))))
def Qw:mZ=aB (aY 2 (dw 5 (aW 10) (af (ag 0) (af (ag 1) (af (ag 1) (af (zqc 1) (af (aU ao) ao))))))) Tf:=rfl
noncomputable def Dd:Nat->List (List Int)
 |0=>[[]]
 |g+1=>(Dd g).map (0::·)++(Dd g).map (1::·)
noncomputable def Qx (g:Nat)(w:Int):U:=.lst ((Dd g).map λt=>.tup [.tup (CL t),.tup [.int 1,.int (2 ^ g)],.lst [.tup [eP (w,1-w),.tup [.int 1,.int 1]]]])
theorem Qy {L:List (List Int)}(h:Tr 0 L):L=[[]]:=by cases h;rfl
theorem Qz {L:List (List Int)}(h:Tr 1 L):L∈[[[0],[1]],[[1],[0]]]:=by
 generalize e:1=g at h;cases h with
 |z=>cases e
 |s ha h1 h2=>
  cases e;rw[Qy h1,Qy h2];rcases ha with rfl|rfl<;>decide
theorem VI {L:List (List Int)}(h:Tr 2 L):L∈[[[0],[1]],[[1],[0]]].flatMap λA=>[[[0],[1]],[[1],[0]]].flatMap λB=>[A.map ((0:Int)::·)++B.map (1::·),A.map (1::·)++B.map (0::·)]:=by
 generalize e:2=g at h;cases h with
 |z=>cases e
 | @s g L1 L2 a ha h1 h2=>
  cases e;refine ac1.mpr ⟨L1,Qz h1,ac1.mpr ⟨L2,Qz h2,?_⟩⟩;rcases ha with rfl|rfl
  ·exact ZA
  ·exact ZC _ ZA
theorem jn {α β:Type}{f g:α->β}{l:List α}(h:l.map f=l.map g):∀x∈l,f x=g x:=by
 induction l with
 |nil=>intro x hx;cases hx
 |cons a l ih=>
  rw[ZR,ZR] at h;injection h with h1 h2
  intro x hx;rcases ZK.mp hx with rfl|hx
  ·exact h1
  ·exact ih h2 x hx
theorem My (hg:g<=2){L:List (List Int)}(h:Tr g L){w:Int}(hw:w=0\/w=1)(z r:U):Ap .S (Tf [some z,some r,some (.lst (L.map (Mr [] w (1*2 ^ g)))),none,none])=.ok (.tup [.str "walked",Qx g w]):=by
 have hw:w∈[(0:Int),1]:=by rcases hw with rfl|rfl<;>decide
 have:g=0\/g=1\/g=2:=(by lia)
 rcases this with rfl|rfl|rfl
 ·rw[Qy h];have A:[(0:Int),1].map (λw=>Ap .S (Tf [some z,some r,some (.lst ([[]].map (Mr [] w (1*2 ^ 0)))),none,none]))=[(0:Int),1].map (λw=>.ok (.tup [.str "walked",Qx 0 w])):=by kernel_rfl
  exact jn A w hw
 ·have A:[[[0],[1]],[[1],[0]]].map (λL=>[(0:Int),1].map (λw=>Ap .S (Tf [some z,some r,some (.lst (L.map (Mr [] w (1*2 ^ 1)))),none,none])))=[[[0],[1]],[[(1:Int)],[0]]].map (λL=>[(0:Int),1].map (λw=>.ok (.tup [.str "walked",Qx 1 w]))):=by kernel_rfl
  exact jn (jn A L (Qz h)) w hw
 ·have A:([[[0],[1]],[[1],[0]]].flatMap λA=>[[[0],[1]],[[1],[0]]].flatMap λB=>[A.map ((0:Int)::·)++B.map (1::·),A.map (1::·)++B.map (0::·)]).map (λL=>[(0:Int),1].map (λw=>Ap .S (Tf [some z,some r,some (.lst (L.map (Mr [] w (1*2 ^ 2)))),none,none])))=([[[0],[1]],[[1],[0]]].flatMap λA=>[[[0],[1]],[[1],[0]]].flatMap λB=>[A.map ((0:Int)::·)++B.map (1::·),A.map (1::·)++B.map (0::·)]).map (λL=>[(0:Int),1].map (λw=>.ok (.tup [.str "walked",Qx 2 w]))):=by kernel_rfl
  exact jn (jn A L (VI h)) w hw
noncomputable def WZ:Ev->SR:=(aB (gJ (gB (aD (gc not) (ag 2) (gC (.str "walked")))) (aV (gC .non)) a9)
 (aV (eO (cC (ag 3)) [none,none,none] (dR 3 (aM (bL 0) (aM (bL 1) (aM (bL 2) dQ)))) fT (aU (af (ag 0) (af (ag 1) ao))))))
noncomputable def W0:Ev->SR:=(aB (gJ (gB (aD (gc not) (ag 2) (gC (.str "walked")))) (aV (gC .non)) a9)
 (aB (aY 4 (bb ao))
 (aB (jx (cC (ag 3)) (dR 3 (aM (bL 5) (aM (bL 6) (aM (bL 7) dQ))))
 l9)
 (aV (dP jU (af (ag 4) ao))))))
def QA:fG=(aB (Fy (dR 2 (aM (bL 2) (aM (bL 3) dQ))) (dw 2 c8 (af (ag 0) (af (ag 1) ao)))) WZ):=rfl
def Tg:j1=(aB (Fy (dR 2 (aM (bL 2) (aM (bL 3) dQ))) (dw 2 c8 (af (ag 0) (af (ag 1) ao)))) W0):=rfl
noncomputable def KC (g:Nat):U:=.lst ((Dd g).map λt=>.tup [.tup (CL t),.tup [.int 1,.int (2 ^ g)]])
theorem Mz (hg:g<=2){ρ:Int->Int}{w:Int}(hw:w=0\/w=1)(h:Ps m g z ρ w):eY [z,gA m ρ]=.ok (.lst [eP (w,1-w)])/\cx [z,gA m ρ]=.ok (KC g):=by
 obtain⟨L,hL,e⟩:=h 10 (gA m ρ) 1 [] (by lia) (by simp;lia);have t:=My hg hL hw z (gA m ρ);have e1:c8 [z,gA m ρ]=.ok (.tup [.str "walked",Qx g w]):=by
  rw[←t,c8,Qw];simp only[Pzz,cb,Nat.reduceAdd,Nat.reduceSub,e]
 have hw:w∈[(0:Int),1]:=by rcases hw with rfl|rfl<;>decide
 have hg:g∈[0,1,2]:=by simp;lia
 generalize gA m ρ=r at *;have A:[0,1,2].map (λg=>[(0:Int),1].map λw=>Ap .S (W0 [some z,some r,some (.str "walked"),some (Qx g w),none,none,none,none]))=[0,1,2].map (λg=>[(0:Int),1].map λw=>.ok (.lst [eP (w,1-w)])):=by kernel_rfl
 have B:[0,1,2].map (λg=>[(0:Int),1].map λw=>Ap .S (WZ [some z,some r,some (.str "walked"),some (Qx g w)]))=[0,1,2].map (λg=>[(0:Int),1].map λw=>.ok (KC g)):=by kernel_rfl
 constructor
 ·rw[←jn (jn A g hg) w hw,eY,Tg];simp only[Pzz,cb,Nat.reduceAdd,Nat.reduceSub,e1,Q0]
 ·rw[←jn (jn B g hg) w hw,cx,QA];simp only[Pzz,cb,Nat.reduceAdd,Nat.reduceSub,e1,Q0]
theorem zo:∀F:Fm,∃d,fP F.u=some d/\cB d<=F.dep
 | .bit n=>⟨.tup [.str "bit",.int n],by simp[Fm.u,fP,fU],by simp[cB,fJ,Fm.dep]⟩
 | .neg f=>by
  obtain⟨d,e,l⟩:=zo f;exact⟨.tup [.str "not",d],by simp[Fm.u,fP,fU,e],by simp[cB,fJ,Fm.dep];lia⟩
 | .two w f g=>by
  obtain⟨d,e,l⟩:=zo f;obtain⟨d',e',l'⟩:=zo g;exact⟨.tup [.str w,d,d'],by simp[Fm.u,fP,fU,e,e'],by simp[cB,fJ,Fm.dep];lia⟩
theorem EZ:∀(F:Fm) (k:Nat),F.ok->F.dep<=k->lq k F.u=some F.bits
 | .bit n,0,_,hd=>by unfold Fm.dep at hd;lia
 | .neg f,0,_,hd=>by unfold Fm.dep at hd;lia
 | .two w f g,0,_,hd=>by unfold Fm.dep at hd;lia
 | .bit n,k+1,_,hd=>by
  have e:kd (Fm.bit n).u=some ([n],[]):=by kernel_rfl
  rw[lq,e];rfl
 | .neg f,k+1,ho,hd=>by
  have i:=EZ f k ho (by unfold Fm.dep at hd;lia);have e:kd (Fm.neg f).u=some ([],[f.u]):=by kernel_rfl
  rw[lq,e,aaV];dsimp only;rw[d9,i,aaV];show some ([]++(f.bits++[]))=_;rw[aad];rfl
 | .two w f g,k+1,ho,hd=>by
  have i:=EZ f k ho.2.1 (by unfold Fm.dep at hd;lia);have j:=EZ g k ho.2.2 (by unfold Fm.dep at hd;lia);have e:kd (Fm.two w f g).u=some ([],[f.u,g.u]):=by rcases ho.1 with rfl|rfl|rfl<;>kernel_rfl
  rw[lq,e,aaV];dsimp only;rw[d9,d9,i,j,aaV,aaV];show some ([]++(f.bits++(g.bits++[])))=_;rw[aad];rfl
theorem Th {F:Fm}(ho:F.ok)(hb:Bq n F.bits)(h3:n<=3)(hd:F.dep<=20):d7 [F.u]=.ok (.bl true):=by
 obtain⟨d,e,l⟩:=zo F;rw[wX ⟨d,e,(by lia)⟩];have ln:F.bits.length=n:=by have:=hb.length_eq;rwa [cG] at this
 unfold Ql;rw[EZ F 20 ho hd];show R.ok (U.bl (qv F.bits))=_;unfold qv;rw[hG (show F.bits.length<=3 by lia),ln,hG (qw.mpr hb)];rfl
noncomputable def mf:Nat->List (List Int)
 |1=>[[0],[1]]
 |2=>[[0,0],[1,0],[0,1],[1,1]]
 |_=>[[0,0,0],[1,0,0],[0,1,0],[1,1,0],[0,0,1],[1,0,1],[0,1,1],[1,1,1]]
noncomputable abbrev Oj (r:List Int):U:=.tup (r.map .int)
theorem MA (h1:1<=n)(h3:n<=3):eB [.int n]=.ok (.lst ((mf n).map Oj))/\mf n≠[]/\∀r∈mf n,(r.length=n/\∀x∈r,x=0\/x=1)/\mW [Oj r]=.ok (gA (2*n+2) (rρ r))/\eZ [Oj r]=.ok (gA (2*n+2) (rρ r))/\i9 6 [gA (2*n+2) (rρ r),gA (2*n+2) (rρ r)]=.ok (.bl true):=by
 have hn:n∈[1,2,3]:=by simp;lia
 have A:[1,2,3].map (λn=>(mf n).map λr=>(mW [Oj r],eZ [Oj r],i9 6 [gA (2*n+2) (rρ r),gA (2*n+2) (rρ r)]))=[1,2,3].map λn=>(mf n).map λr=>(R.ok (gA (2*n+2) (rρ r)),R.ok (gA (2*n+2) (rρ r)),R.ok (U.bl true)):=by kernel_rfl
 have B:[1,2,3].map (λn:Nat=>eB [.int n])=[1,2,3].map λn=>.ok (.lst ((mf n).map Oj)):=by kernel_rfl
 have C:∀n∈[1,2,3],mf n≠[]/\∀r∈mf n,r.length=n/\∀x∈r,x=0\/x=1:=by decide
 refine⟨jn B n hn,(C n hn).1,λr hr=>⟨(C n hn).2 r hr,?_⟩⟩;have q:=jn (jn A n hn) r hr;injection q with q1 q
 injection q with q2 q3
 exact⟨q1,q2,q3⟩
def Ti (p:Int×Int):jO (.lst [eP p]) (.lst [eP p])=.ok true:=by
 have e:fP (.lst [eP p])=some (.lst [.tup [.int p.1,.int p.2]]):=by simp[eP,fP,fU]
 unfold jO;rw[e];dsimp only;rw[hV (by simp[cB,fJ])];simp[iu,lA]
theorem Tj (h:g<=2):jO (KC g) (KC g)=.ok true:=by
 have:g=0\/g=1\/g=2:=(by lia)
 rcases this with rfl|rfl|rfl<;>kernel_rfl
theorem By {F:Fm}(ho:F.ok)(hb:Bq n F.bits)(h1:1<=n)(h3:n<=3)(hd:F.dep<=20):g6 [F.u]=.ok (.bl true):=by
 have ln:F.bits.length=n:=by have:=hb.length_eq;rwa [cG] at this
 have gl:=vW F;have hg:gn F<=2:=(by lia)
 have hm:∀i∈F.bits,0<=i/\i<(n:Int):=λi hi=>fg.mp (hb.mem_iff.mp hi);obtain⟨ys,eb,lb⟩:=lZ F 30 ho (by lia) (by lia);have hf:=Th ho hb h3 hd;obtain⟨z,ep,es,ew⟩:=Mx ho hb h1 h3 (by lia) hf;have es:=es 10 (by lia);obtain⟨ea,en,er⟩:=MA h1 h3;have S:ZH=16777216:=rfl;have nl:(mf n).length<=8:=by
  have:n=1\/n=2\/n=3:=(by lia)
  rcases this with rfl|rfl|rfl<;>decide
 have cl:decide ((40:Int)<cn (gn F))=false:=by
  have:gn F=0\/gn F=1\/gn F=2:=(by lia)
  rcases this with e|e|e<;>rw[e]<;>decide
 have Y_:decide ((12:Int)<((2*gn F+1:Nat):Int))=false:=hJ (by lia);obtain⟨ρ',ef,o5,o6,rfl⟩:=jG (sg:=bL 5) (s:=kJ) (us:=(mf n).map Oj) (λi ρ=>∃o5 o6:Option U,ρ=[some F.u,some (.int n),some z,some (.tup [.int (cn (gn F)),.int ((2*gn F+1:Nat):Int)]),some (.lst (acu i (KC (gn F)))),o5,o6])
  (λi v ρ hv h00=>by
   obtain⟨o5,o6,hρ⟩:=h00;subst hρ;have hi:i<8:=by
    have:=(ZN.mp hv).1;rw[Zz] at this;lia
   obtain⟨r,hr1,rfl⟩:=aal.mp (aan hv);obtain⟨⟨l1,l2⟩,q1,q2,q3⟩:=er r hr1;have Za:=sI l2 F (by rw[l1];exact hm);obtain⟨t1,t2⟩:=Mz hg Za (ew r l1 l2);have w1:=qt l2 F 30 ho (by lia) (by rw[l1];exact hm);have w2:i8 [.int (F.wo r)]=.ok (eP (F.wo r,1-F.wo r)):=by unfold eP;simp only[Pzz,cb,Nat.reduceAdd,Nat.reduceSub,i8,m4]
   have z1:i<ZH:=(by lia)
   refine⟨_,[some F.u,some (.int n),some z,some (.tup [.int (cn (gn F)),.int ((2*gn F+1:Nat):Int)]),some (.lst (acu (i+1) (KC (gn F)))),some (Oj r),some (gA (2*n+2) (rρ r))],rfl,.inl ?_,_,_,rfl⟩;unfold kJ;rw[List.replicate_succ'];generalize gA (2*n+2) (rρ r)=rw at *;simp only[Pzz,cb,Nat.reduceAdd,Nat.reduceSub,q1,q2,q3,t1,w1,w2,Ti,t2,C9,acB,z1]) (ρ:=[some F.u,some (.int n),some z,some (.tup [.int (cn (gn F)),.int ((2*gn F+1:Nat):Int)]),some (.lst []),none,none]) ⟨none,none,rfl⟩
 rw[Zz] at ef;have cm:oQ 2 (n:Int)=true:=by
  have:n=1\/n=2\/n=3:=(by lia)
  rcases this with rfl|rfl|rfl<;>kernel_rfl
 rw[show ((2*n+2:Nat):Int)=2*(n:Int)+2 by lia] at es;obtain⟨N,hN⟩:∃N,(mf n).length=N+1:=⟨(mf n).length-1,by have:=List.length_pos_iff.mpr en;lia⟩;rw[hN] at ef;have fin:∀(a b c d:Option U) (r:Ev),ko (xp [none,some 4] (bL 0) (gB (aD (gc not) (ag 0) (zqb 1 0))) (ag 0) (a::b::c::d::some (.lst (acu (N+1) (KC (gn F))))::r)) (acu (N+1) (KC (gn F)))=.ok []:=λa b c d r=>Kh λu hu=>by
  rw[List.eq_of_mem_replicate hu];have e0:mx (acu (N+1) (KC (gn F))) 0=some (KC (gn F)):=by rw[Ju,aeb];rfl
  simp only[LM,Vo,Eb,I_,qS,qT,uJ,Jc,yt,Vn,Jj,LO,IA,yr,aax,acj,abO,acy,e0,Jk,Tj hg,acf,Z9,if_false]
 have nn:DV (.tup [.int (cn (gn F)),.int ((2*gn F+1:Nat):Int)])=false:=rfl;simp only[Pzz,cb,Nat.reduceAdd,Nat.reduceSub,g6,lS,eb,Zz,lb,ln,ep,cm,es,nn,id,yw,cl,Y_,ea];rw[ef];simp only[Oe,IP,LM,I0,Cv,Eb,aax,acj,yr,yt,Cw,fin,Ct,Cs,LO,Ux,id,Ec,Cu,Uz,yv,aaL,NS,if_true]
theorem MB {F:Fm}{s:U}{x0 x1:Option U}:∃o,f9 (bL 5) yR (bY 0 n) [x0,x1,some s,some F.u,some F.u,x5]=.nx [x0,x1,some s,some F.u,some (lU n F).u,o]:=by
 obtain⟨ρ',e,o,rfl⟩:=jG (sg:=bL 5) (s:=yR) (us:=bY 0 n) (λi ρ=>∃o:Option U,ρ=[x0,x1,some s,some F.u,some (lU i F).u,o])
  (λi v ρ hv h00=>by
   obtain⟨o,hρ⟩:=h00;subst hρ;refine⟨_,_,rfl,.inl (by
    unfold yR;simp only[Pzz,cb,Nat.reduceAdd,Nat.reduceSub,adh,acy];rfl),some v,rfl⟩) (ρ:=[x0,x1,some s,some F.u,some F.u,x5]) ⟨x5,rfl⟩
 rw[iF] at e;exact⟨o,e⟩
theorem Tn {x2 x3 x4:Option U}:∃y2 y3 y4 y5:Option U,yS [some (.scr (ns.map .int)),some (.int i),x2,x3,x4,x5]=.nx [some (.scr (ns.map .int)),some (.int i),y2,y3,y4,y5]:=by
 obtain⟨s1,e1,hs1⟩:=JV (us:=[]) (ns:=ns) (u:=.scr (ns.map .int)) (k:=i) (.inl rfl) (by lia);obtain⟨F,s2,n,e2,f2,f3,f4,f5,f6,cV⟩:=Mf hs1;obtain⟨t,s3,e3,t0,t1,Q3⟩:=nW (m:=11) cV (by decide) (by decide);obtain⟨d,rfl⟩:∃d:Nat,t=d:=⟨t.toNat,(by lia)⟩;obtain⟨o,e4⟩:=MB (F:=F) (s:=s3) (x0:=some (.scr (ns.map .int))) (x1:=some (.int i)) (x5:=x5) (n:=d);obtain⟨n1,n2,n3⟩:=vN d F;have r1:=By f2 f3 f4 f5 (by lia);have r2:=By (F:=lU d F) (n3 f2) (by rw[n1];exact f3) f4 f5 (by lia);refine⟨some s3,some F.u,some (lU d F).u,o,?_⟩;unfold yS;simp only[Pzz,cb,Nat.reduceAdd,Nat.reduceSub,e1,e2,e3,yu d (by lia),e4,r1,r2]
theorem pure_law (ns:List Int)(hl:ns.length<=63):A9 [.scr (ns.map .int)]=.ok (.bl true):=by
 obtain⟨z,hz⟩:∃z:Nat,(if (if (3:Int)<(((ns.map U.int).length:Nat):Int) then 3 else (((ns.map U.int).length:Nat):Int))>1 then (if (3:Int)<(((ns.map U.int).length:Nat):Int) then 3 else (((ns.map U.int).length:Nat):Int)) else 1)=z:=⟨(if (if (3:Int)<(((ns.map U.int).length:Nat):Int) then 3 else (((ns.map U.int).length:Nat):Int))>1 then (if (3:Int)<(((ns.map U.int).length:Nat):Int) then 3 else (((ns.map U.int).length:Nat):Int)) else 1).toNat,by split<;>(try split)<;>lia⟩;have zb:z<=1000:=by split at hz<;>(try split at hz)<;>lia
 obtain⟨ρ',e,a,b,c,d,e',rfl⟩:=jG (us:=bY 0 z) (sg:=bL 1) (s:=yS) (λ_ ρ=>∃a b c d e:Option U,ρ=[some (.scr (ns.map .int)),a,b,c,d,e])
  (λi u ρ hu h00=>by
   obtain⟨a,b,c,d,e,hr⟩:=h00;subst hr;obtain rfl:=GB hu;obtain⟨a1,b1,c1,d1,q⟩:=Tn (ns:=ns) (i:=i) (x2:=b) (x3:=c) (x4:=d) (x5:=e);exact⟨_,_,rfl,.inl q,_,_,_,_,_,rfl⟩)
  (ρ:=[some (.scr (ns.map .int)),none,none,none,none,none]) ⟨_,_,_,_,_,rfl⟩
 simp only[Pzz,cb,Nat.reduceAdd,Nat.reduceSub,A9,JS,hz,yu z (by lia),e]
def walk {q:abM}{d:DefRec}{K:Params->ZD}(Tu:d.params.defaults=[])(hY:∀(w:acd) (h:abT),YP w h->(K w.params).In h)(F:∀(w:acd) (mg:Str->Option ZF) (fa:ZY) (h:abT),(K w.params).In h->h.Ns aag mg->mg d.name=some (.ref fa)->
   ∃fd:adR,(∀(s:ZT) (u:ZF),BindsTo s fd ⟨[u],[]⟩ [("script",u)])/\∀base:abT,(K w.params).In base->base.Ns aag mg->nZ PySem.Challenge.rw_hushcards_k56_plans_of_formulas.prog w (K w.params) mg base zM 35 fa fd ["script"] (Ad (K w.params))) :
  PySem.W.WalkO q loose XP YP PySem.Challenge.rw_hushcards_k56_plans_of_formulas.row.toRowW d [] (λf vs=>PySem.call f vs):=
 L2.walk_of (l:=PySem.Challenge.rw_hushcards_k56_plans_of_formulas) (n:=63) (k:=35) (x:="script") (CX:=λ_=>zM) (sp:=λw=>Ad (K w.params)) rfl (by decide) Tu ⟨rfl,(by decide),(by decide)⟩ hY F (λ_ _ a ns hl hO hS=>⟨a,ns,rfl,Pz hO hS,hl,λ_=>rfl⟩) λ_ _ _ _ _ z=>z
end Hc
open PySem PySem.W PyProof.Rows
set_option maxRecDepth 100000 in
set_option maxHeartbeats 0 in
theorem PySem.Challenge.cw_hushcards_k56_plans_of_formulas_holds : PySem.Challenge.rw_hushcards_k56_plans_of_formulas.Holds := by
 w_on
 refine PySem.W.holds_law (by decide+kernel) λWv=>?_;refine' PySem.W.holds_open Hc.left (PySem.W.Hook.of _) (PySem.W.Hook.keeps _) (XP:=PySem.W.XL Hc.vw [])
  (λs e=>PySem.W.xl_of s (Bool.and_eq_true_iff.mp e).1) PySem.W.XL.keeps ?d ?t ?k
  (λs e=>PySem.W.recFacts_of (Bool.and_eq_true_iff.mp e).2) ?w Wv ?g ⟨rfl,rfl,rfl,rfl,rfl,by decide+kernel⟩ ?hw ?hc
 case d=>rfl
 case t=>rfl
 case k=>rfl
 case w=>rfl
 case g=>decide+kernel
 case hw=>w_witness2
 show PySem.W.WalkO Hc.vw [] (PySem.W.XL Hc.vw []) (PySem.W.InK Hc.Kf) _ _ _ _
 k_fill
 refine Hc.walk rfl (λw h Y=>Y) ?F
 case F=>
  intro w mg fa h KX G Tv;refine' Hc.all_mk KX G Tv ?_ ?_ ?_ ?_ ?_ ?_ ?_ ?_ ?_ ?_ ?_ ?_ ?_ ?_ ?_ ?_ ?_ ?_ ?_ ?_ ?_ ?_ ?_ ?_ ?_ ?_ ?_ ?_ ?_ ?_ ?_ ?_ ?_ ?_ ?_ ?_ ?_ ?_ ?_ ?_ ?_ ?_ ?_ ?_ ?_ ?_ ?_ ?_ ?_ ?_ ?_ ?_ ?_ ?_ ?_ ?_ ?_ ?_ ?_ ?_ Hc.pure_law
  all_goals first|k_is|exact .mk (by k_is) (by k_is) (by k_is) (by k_is)|skip